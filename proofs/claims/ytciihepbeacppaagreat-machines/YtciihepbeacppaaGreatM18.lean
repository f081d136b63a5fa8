import Derived.Test.YtciihepbeacppaaGreatM17
import Derived.Test.YtciihepbeacppaaGreatWX
import Derived.Test.YtciihepbeacppaaGreatM09
namespace Go.Proofs.YtciihepbeacppaaGreat
open Go.RowKit
def lkR (ad nx : List Int) (a : Int) : Option Int:=if ad.idxOf a < ad.length then some (nx.getD (ad.idxOf a) 0) else none
def seR (ad V : List Int) : List Bool:=ad.map (fun a=>decide (a ∈ V))
structure MeA (ad V : List Int) : Prop where
 nd : V.Nodup
 sub : ∀ a ∈ V,a ∈ ad
theorem MeA.nil (ad : List Int) : MeA ad []:=⟨List.nodup_nil,fun _ h=>by cases h⟩
theorem MeA.cons {ad V : List Int} (h : MeA ad V) {a : Int} (ha : a ∉ V) (hm : a ∈ ad) : MeA ad (a :: V) :=
 ⟨List.nodup_cons.2 ⟨ha,h.nd⟩,fun b hb=>by rcases List.mem_cons.1 hb with rfl | hb; exact hm; exact h.sub b hb⟩
theorem MeA.le {ad V : List Int} (h : MeA ad V) : V.length ≤ ad.length:=h.nd.length_le_of_subset h.sub
theorem MeA.lt {ad V : List Int} (h : MeA ad V) {a : Int} (ha : a ∉ V) (hm : a ∈ ad) : V.length < ad.length:=by
 have:=(h.cons ha hm).le
 simp only [List.length_cons] at this
 omega
theorem MeA.all {ad V : List Int} (h : MeA ad V) (hn : ad.Nodup) : V.length = ad.length ↔ ∀ a ∈ ad,a ∈ V:=by
 constructor
 ·intro e a ha
  apply Classical.byContradiction
  intro hna
  have:=h.lt hna ha
  omega
 ·intro hall
  have:=hn.length_le_of_subset hall
  have:=h.le
  omega
theorem seR_len (ad V : List Int) : (seR ad V).length = ad.length:=by simp [seR]
theorem seR_nil (ad : List Int) : bools (seR ad []) = List.replicate ad.length (.bool false):=by
 apply List.ext_getElem
 ·simp [seR,bools]
 ·intro j h1 h2; simp [seR,bools]
theorem seR_set {ad V : List Int} (hn : ad.Nodup) {i : Nat} (hi : i < ad.length) : (seR ad V).set i true = seR ad (ad[i] :: V):=by
 apply List.ext_getElem
 ·simp [seR]
 ·intro j h1 h2
  simp only [seR,List.length_set,List.length_map] at h1 h2
  rw [List.getElem_set]
  by_cases e : i = j
  ·subst e; simp [seR]
  ·have hne : ad[j] ≠ ad[i]:=fun h=>e ((List.getElem_inj hn).1 h).symm
   simp [seR,e,hne]
def exitW : ByteArray:=⟨#[101,120,105,116]⟩
def seM (cl : List Ins) (m : RM) : RM:=if m.wh ≠ 0 ∨ eqW (cl.getD m.nd insZ).op exitW = false then m else { m with wh:=if (rchA (lkR m.ad m.nx) m.ad.length [] m.st).length = m.ad.length then 1 else 2 }
theorem ins_get {l : List Ins} {k : Nat} (h : k < l.length) : ∀ j,j < 6 → (insCells l)[k * 6 + j]? = l[k].cells[j]?:=by
 induction l generalizing k with
 | nil=>simp at h
 | cons x l ih =>
  have hx : insCells (x :: l) = x.cells ++ insCells l:=rfl
  have hl : x.cells.length = 6:=rfl
  intro j hj
  cases k with
  | zero=>rw [hx,List.getElem?_append_left (by omega)]; simp
  | succ k =>
   rw [hx,List.getElem?_append_right (by omega),hl,show (k + 1) * 6 + j - 6 = k * 6 + j by omega,ih (by simpa using h) j hj]
   rfl
section
variable {w w' : World} {y : RL} {vs : List ByteArray} {al : List RAt} {cl : List Ins} {m : RM}
theorem exitW_l : exitW.toList = [101,120,105,116]:=ByteArray.toList_eq _
set_option maxRecDepth 100000 in
set_option maxHeartbeats 4000000 in
theorem rsettle_any (h : Rc w y vs al cl m) (hv : vs.length ≤ 1000) (hn : m.nd < cl.length) (hcl : cl.length ≤ 100000) (hl : m.ad.length ≤ 100000) (hnd : m.ad.Nodup) :
  Calls Tryz.prog 165 #[.pointer (some ⟨y.R,0,none⟩)] w fun e w'=>e = .returned (.tuple #[]) ∧ Rc w' y vs al cl (seM cl m) ∧ Stp y.fp w y.fp w':=by
 have H:=hide h
 have r0:=h.r0
 have r1:=h.r1
 have r2:=h.r2
 have r3:=h.r3
 have p3 : w.cell? ⟨y.P,3,none⟩ = some y.cv:=h.rp.bk.cell 3 rfl
 obtain ⟨cg,ccap,hcv,hccn,hccm,hcgl⟩:=own_pos h.rp.cr (by omega)
 have hcr:=h.rp.cr
 rw [hcv] at p3 hcr
 have o0:=ins_get hn 0 (by omega)
 rw [Nat.add_zero] at o0
 obtain ⟨op,hop⟩ : ∃ op,op = cl[m.nd].op:=⟨_,rfl⟩
 have o1 : w.cell? ⟨cg,m.nd * 6,none⟩ = some (.string op):=by rw [hcr.cellAt (m.nd * 6) (by omega),o0,hop]; rfl
 have hgd : (cl.getD m.nd insZ).op = op:=by rw [hop]; simp [hn]
 have HGD:=hide hgd
 clear h hcr o0 hop hgd hcv
 by_cases hwh : m.wh ≠ 0
 ·have hw0 : ((m.wh : Int) != 0) = true:=by simpa [bne] using hwh
  have HE : Hid (seM cl m = m):=hide (by unfold seM; rw [if_pos (Or.inl hwh)])
  clear hwh
  go_enter Tryz.func165,Tryz.ntmps165
  go_wp2_with fail
  go_quiet (fail)
  go_wp2_with fail
  exact bodyPost_ret (v:=.tuple #[]) (by simp [results,Tryz.results165,go_sem]) rfl ⟨rfl,by rw [uh HE]; exact (uh H).below (below_drewQ _ _),Stp.ofBw (below_drewQ _ _)⟩
 ·have hw0 : ((m.wh : Int) != 0) = false:=by simpa [bne] using hwh
  cases hex : eqW op exitW with
  | false =>
   have HE : Hid (seM cl m = m):=hide (by unfold seM; rw [if_pos (Or.inr (by rw [uh HGD]; exact hex))])
   have hb : (op.toList == [101,120,105,116]) = false:=by rw [← exitW_l]; exact hex
   have hb2 : (op.toList != [101,120,105,116]) = true:=by rw [bne,hb]; rfl
   clear hwh hex
   go_enter Tryz.func165,Tryz.ntmps165
   go_wp2_with fail
   go_quiet (fail)
   go_wp2_with fail
   exact bodyPost_ret (v:=.tuple #[]) (by simp [results,Tryz.results165,go_sem]) rfl ⟨rfl,by rw [uh HE]; exact (uh H).below (below_drewQ _ _),Stp.ofBw (below_drewQ _ _)⟩
  | true =>
   have HE : Hid (seM cl m = { m with wh:=if (rchA (lkR m.ad m.nx) m.ad.length [] m.st).length = m.ad.length then 1 else 2 }):=hide (by
    unfold seM
    rw [if_neg]
    rintro (h1 | h1)
    ·exact hwh h1
    ·rw [uh HGD,hex] at h1; cases h1)
   have hb : (op.toList == [101,120,105,116]) = true:=by rw [← exitW_l]; exact hex
   have hb2 : (op.toList != [101,120,105,116]) = false:=by rw [bne,hb]; rfl
   obtain ⟨i0,hi,hz0,hz1,hz2⟩:=info_parts (Tryz.infoBoolQ)
   have h2:=(uh H).h2
   have h1:=(uh H).h1
   obtain ⟨ao,acap,hav,hacn,hacm⟩:=own_slc (uh H).ad
   obtain ⟨so,scap,hsv,hscn,hscm⟩:=own_slc (uh H).st
   rw [hav] at h2
   rw [hsv] at h1
   have HAv:=hide hav
   have HSv:=hide hsv
   have HND:=hide hnd
   have hls:=(uh H).ls
   have hsl : m.st.length ≤ 1000:=by omega
   clear hwh hex hav hsv hnd hls
   go_enter Tryz.func165,Tryz.ntmps165
   go_wp2_with fail
   go_quiet (fail)
   obtain ⟨w0,hw0'⟩ : ∃ w0,w0 = w.drewN nq:=⟨_,rfl⟩
   have hb0 : Below w.heap.size w w0:=by rw [hw0']; exact below_drewQ _ _
   have H0:=hide ((uh H).below hb0)
   have HS0 : Hid (Stp y.fp w y.fp w0):=hide (Stp.ofBw hb0)
   have g1:=(uh H0).r1
   have g2:=(uh H0).h2
   rw [uh HAv] at g2
   rw [← hw0']
   clear hw0' hb0 r0 r1 r2 r3 p3 h1 h2 o1 hw0
   go_wp2_with (at_make; refine wpList_make_full _ rfl _ _ 200 rfl w0.heap.size 4 i0 (.bool false) 1 Tryz.underlying200 hi hz0 hz1 .i64 .i64 _ _ m.ad.length rfl rfl rfl rfl ?b2 ?b3 ?b4 ?_)
   case b2=>rw [hz2]; omega
   case b3=>unfold maxLen; omega
   case b4=>simp
   intro w1 hown1 hgrow1
   have hb1 : Below w0.heap.size w0 w1:=(Below.refl _ _).grown hgrow1 (Nat.le_refl _) (fun k h=>by cases h)
   obtain ⟨N,hN⟩ : ∃ N,N = w0.heap.size:=⟨_,rfl⟩
   have hr1 : w1.ownsRow N 4 1 (.slice (some ⟨N,0,none⟩) m.ad.length m.ad.length) m.ad.length (bools (seR m.ad [])):=by
    rw [seR_nil,hN]
    simpa [Value.cells,toList_madeCells_one] using hown1
   rw [← hN] at hb1 ⊢
   have HNe:=hide hN
   have HB1:=hide hb1
   have HR1:=hide hr1
   clear hown1 hgrow1 hb1 hr1 hN g1 g2
   go_wp2_with fail
   -- what is known in each world of the first loops
   have HFa : Hid (∀ W,Below N w0 W → Rc W y vs al cl m):=hide (fun W hW=>(uh H0).below (by rw [← uh HNe]; exact hW))
   go_loopg [3] m.st.length (fun gn k wr=>∃ (j : Nat) (V : List Int),j + gn = m.st.length ∧ k = .int .i64 j ∧ Hid (rchA (lkR m.ad m.nx) m.ad.length V (m.st.drop j) = rchA (lkR m.ad m.nx) m.ad.length [] m.st) ∧ Hid (MeA m.ad V) ∧ Hid (wr.ownsRow N 4 1 (.slice (some ⟨N,0,none⟩) m.ad.length m.ad.length) m.ad.length (bools (seR m.ad V))) ∧ Hid (Below N w0 wr))
   case atStart=>exact ⟨0,[],by omega,rfl,hide rfl,hide (MeA.nil _),HR1,HB1⟩
   case round =>
    clear HR1 HB1
    obtain ⟨j,V,hj,rfl,hE,hM,hrow,hbw⟩:=hrel
    have hc:=uh HFa _ (uh hbw)
    have g1:=hc.r1
    have e1:=hc.h1
    rw [uh HSv] at e1
    by_cases hlt : j < m.st.length
    ·have hd : decide ((j : Int) < (m.st.length : Int)) = true:=by simp; omega
     obtain ⟨sg,scap',hse,-,-,-⟩:=own_pos hc.st (by omega)
     have hse2:=(uh HSv).symm.trans hse
     cases hse2
     have hsr:=hc.st
     rw [hse] at hsr
     have x1:=(hsr.cellAt j (by omega)).trans (ints_get hlt)
     have HEs : Hid (rchA (lkR m.ad m.nx) m.ad.length V (m.st.drop j) = rchA (lkR m.ad m.nx) m.ad.length (wkA (lkR m.ad m.nx) (m.ad.length + 1) V (m.st.getD j 0)) (m.st.drop (j + 1))):=hide (by
      rw [List.drop_eq_getElem_cons hlt]
      have : m.st.getD j 0 = m.st[j]:=by simp [hlt]
      rw [this]; rfl)
     obtain ⟨a,ha⟩ : ∃ a,a = m.st.getD j 0:=⟨_,rfl⟩
     rw [← ha] at x1 HEs
     have HF1:=hide (rat_any hc hl a)
     clear ha hse hsr hc
     go_wp2_with fail
     refine (uh HF1).mono ?_
     rintro e w2 ⟨rfl,rfl⟩
     go_wp2_with fail
     go_loopg [4] (m.ad.length - V.length) (fun gn k wr=>∃ (V' : List Int) (b : Int) (t : Nat),V'.length + gn = m.ad.length ∧ m.ad.length < t + V'.length ∧ k = .int .i64 (rI m.ad b) ∧ Hid (wkA (lkR m.ad m.nx) t V' b = wkA (lkR m.ad m.nx) (m.ad.length + 1) V a) ∧ Hid (MeA m.ad V') ∧ Hid (wr.ownsRow N 4 1 (.slice (some ⟨N,0,none⟩) m.ad.length m.ad.length) m.ad.length (bools (seR m.ad V'))) ∧ Hid (Below N w0 wr))
     case atStart=>exact ⟨V,a,m.ad.length + 1,by have:=(uh hM).le; omega,by omega,rfl,hide rfl,hM,hrow,hbw⟩
     case round =>
      clear hM hrow hbw x1 HF1 g1 e1
      obtain ⟨V',b,t,hgn,htt,rfl,hW,hM,hrow,hbw⟩:=hrel
      by_cases hf : m.ad.idxOf b < m.ad.length
      ·have ei : rI m.ad b = (m.ad.idxOf b : Int):=if_pos hf
       have hib : m.ad[m.ad.idxOf b] = b:=List.getElem_idxOf hf
       have hmem : b ∈ m.ad:=by rw [← hib]; exact List.getElem_mem hf
       have hlk : lkR m.ad m.nx b = some (m.nx.getD (m.ad.idxOf b) 0):=if_pos hf
       obtain ⟨i,hi2⟩ : ∃ i,i = m.ad.idxOf b:=⟨_,rfl⟩
       have hcs:=((uh hrow).cellAt i (by omega))
       have hse : (bools (seR m.ad V'))[i]? = some (.bool (decide (b ∈ V'))):=by
        rw [bools_get (by rw [seR_len]; omega)]
        have : (seR m.ad V').getD i false = decide (b ∈ V'):=by
         have hi3 : i < m.ad.length:=by omega
         simp only [seR,List.getD_eq_getElem?_getD,List.getElem?_map,List.getElem?_eq_getElem hi3,Option.map_some,Option.getD_some]
         simp only [hi2,hib]
        rw [this]
       rw [hse] at hcs
       have hfz:=(uh hrow).frozenAt i
       rw [ei]
       rw [← hi2] at hf hlk ⊢
       by_cases hin : b ∈ V'
       ·have hW2 : wkA (lkR m.ad m.nx) (m.ad.length + 1) V a = V':=by rw [← uh hW]; exact wkA_in hlk hin
        rw [decide_eq_true hin] at hcs
        have HW2:=hide hW2
        clear ei hib hmem hlk hse hin hW2 hi2
        go_wp2_with fail
        go_roundg (m.st.length - (j + 1))
        case rel=>exact ⟨j + 1,V',by omega,by go_num,hide (by rw [← uh HW2,← uh HEs]; exact uh hE),hM,hrow,hbw⟩
        case measure=>omega
       ·have hlt2:=(uh hM).lt hin hmem
        obtain ⟨t,rfl⟩ : ∃ t',t = t' + 1:=⟨t - 1,by omega⟩
        obtain ⟨nx,hnx⟩ : ∃ nx,nx = m.nx.getD i 0:=⟨_,rfl⟩
        rw [← hnx] at hlk
        have HW2 : Hid (wkA (lkR m.ad m.nx) t (b :: V') nx = wkA (lkR m.ad m.nx) (m.ad.length + 1) V a):=hide (by rw [← uh hW,wkA_go hlk hin])
        have HM2:=hide ((uh hM).cons hin hmem)
        rw [decide_eq_false hin] at hcs
        have hr2:=((uh hrow).stored i (.bool true)).1
        have hse2 : (bools (seR m.ad V')).set i (.bool true) = bools (seR m.ad (b :: V')):=by
         have h1:=seR_set (V:=V') (uh HND) hf
         have h2 : m.ad[i] = b:=by simp only [hi2,hib]
         rw [h2] at h1
         rw [← h1]; simp [bools,List.map_set]
        rw [hse2] at hr2
        have HR2:=hide hr2
        have hb2':=(uh hbw).setCell (p:=⟨N,i,none⟩) (Nat.le_refl _) (.bool true)
        have hc2:=uh HFa _ hb2'
        have k1:=hc2.r1
        have k3:=hc2.h3
        have hlx:=hc2.lx
        obtain ⟨xg,xcap,hxv,hxn,hxm,-⟩:=own_pos hc2.nx (by omega)
        have hxr:=hc2.nx
        rw [hxv] at k3 hxr
        have hix : i < m.nx.length:=by omega
        have x2:=(hxr.cellAt i (by omega)).trans (ints_get hix)
        rw [← hnx] at x2
        have HF2:=hide (rat_any hc2 hl nx)
        have HB2:=hide hb2'
        clear ei hib hmem hlk hse hin hi2 hr2 hse2 hb2' hc2 hxr hxv hlx hnx hrow hbw hM
        go_wp2_with fail
        refine (uh HF2).mono ?_
        rintro e w3 ⟨rfl,rfl⟩
        go_wp2_with fail
        go_roundg (gk - 1)
        case rel=>exact ⟨b :: V',nx,t,by simp only [List.length_cons]; omega,by simp only [List.length_cons]; omega,rfl,HW2,HM2,HR2,HB2⟩
        case measure=>omega
      ·have ei : rI m.ad b = -1:=if_neg hf
       have hW2 : wkA (lkR m.ad m.nx) (m.ad.length + 1) V a = V':=by rw [← uh hW]; exact wkA_none (if_neg hf)
       rw [ei]
       have HW2:=hide hW2
       clear hf ei hW2
       go_wp2_with fail
       go_roundg (m.st.length - (j + 1))
       case rel=>exact ⟨j + 1,V',by omega,by go_num,hide (by rw [← uh HW2,← uh HEs]; exact uh hE),hM,hrow,hbw⟩
       case measure=>omega
    ·have hd : decide ((j : Int) < (m.st.length : Int)) = false:=by simp; omega
     have hjl : j = m.st.length:=by omega
     have hfin : rchA (lkR m.ad m.nx) m.ad.length [] m.st = V:=by rw [← uh hE,hjl,List.drop_length]; rfl
     rw [hfin] at HE
     have e3:=hc.r3
     have z3:=hc.bk.frz 3
     have HS1 : Hid (Stp y.fp w y.fp wr):=hide ((uh HS0).trans (Stp.ofBw (by rw [← uh HNe]; exact uh hbw)))
     have HC1:=hide (hc.setWhat 1)
     have HS2:=hide ((uh HS1).setCell (p:=⟨y.R,3,none⟩) (Or.inl Rc.memR) (.int .i64 ((1 : Nat) : Int)))
     have hRN : y.R ≠ N:=by
      have:=(uh H0).bk.lt
      rw [uh HNe]; omega
     have HR2 : Hid ((wr.setCell ⟨y.R,3,none⟩ (.int .i64 1)).ownsRow N 4 1 (.slice (some ⟨N,0,none⟩) m.ad.length m.ad.length) m.ad.length (bools (seR m.ad V))):=hide (own_setO (p:=⟨y.R,3,none⟩) (uh hrow) (by simpa [Value.ownBlock] using fun e=>hRN e.symm) _)
     have HAll:=hide ((uh hM).all (uh HND))
     clear hfin hjl hc hj
     go_wp2_with fail
     go_loopw [5] (fun i wr=>∃ (k : Nat) (n : Nat),k ≤ m.ad.length ∧ i = .int .i64 k ∧ Hid (n = if ∀ t,(ht : t < m.ad.length) → t < k → m.ad[t] ∈ V then 1 else 2) ∧ Hid (Rc wr y vs al cl { m with wh:=n }) ∧ Hid (wr.ownsRow N 4 1 (.slice (some ⟨N,0,none⟩) m.ad.length m.ad.length) m.ad.length (bools (seR m.ad V))) ∧ Hid (Stp y.fp w y.fp wr)) (fun i _=>m.ad.length - (intOf i).toNat)
     case atStart=>exact ⟨0,1,Nat.zero_le _,rfl,hide (by rw [if_pos]; intro t _ h; omega),HC1,HR2,HS2⟩
     case round =>
      clear HC1 HR2 HS2 HS1 hrow hbw e3 z3 g1 e1
      obtain ⟨k,n,hk,rfl,hN,hC,hrow,hS⟩:=hrel
      by_cases hlk : k < m.ad.length
      ·have hdk : decide ((k : Int) < (m.ad.length : Int)) = true:=by simp; omega
       have hcs:=(uh hrow).cellAt k (by omega)
       have hse : (bools (seR m.ad V))[k]? = some (.bool (decide (m.ad[k] ∈ V))):=by
        rw [bools_get (by rw [seR_len]; omega)]
        have : (seR m.ad V).getD k false = decide (m.ad[k] ∈ V):=by
         simp only [seR,List.getD_eq_getElem?_getD,List.getElem?_map,List.getElem?_eq_getElem hlk,Option.map_some,Option.getD_some]
        rw [this]
       rw [hse] at hcs
       by_cases hin : m.ad[k] ∈ V
       ·rw [decide_eq_true hin] at hcs
        have HN2 : Hid (n = if ∀ t,(ht : t < m.ad.length) → t < k + 1 → m.ad[t] ∈ V then 1 else 2):=hide (by
         rw [uh hN]
         congr 1
         rw [eq_iff_iff]
         constructor
         ·intro h t ht htk
          by_cases e : t = k
          ·subst e; exact hin
          ·exact h t ht (by omega)
         ·intro h t ht htk; exact h t ht (by omega))
        clear hse hin
        go_wp2_with fail
        go_roundw
        case rel=>exact ⟨k + 1,n,by omega,by go_num,HN2,hC,hrow,hS⟩
        case measure=>simp [intOf]; omega
       ·rw [decide_eq_false hin] at hcs
        have e3:=(uh hC).r3
        have z3:=(uh hC).bk.frz 3
        have HN2 : Hid (2 = if ∀ t,(ht : t < m.ad.length) → t < k + 1 → m.ad[t] ∈ V then 1 else 2):=hide (by
         rw [if_neg]
         intro h
         exact hin (h k hlk (by omega)))
        have HC2:=hide ((uh hC).setWhat 2)
        have HS2:=hide ((uh hS).setCell (p:=⟨y.R,3,none⟩) (Or.inl Rc.memR) (.int .i64 ((2 : Nat) : Int)))
        have HR2 : Hid ((wr.setCell ⟨y.R,3,none⟩ (.int .i64 2)).ownsRow N 4 1 (.slice (some ⟨N,0,none⟩) m.ad.length m.ad.length) m.ad.length (bools (seR m.ad V))):=hide (own_setO (p:=⟨y.R,3,none⟩) (uh hrow) (by simpa [Value.ownBlock] using fun e=>hRN e.symm) _)
        clear hse hin
        go_wp2_with fail
        go_roundw
        case rel=>exact ⟨k + 1,2,by omega,by go_num,HN2,HC2,HR2,HS2⟩
        case measure=>simp [intOf]; omega
      ·have hdk : decide ((k : Int) < (m.ad.length : Int)) = false:=by simp; omega
       have hne : n = if V.length = m.ad.length then 1 else 2:=by
        rw [uh hN]
        congr 1
        rw [eq_iff_iff,uh HAll]
        constructor
        ·intro h a ha
         obtain ⟨t,ht,rfl⟩:=List.mem_iff_getElem.1 ha
         exact h t ht (by omega)
        ·intro h t ht _; exact h _ (List.getElem_mem ht)
       have HNe2:=hide hne
       clear hne
       go_wp2_with fail
       go_end0
       exact ⟨rfl,by rw [uh HE,← uh HNe2]; exact uh hC,uh hS⟩
end
theorem cells4H {w : World} {r : Nat} {a b c d : Value} {T : TypeId} (h : w.heap[r]? = some (.cells #[a,b,c,d] T (0,0))) : (w.cell? ⟨r,0,none⟩ = some a ∧ w.cell? ⟨r,1,none⟩ = some b ∧ w.cell? ⟨r,2,none⟩ = some c ∧ w.cell? ⟨r,3,none⟩ = some d) ∧ ∀ j,w.frozen? ⟨r,j,none⟩ = false:=by
 refine ⟨⟨?_,?_,?_,?_⟩,fun j=>?_⟩ <;> simp [World.cell?,World.frozen?,h]
structure HsC (w0 wr : World) (vv sv av xv : Value) (st ad nx : List Int) : Prop where
 hx : wr.heap[w0.heap.size]? = some (.cells #[vv,sv,av,xv] 216 (0,0))
 rs : wr.ownsRow (w0.heap.size + 1) 3 1 sv st.length (ints st)
 ra : wr.ownsRow (w0.heap.size + 1) 3 1 av ad.length (ints ad)
 rx : wr.ownsRow (w0.heap.size + 1) 3 1 xv nx.length (ints nx)
 bl : Below w0.heap.size w0 wr
 sz : w0.heap.size + 1 ≤ wr.heap.size
 n1 : ∀ k,sv.ownBlock = some k → av.ownBlock ≠ some k ∧ xv.ownBlock ≠ some k
 n2 : ∀ k,av.ownBlock = some k → xv.ownBlock ≠ some k
theorem ints_app1 (l : List Int) (x : Int) : ints (l ++ [x]) = ints l ++ [.int .i64 x]:=by simp [ints]
theorem HsC.addA {w0 wr w4 : World} {vv sv av xv : Value} {st ad nx : List Int} {x : Int} {g cap k n : Nat} {o : Obj} (h : HsC w0 wr vv sv av xv st ad nx) (hn : ad.length = n) (hown : w4.ownsRow (w0.heap.size + 1) 3 1 (.slice (some ⟨g,0,none⟩) (n + 1) cap) (n + 1) (ints ad ++ [.int .i64 x]))
  (hg : ((wr.drewN k).alloc o).grownBy w4 av.ownBlock) (hblk : some g = av.ownBlock ∨ g = ((wr.drewN k).alloc o).heap.size) :
  HsC w0 (w4.setCell ⟨w0.heap.size,2,none⟩ (.slice (some ⟨g,0,none⟩) (n + 1) cap)) vv sv (.slice (some ⟨g,0,none⟩) (n + 1) cap) xv st (ad ++ [x]) nx:=by
 subst hn
 have hs:=h.sz
 have hsz : ((wr.drewN k).alloc o).heap.size = wr.heap.size + 1:=by simp
 have hsame : ∀ j,j < wr.heap.size → av.ownBlock ≠ some j → w4.heap[j]? = wr.heap[j]?:=fun j h1 h2=>by
  rw [hg.block j (by omega) (fun e=>h2 e.symm)]
  exact Below.heap_alloc (wr.drewN k) o j h1
 have h4 : w4.heap[w0.heap.size]? = some (.cells #[vv,sv,av,xv] 216 (0,0)):=(hsame _ (by omega) (fun e=>by have:=(h.ra.lt _ e).1; omega)).trans h.hx
 have hgn : sv.ownBlock ≠ some g ∧ xv.ownBlock ≠ some g:=by
  rcases hblk with e | e
  ·exact ⟨fun e2=>(h.n1 g e2).1 e.symm,h.n2 g e.symm⟩
  ·exact ⟨fun e2=>by have:=(h.rs.lt g e2).2; omega,fun e2=>by have:=(h.rx.lt g e2).2; omega⟩
 refine ⟨set6 h4 _,own_setH (ownsRow_of_eq h.rs (fun j hj=>hsame j (h.rs.lt j hj).2 (h.n1 j hj).1)) (by omega) _,?_,own_setH (ownsRow_of_eq h.rx (fun j hj=>hsame j (h.rx.lt j hj).2 (fun e=>h.n2 j e hj))) (by omega) _,?_,?_,fun j hj=>⟨fun e=>?_,(h.n1 j hj).2⟩,fun j hj=>?_⟩
 ·rw [ints_app1,List.length_append,List.length_singleton]
  exact own_setH hown (by omega) _
 ·exact (((h.bl.trans (⟨rfl,rfl,rfl,Nat.le_refl _,fun _ _=>rfl⟩ : Below w0.heap.size wr (wr.drewN k))).alloc (by simp; omega) o).grown hg (by omega) (fun j e=>by have:=(h.ra.lt j e).1; omega)).setCell (p:=⟨w0.heap.size,2,none⟩) (Nat.le_refl _) _
 ·have:=hg.size; simp [World.setCell] at this ⊢; omega
 ·cases e; exact hgn.1 hj
 ·cases hj; exact hgn.2
theorem HsC.addX {w0 wr w4 : World} {vv sv av xv : Value} {st ad nx : List Int} {x : Int} {g cap k n : Nat} {o : Obj} (h : HsC w0 wr vv sv av xv st ad nx) (hn : nx.length = n) (hown : w4.ownsRow (w0.heap.size + 1) 3 1 (.slice (some ⟨g,0,none⟩) (n + 1) cap) (n + 1) (ints nx ++ [.int .i64 x]))
  (hg : ((wr.drewN k).alloc o).grownBy w4 xv.ownBlock) (hblk : some g = xv.ownBlock ∨ g = ((wr.drewN k).alloc o).heap.size) :
  HsC w0 (w4.setCell ⟨w0.heap.size,3,none⟩ (.slice (some ⟨g,0,none⟩) (n + 1) cap)) vv sv av (.slice (some ⟨g,0,none⟩) (n + 1) cap) st ad (nx ++ [x]):=by
 subst hn
 have hs:=h.sz
 have hsz : ((wr.drewN k).alloc o).heap.size = wr.heap.size + 1:=by simp
 have hsame : ∀ j,j < wr.heap.size → xv.ownBlock ≠ some j → w4.heap[j]? = wr.heap[j]?:=fun j h1 h2=>by
  rw [hg.block j (by omega) (fun e=>h2 e.symm)]
  exact Below.heap_alloc (wr.drewN k) o j h1
 have h4 : w4.heap[w0.heap.size]? = some (.cells #[vv,sv,av,xv] 216 (0,0)):=(hsame _ (by omega) (fun e=>by have:=(h.rx.lt _ e).1; omega)).trans h.hx
 have hgn : sv.ownBlock ≠ some g ∧ av.ownBlock ≠ some g:=by
  rcases hblk with e | e
  ·exact ⟨fun e2=>(h.n1 g e2).2 e.symm,fun e2=>h.n2 g e2 e.symm⟩
  ·exact ⟨fun e2=>by have:=(h.rs.lt g e2).2; omega,fun e2=>by have:=(h.ra.lt g e2).2; omega⟩
 refine ⟨set6 h4 _,own_setH (ownsRow_of_eq h.rs (fun j hj=>hsame j (h.rs.lt j hj).2 (h.n1 j hj).2)) (by omega) _,own_setH (ownsRow_of_eq h.ra (fun j hj=>hsame j (h.ra.lt j hj).2 (h.n2 j hj))) (by omega) _,?_,?_,?_,fun j hj=>⟨(h.n1 j hj).1,fun e=>?_⟩,fun j hj e=>?_⟩
 ·rw [ints_app1,List.length_append,List.length_singleton]
  exact own_setH hown (by omega) _
 ·exact (((h.bl.trans (⟨rfl,rfl,rfl,Nat.le_refl _,fun _ _=>rfl⟩ : Below w0.heap.size wr (wr.drewN k))).alloc (by simp; omega) o).grown hg (by omega) (fun j e=>by have:=(h.rx.lt j e).1; omega)).setCell (p:=⟨w0.heap.size,3,none⟩) (Nat.le_refl _) _
 ·have:=hg.size; simp [World.setCell] at this ⊢; omega
 ·cases e; exact hgn.1 hj
 ·cases e; exact hgn.2 hj
theorem HsC.below {w0 wr w' : World} {vv sv av xv : Value} {st ad nx : List Int} (h : HsC w0 wr vv sv av xv st ad nx) (hb : Below wr.heap.size wr w') : HsC w0 w' vv sv av xv st ad nx :=
 ⟨(hb.block _ (by have:=h.sz; omega)).trans h.hx,rowBelow2 h.rs hb,rowBelow2 h.ra hb,rowBelow2 h.rx hb,h.bl.trans (hb.mono (by have:=h.sz; omega)),Nat.le_trans h.sz hb.size,h.n1,h.n2⟩
def evK (c : List Int) (m : Nat) : List Int:=(List.range m).map (fun j=>c.getD (2 * j) 0)
def odK (c : List Int) (m : Nat) : List Int:=(List.range m).map (fun j=>c.getD (2 * j + 1) 0)
theorem evK_len (c : List Int) (m : Nat) : (evK c m).length = m:=by simp [evK]
theorem odK_len (c : List Int) (m : Nat) : (odK c m).length = m:=by simp [odK]
theorem evK_step (c : List Int) (m : Nat) : evK c (m + 1) = evK c m ++ [c.getD (2 * m) 0]:=by simp [evK,List.range_succ]
theorem odK_step (c : List Int) (m : Nat) : odK c (m + 1) = odK c m ++ [c.getD (2 * m + 1) 0]:=by simp [odK,List.range_succ]
structure OkC (c : List Int) (m : Nat) : Prop where
 sa : ∀ v ∈ evK c m,0 < v ∧ v ≤ 1048576
 sn : ∀ v ∈ odK c m,0 ≤ v ∧ v ≤ 1048576
 up : (evK c m).Pairwise (· < ·)
theorem OkC.zero (c : List Int) : OkC c 0:=⟨fun v hv=>by simp [evK] at hv,fun v hv=>by simp [odK] at hv,by simp [evK]⟩
theorem up_last {l : List Int} {p a : Int} (h : (l ++ [p]).Pairwise (· < ·)) (ha : p < a) : ((l ++ [p]) ++ [a]).Pairwise (· < ·):=by
 rw [List.pairwise_append]
 refine ⟨h,List.pairwise_singleton _ _,fun x hx y hy=>?_⟩
 rw [List.mem_singleton] at hy
 subst hy
 rcases List.mem_append.1 hx with hx | hx
 ·have:=(List.pairwise_append.1 h).2.2 x hx p (by simp)
  omega
 ·rw [List.mem_singleton] at hx; subst hx; exact ha
theorem OkC.step {c : List Int} {m : Nat} (h : OkC c m) (h1 : 0 < c.getD (2 * m) 0 ∧ c.getD (2 * m) 0 ≤ 1048576) (h2 : 0 ≤ c.getD (2 * m + 1) 0 ∧ c.getD (2 * m + 1) 0 ≤ 1048576) (h3 : ∀ j,m = j + 1 → c.getD (2 * j) 0 < c.getD (2 * m) 0) : OkC c (m + 1):=by
 refine ⟨fun v hv=>?_,fun v hv=>?_,?_⟩
 ·rw [evK_step] at hv
  rcases List.mem_append.1 hv with hv | hv
  ·exact h.sa v hv
  ·rw [List.mem_singleton] at hv; subst hv; exact h1
 ·rw [odK_step] at hv
  rcases List.mem_append.1 hv with hv | hv
  ·exact h.sn v hv
  ·rw [List.mem_singleton] at hv; subst hv; exact h2
 ·cases m with
  | zero=>rw [evK_step]; simp [evK]
  | succ j =>
   have hu:=h.up
   rw [evK_step]
   rw [evK_step] at hu ⊢
   exact up_last hu (h3 j rfl)
end Go.Proofs.YtciihepbeacppaaGreat
