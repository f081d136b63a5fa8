import Derived.Test.YtciihepbeacppabGreatM09
namespace Go.Proofs.YtciihepbeacppabGreat
open Go.RowKit
set_option linter.unusedVariables false
def blC (l : List Bool) : List Value:=l.map Value.bool
theorem blC_get {l : List Bool} {j : Nat} (h : j < l.length) : (blC l)[j]? = some (.bool (l.getD j false)):=by simp [blC,h]
theorem blC_set (l : List Bool) (j : Nat) (b : Bool) : (blC l).set j (.bool b) = blC (l.set j b):=by simp [blC,List.map_set]
def Seen (bl : List Bool) (seen : List Nat) : Prop:=bl.length = 24 ∧ ∀ c,c < 24 → (bl.getD c false = true ↔ c ∈ seen)
theorem Seen.add {bl : List Bool} {seen : List Nat} (h : Seen bl seen) {c : Nat} (hc : c < 24) : Seen (bl.set c true) (c :: seen):=by
 refine ⟨by simpa using h.1,fun d hd=>?_⟩
 rw [getD_set _ _ _ _ _ (by rw [h.1]; exact hc),List.mem_cons]
 by_cases e : c = d
 ·rw [if_pos e]; simp [e]
 ·rw [if_neg e,h.2 d hd]
  exact ⟨Or.inr,fun h=>h.resolve_left (fun h=>e h.symm)⟩
theorem false_ap {f : CF} {k : Nat} (hk : k < f.ap.length) (h : f.ap[k].l = f.ap[k].r) : falB f = true:=by
 unfold falB
 have : f.ap.any (fun p=>p.l == p.r) = true:=List.any_eq_true.2 ⟨_,List.getElem_mem hk,by simpa using h⟩
 rw [this]; rfl
theorem false_rest {f : CF} (h : ∀ j,(hj : j < f.ap.length) → f.ap[j].l ≠ f.ap[j].r) : falB f = dupB [f.cl.getD 0 0] f.ow:=by
 unfold falB
 have : f.ap.any (fun p=>p.l == p.r) = false:=by
  rw [List.any_eq_false]
  intro p hp
  obtain ⟨j,hj,rfl⟩:=List.mem_iff_getElem.1 hp
  simpa using h j hj
 rw [this]; rfl
set_option maxRecDepth 100000 in
set_option maxHeartbeats 8000000 in
theorem false_any {w : World} {A : Nat} {f : CF} {av ov : Value} (h : IsF w A f av ov) (hR : Rm f) (h0 : f.cl.getD 0 0 < 24) :
  Calls Tryz.prog 20 #[.pointer (some ⟨A,0,none⟩)] w fun e w'=>e = .returned (.bool (falB f)) ∧ Below w.heap.size w w':=by
 obtain ⟨ao,cap,hav,hm',hnc,hc⟩:=pr_of_own h.ap
 have hm : cap ≤ 9223372036854775807:=by unfold maxLen at hm'; omega
 have h5:=h.c5
 rw [hav] at h5
 have HC:=hide hc
 have HF:=hide h
 clear hc hav h hm'
 go_enter Tryz.func20,Tryz.ntmps20
 go_wp2_with fail
 go_loopw [13] (fun i wr=>∃ k : Nat,k ≤ f.ap.length ∧ i = .int .i64 k ∧ Hid (∀ j,(hj : j < f.ap.length) → j < k → f.ap[j].l ≠ f.ap[j].r) ∧ Hid (Below w.heap.size w wr)) (fun i _=>f.ap.length - (intOf i).toNat)
 case atStart=>exact ⟨0,Nat.zero_le _,rfl,fun _ _ h=>absurd h (by omega),hide (Below.refl _ _)⟩
 case round =>
  obtain ⟨k,hk,rfl,hall,hbl⟩:=hrel
  by_cases hlt : k < f.ap.length
  ·obtain ⟨g,hao,hcell⟩:=uh HC (by intro h; rw [h] at hlt; simp at hlt)
   subst hao
   obtain ⟨hx0,hx1,hx2⟩:=hcell k hlt
   have c0:=((uh hbl).cell (World.block_lt_of_cell? w _ hx0)).trans hx0
   have c1:=((uh hbl).cell (World.block_lt_of_cell? w _ hx1)).trans hx1
   have c2:=((uh hbl).cell (World.block_lt_of_cell? w _ hx2)).trans hx2
   clear hcell hx0 hx1 hx2
   obtain ⟨p,hp⟩ : ∃ p,p = f.ap[k]:=⟨_,rfl⟩
   rw [← hp] at c0 c1 c2
   have HP:=hide hp
   have HBz:=hide ((uh hbl).alloc (uh hbl).size (.cells #[Value.int .i64 p.k,.int .i64 p.l,.int .i64 p.r] 103))
   obtain ⟨-,n1,n2⟩:=new3 wr (Value.int .i64 p.k) (.int .i64 p.l) (.int .i64 p.r) 103
   clear hp
   by_cases hlr : p.l = p.r
   ·have he : ((p.l : Int) == (p.r : Int)) = true:=by rw [nat_beq]; simpa using hlr
    have HE : Hid (falB f = true):=hide (false_ap hlt (by rw [← uh HP]; exact hlr))
    clear hlr
    go_wp2_with fail
    go_ret
    exact ⟨by rw [uh HE]; rfl,uh HBz⟩
   ·have he : ((p.l : Int) == (p.r : Int)) = false:=by rw [nat_beq]; simpa using hlr
    have HLR:=hide hlr
    clear hlr
    go_wp2_with fail
    go_roundw
    case rel =>
     refine ⟨k + 1,by omega,by go_num,hide (fun j hj hjk=>?_),HBz⟩
     by_cases e : j = k
     ·subst e; rw [← uh HP]; exact uh HLR
     ·exact hall.out j hj (by omega)
    case measure=>simp [intOf]; omega
  ·have hd : decide ((k : Int) < (f.ap.length : Int)) = false:=by simp; omega
   have HE : Hid (falB f = dupB [f.cl.getD 0 0] f.ow):=hide (false_rest (fun j hj=>hall.out j hj (by omega)))
   have hFr:=(uh HF).of_eq (fun k hk=>(uh hbl).block k ((uh HF).lt k hk))
   have h0r:=(hFr.alloc (Obj.cells #[Value.bool false,Value.bool false,Value.bool false,Value.bool false,Value.bool false,Value.bool false,Value.bool false,Value.bool false,Value.bool false,Value.bool false,Value.bool false,Value.bool false,Value.bool false,Value.bool false,Value.bool false,Value.bool false,Value.bool false,Value.bool false,Value.bool false,Value.bool false,Value.bool false,Value.bool false,Value.bool false,Value.bool false] 104)).cls (i:=0) (by omega)
   unfold clV at h0r
   obtain ⟨c0,hc0⟩ : ∃ c0,c0 = f.cl.getD 0 0:=⟨_,rfl⟩
   rw [← hc0] at h0r h0 HE
   have hD0 : Ob (wr.alloc (Obj.cells #[Value.bool false,Value.bool false,Value.bool false,Value.bool false,Value.bool false,Value.bool false,Value.bool false,Value.bool false,Value.bool false,Value.bool false,Value.bool false,Value.bool false,Value.bool false,Value.bool false,Value.bool false,Value.bool false,Value.bool false,Value.bool false,Value.bool false,Value.bool false,Value.bool false,Value.bool false,Value.bool false,Value.bool false] 104)) 104 24 wr.heap.size (blC (List.replicate 24 false)):=by
    exact World.ownsRow_lit (base:=0) (e:=104) (size:=24) wr (blC (List.replicate 24 false)).toArray 1 (Nat.zero_le _) (by simp [maxLen]) rfl
   obtain ⟨⟨u0,hu0⟩,hz0⟩:=hD0.some (j:=c0) h0
   have hD1 : Ob (wr.alloc (Obj.cells ([Value.bool false,Value.bool false,Value.bool false,Value.bool false,Value.bool false,Value.bool false,Value.bool false,Value.bool false,Value.bool false,Value.bool false,Value.bool false,Value.bool false,Value.bool false,Value.bool false,Value.bool false,Value.bool false,Value.bool false,Value.bool false,Value.bool false,Value.bool false,Value.bool false,Value.bool false,Value.bool false,Value.bool false].set c0 (Value.bool true)).toArray 104)) 104 24 wr.heap.size (blC ((List.replicate 24 false).set c0 true)):=by
    have h1:=World.ownsRow_lit (base:=0) (e:=104) (size:=24) wr ([Value.bool false,Value.bool false,Value.bool false,Value.bool false,Value.bool false,Value.bool false,Value.bool false,Value.bool false,Value.bool false,Value.bool false,Value.bool false,Value.bool false,Value.bool false,Value.bool false,Value.bool false,Value.bool false,Value.bool false,Value.bool false,Value.bool false,Value.bool false,Value.bool false,Value.bool false,Value.bool false,Value.bool false].set c0 (Value.bool true)).toArray 1 (Nat.zero_le _) (by simp [maxLen]) (by simp)
    rw [← blC_set]
    exact h1
   have hsn : Seen ((List.replicate 24 false).set c0 true) [c0]:=by
    refine Seen.add (seen:=[]) ⟨by simp,fun c hc=>?_⟩ h0
    rw [List.getD_eq_getElem?_getD,List.getElem?_replicate,if_pos hc]; simp
   have hB1 : Below w.heap.size w (wr.alloc (Obj.cells ([Value.bool false,Value.bool false,Value.bool false,Value.bool false,Value.bool false,Value.bool false,Value.bool false,Value.bool false,Value.bool false,Value.bool false,Value.bool false,Value.bool false,Value.bool false,Value.bool false,Value.bool false,Value.bool false,Value.bool false,Value.bool false,Value.bool false,Value.bool false,Value.bool false,Value.bool false,Value.bool false,Value.bool false].set c0 (Value.bool true)).toArray 104)):=(uh hbl).alloc (uh hbl).size _
   have hF1:=(uh HF).of_eq (fun k hk=>hB1.block k ((uh HF).lt k hk))
   have h6:=hF1.c6
   obtain ⟨oo,ocap,hov,hom',hon,hoc⟩:=pr_of_own (uh HF).ow
   have hom : ocap ≤ 9223372036854775807:=by unfold maxLen at hom'; omega
   rw [hov] at h6
   have HOC:=hide hoc
   have HD1:=hide hD1
   have HSn:=hide hsn
   have HB1:=hide hB1
   obtain ⟨D,hD⟩ : ∃ D,D = wr.heap.size:=⟨_,rfl⟩
   have hDB : w.heap.size ≤ D:=by rw [hD]; exact (uh hbl).size
   have HDD:=hide hD
   have HC0:=hide hc0
   clear hFr hD0 hD1 hsn hB1 hF1 hov hoc hom' hD hc0
   go_wp2_with fail
   obtain ⟨w1,hw1⟩ : ∃ w1,w1 = wr.alloc (Obj.cells ([Value.bool false,Value.bool false,Value.bool false,Value.bool false,Value.bool false,Value.bool false,Value.bool false,Value.bool false,Value.bool false,Value.bool false,Value.bool false,Value.bool false,Value.bool false,Value.bool false,Value.bool false,Value.bool false,Value.bool false,Value.bool false,Value.bool false,Value.bool false,Value.bool false,Value.bool false,Value.bool false,Value.bool false].set c0 (Value.bool true)).toArray 104):=⟨_,rfl⟩
   rw [← hw1] at h6 HD1 HB1 ⊢
   rw [← uh HDD] at HD1 ⊢
   clear hw1 h0r hu0 hz0
   go_loopw [34] (fun i wr=>∃ (k : Nat) (bl : List Bool) (seen : List Nat),k ≤ f.ow.length ∧ i = .int .i64 k ∧ Hid (Ob wr 104 24 D (blC bl)) ∧ Hid (Seen bl seen) ∧ Hid (dupB seen (f.ow.drop k) = falB f) ∧ Hid (Below w.heap.size w wr)) (fun i _=>f.ow.length - (intOf i).toNat)
   case atStart=>exact ⟨0,_,[c0],Nat.zero_le _,rfl,HD1,HSn,hide (uh HE).symm,HB1⟩
   case round =>
    obtain ⟨k,bl,seen,hk,rfl,hD2,hsn,hdu,hbl2⟩:=hrel
    by_cases hlt2 : k < f.ow.length
    ·obtain ⟨g,hoo,hcell⟩:=uh HOC (by intro h; rw [h] at hlt2; simp at hlt2)
     subst hoo
     obtain ⟨hx0,hx1,hx2⟩:=hcell k hlt2
     have c0':=((uh hbl2).cell (World.block_lt_of_cell? w _ hx0)).trans hx0
     have c1:=((uh hbl2).cell (World.block_lt_of_cell? w _ hx1)).trans hx1
     have c2:=((uh hbl2).cell (World.block_lt_of_cell? w _ hx2)).trans hx2
     clear hcell hx0 hx1 hx2
     obtain ⟨hpl,-⟩:=hR _ (List.getElem_mem hlt2)
     obtain ⟨p,hp⟩ : ∃ p,p = f.ow[k]:=⟨_,rfl⟩
     rw [← hp] at c0' c1 c2 hpl
     have hstep : dupB seen (f.ow.drop k) = if p.l ∈ seen then true else dupB (p.l :: seen) (f.ow.drop (k + 1)):=by
      rw [List.drop_eq_getElem_cons hlt2,← hp]; rfl
     rw [uh hdu] at hstep
     obtain ⟨-,n1,n2⟩:=new3 wr (Value.int .i64 p.k) (.int .i64 p.l) (.int .i64 p.r) 103
     have hD3:=(uh hD2).alloc (.cells #[Value.int .i64 p.k,.int .i64 p.l,.int .i64 p.r] 103)
     have hdl : bl.length = 24:=(uh hsn).1
     have d1:=(World.ownsRow.cellAt hD3 p.l (by omega)).trans (blC_get (l:=bl) (by omega))
     have z1:=World.ownsRow.frozenAt hD3 p.l
     obtain ⟨sb,hsb⟩ : ∃ sb,sb = bl.getD p.l false:=⟨_,rfl⟩
     rw [← hsb] at d1
     have hiff:=(uh hsn).2 p.l hpl
     rw [← hsb] at hiff
     have HB3:=hide ((uh hbl2).alloc (uh hbl2).size (.cells #[Value.int .i64 p.k,.int .i64 p.l,.int .i64 p.r] 103))
     have HD4:=hide (hD3.set p.l (.bool true))
     rw [blC_set] at HD4
     have HSn4:=hide ((uh hsn).add hpl)
     have HSt:=hide hstep
     have HIf:=hide hiff
     clear hp hstep hD3 hsb hiff hD2 hsn hdu
     cases sb with
     | true =>
      have HFin : Hid (falB f = true):=hide (by rw [uh HSt,if_pos ((uh HIf).1 rfl)])
      go_wp2_with fail
      go_ret
      exact ⟨by rw [uh HFin]; rfl,uh HB3⟩
     | false =>
      have HNx : Hid (dupB (p.l :: seen) (f.ow.drop (k + 1)) = falB f):=hide (by
       rw [uh HSt,if_neg (fun h=>by have:=(uh HIf).2 h; cases this)])
      have HB4:=hide ((uh HB3).setCell (p:=⟨D,p.l,none⟩) hDB (.bool true))
      go_wp2_with fail
      go_roundw
      case rel=>exact ⟨k + 1,_,p.l :: seen,by omega,by go_num,HD4,HSn4,HNx,HB4⟩
      case measure=>simp [intOf]; omega
    ·have hd2 : decide ((k : Int) < (f.ow.length : Int)) = false:=by simp; omega
     have HFin : Hid (falB f = false):=hide (by rw [← uh hdu,List.drop_of_length_le (by omega)]; rfl)
     go_wp2_with fail
     go_ret
     exact ⟨by rw [uh HFin]; rfl,uh hbl2⟩
def Sn (w : World) (q f t : Nat) (st : Int) (anc rest : List Value) : Prop :=
 Ob w 72 55 q ([ptr f,ptr t] ++ (anc ++ rest)) ∧ anc.length = 24 ∧ ∃ (mid : List Value) (vv ov uv pv : Value),rest = mid ++ [vv,ov,uv,pv,.int .i64 st] ∧ mid.length = 24
theorem set_anc {a b : Value} {anc rest : List Value} {j : Nat} (hj : j < anc.length) (u : Value) : ([a,b] ++ (anc ++ rest)).set (2 + j) u = [a,b] ++ (anc.set j u ++ rest):=by
 rw [List.set_append_right _ _ (by simp),show 2 + j - [a,b].length = j by simp,List.set_append_left _ _ hj]
theorem get_anc {a b : Value} {anc rest : List Value} {j : Nat} (hj : j < anc.length) : ([a,b] ++ (anc ++ rest))[2 + j]? = anc[j]?:=by
 rw [List.getElem?_append_right (by simp),show 2 + j - [a,b].length = j by simp,List.getElem?_append_left hj]
theorem Sn.set {w : World} {q f t : Nat} {st : Int} {anc rest : List Value} (h : Sn w q f t st anc rest) {j : Nat} (hj : j < 24) (u : Value) : Sn (w.setCell ⟨q,2 + j,none⟩ u) q f t st (anc.set j u) rest:=by
 obtain ⟨h1,h2,h3⟩:=h
 have:=h1.set (2 + j) u
 rw [set_anc (by omega)] at this
 exact ⟨this,by simpa using h2,h3⟩
theorem Sn.of_eq {w w' : World} {q f t : Nat} {st : Int} {anc rest : List Value} (h : Sn w q f t st anc rest) (he : w'.heap[q]? = w.heap[q]?) : Sn w' q f t st anc rest:=⟨h.1.of_eq he,h.2⟩
theorem all_minus {anc : List Value} (h : anc.length = 24) (ha : ∀ j,j < 24 → anc[j]? = some (.int .i64 (-1))) : anc = opCells (List.replicate 24 none):=by
 apply List.ext_getElem?
 intro j
 by_cases hj : j < 24
 ·rw [ha j hj]
  unfold opCells
  rw [List.map_replicate,List.getElem?_replicate,if_pos hj]; rfl
 ·rw [List.getElem?_eq_none (by omega),List.getElem?_eq_none (by simp [opCells]; omega)]
set_option maxRecDepth 100000 in
set_option maxHeartbeats 8000000 in
theorem drop_any {w : World} {q f t : Nat} {st : Int} {anc rest : List Value} {F T : CF} {fav fov tav tov : Value} (h : Sn w q f t st anc rest) (hF : IsF w f F fav fov) (hT : IsF w t T tav tov) (nf : ∀ k ∈ bsF f fav fov,k ≠ q) (nt : ∀ k ∈ bsF t tav tov,k ≠ q) (hT24 : ∀ i,i < 5 → T.cl.getD i 0 < 24) :
  Calls Tryz.prog 21 #[.pointer (some ⟨q,0,none⟩)] w fun e w'=>e = .returned (.bool (drp F T [0,1,2,3,4] (List.replicate 24 none)).isSome) ∧ (∀ an,drp F T [0,1,2,3,4] (List.replicate 24 none) = some an → Sq w' q f t an st) ∧ Stp [q] w [q] w':=by
 have HS:=hide h
 have HF:=hide hF
 have HT:=hide hT
 have HNf:=hide nf
 have HNt:=hide nt
 have HT24:=hide hT24
 clear h hF hT nf nt hT24
 go_enter Tryz.func21,Tryz.ntmps21
 go_wp2_with fail
 go_loopw [3] (fun i wr=>∃ (k : Nat) (an : List Value),k ≤ 24 ∧ i = .int .i64 k ∧ Hid (Sn wr q f t st an rest) ∧ Hid (∀ j,j < k → an[j]? = some (.int .i64 (-1))) ∧ Hid (Stp [q] w [q] wr)) (fun i _=>24 - (intOf i).toNat)
 case atStart=>exact ⟨0,anc,Nat.zero_le _,rfl,HS,hide (fun j hj=>by omega),hide (Stp.refl _ _)⟩
 case round =>
  obtain ⟨k,an,hk,rfl,hS1,hm,hst⟩:=hrel
  by_cases hlt : k < 24
  ·have hd : decide ((k : Int) < 24) = true:=by simp; omega
   obtain ⟨⟨u,hu⟩,hz⟩:=(uh hS1).1.some (j:=2 + k) (by omega)
   have HS2:=hide ((uh hS1).set hlt (.int .i64 (-1)))
   have HM2 : Hid (∀ j,j < k + 1 → (an.set k (.int .i64 (-1)))[j]? = some (.int .i64 (-1))):=hide (by
    intro j hj
    have hl:=(uh hS1).2.1
    by_cases e : k = j
    ·subst e; rw [List.getElem?_set_self (by omega)]
    ·rw [List.getElem?_set_ne e]; exact uh hm j (by omega))
   have HT2:=hide ((uh hst).setCell (p:=⟨q,2 + k,none⟩) (Or.inl (by simp)) (.int .i64 (-1)))
   go_wp2_with fail
   go_roundw
   case rel=>exact ⟨k + 1,_,by omega,by go_num,HS2,HM2,HT2⟩
   case measure=>simp [intOf]; omega
  ·have hd : decide ((k : Int) < 24) = false:=by simp; omega
   have hk24 : k = 24:=by omega
   subst hk24
   have HS0 : Hid (Sn wr q f t st (opCells (List.replicate 24 none)) rest):=hide (by
    have:=all_minus (uh hS1).2.1 (uh hm)
    rw [← this]; exact uh hS1)
   go_wp2_with fail
   go_loopg [4] 5 (fun gn i wr=>∃ (k : Nat) (an : List (Option Nat)),k + gn = 5 ∧ i = .int .i64 k ∧ Hid (Sn wr q f t st (opCells an) rest) ∧ Hid (drp F T ([0,1,2,3,4].drop k) an = drp F T [0,1,2,3,4] (List.replicate 24 none)) ∧ Hid (Stp [q] w [q] wr))
   case atStart=>exact ⟨0,_,by omega,rfl,HS0,hide rfl,hst⟩
   case round =>
    obtain ⟨k,an,hk,rfl,hS2,hdr,hst2⟩:=hrel
    by_cases hlt2 : k < 5
    ·have hd2 : decide ((k : Int) < 5) = true:=by simp; omega
     have hbk:=fun b hb hne=>(uh hst2).block b hb (show b ∉ [q] by simpa using hne)
     have hFr:=(uh HF).of_eq (fun b hb=>hbk b ((uh HF).lt b hb) (uh HNf b hb))
     have hTr:=(uh HT).of_eq (fun b hb=>hbk b ((uh HT).lt b hb) (uh HNt b hb))
     have hq0 : wr.cell? ⟨q,0,none⟩ = some (.pointer (some ⟨f,0,none⟩)):=by rw [World.ownsRow.cellAt (uh hS2).1 0 (by omega)]; rfl
     have hq1 : wr.cell? ⟨q,1,none⟩ = some (.pointer (some ⟨t,0,none⟩)):=by rw [World.ownsRow.cellAt (uh hS2).1 1 (by omega)]; rfl
     have hfc:=hFr.cls (i:=k) hlt2
     have htc:=hTr.cls (i:=k) hlt2
     unfold clV at hfc htc
     have hc24:=uh HT24 k hlt2
     obtain ⟨c,hc⟩ : ∃ c,c = T.cl.getD k 0:=⟨_,rfl⟩
     obtain ⟨fk,hfk⟩ : ∃ fk,fk = F.cl.getD k 0:=⟨_,rfl⟩
     rw [← hc] at htc hc24
     rw [← hfk] at hfc
     have hal : an.length = 24:=by have:=(uh hS2).2.1; rw [opCells_len] at this; exact this
     have hac : wr.cell? ⟨q,2 + c,none⟩ = some (.int .i64 (opI (an.getD c none))):=by
      rw [World.ownsRow.cellAt (uh hS2).1 (2 + c) (by omega),get_anc (by rw [opCells_len]; omega)]
      have : c < an.length:=by omega
      simp [opCells,this]
     have hzc:=World.ownsRow.frozenAt (uh hS2).1 (2 + c)
     obtain ⟨o,ho⟩ : ∃ o,o = an.getD c none:=⟨_,rfl⟩
     rw [← ho] at hac
     have hstep : drp F T ([0,1,2,3,4].drop k) an = if o ≠ none ∧ o ≠ some fk then none else drp F T ([0,1,2,3,4].drop (k + 1)) (an.set c (some fk)):=by
      have hk5 : k = 0 ∨ k = 1 ∨ k = 2 ∨ k = 3 ∨ k = 4:=by omega
      have e : ([0,1,2,3,4] : List Nat).drop k = k :: ([0,1,2,3,4] : List Nat).drop (k + 1):=by
       rcases hk5 with rfl | rfl | rfl | rfl | rfl <;> rfl
      rw [e,drp,← hc,← hfk,← ho]
     rw [uh hdr] at hstep
     have hn1:=opI_neg o
     have HS3:=hide ((uh hS2).set hc24 (.int .i64 (fk : Int)))
     have HS3' : Hid (Sn (wr.setCell ⟨q,2 + c,none⟩ (.int .i64 (fk : Int))) q f t st (opCells (an.set c (some fk))) rest):=hide (by
      have:=uh HS3
      rw [show (opCells an).set c (.int .i64 (fk : Int)) = opCells (an.set c (some fk)) by simp [opCells,List.map_set,opI]] at this
      exact this)
     have HT3:=hide ((uh hst2).setCell (p:=⟨q,2 + c,none⟩) (Or.inl (by simp)) (.int .i64 (fk : Int)))
     have HStep:=hide hstep
     clear hstep hc hfk ho hFr hTr hbk HS3 HS0
     by_cases hbad : o ≠ none ∧ o ≠ some fk
     ·have HFin : Hid (drp F T [0,1,2,3,4] (List.replicate 24 none) = none):=hide (by rw [uh HStep,if_pos hbad])
      cases o with
      | none=>exact absurd rfl hbad.1
      | some b0 =>
       rw [show opI (some b0) = (b0 : Int) from rfl] at hac hn1
       rw [show (some b0).isSome = true from rfl] at hn1
       have hn2 : ((b0 : Int) != (fk : Int)) = true:=by
        rw [bne_iff_ne]
        intro e
        exact hbad.2 (by rw [show b0 = fk by omega])
       clear hbad
       go_wp2_with fail
       go_quiet (fail)
       go_wp2_with fail
       go_ret
       refine ⟨by rw [uh HFin]; rfl,fun an' h=>?_,(uh hst2).drewN _⟩
       rw [uh HFin] at h; cases h
     ·have HNx : Hid (drp F T ([0,1,2,3,4].drop (k + 1)) (an.set c (some fk)) = drp F T [0,1,2,3,4] (List.replicate 24 none)):=hide (by rw [uh HStep,if_neg hbad])
      cases o with
      | none =>
       rw [show opI none = (-1 : Int) from rfl] at hac
       clear hbad hn1
       go_wp2_with fail
       go_quiet (fail)
       go_wp2_with fail
       go_region
       go_wp2_with fail
       go_roundg (gk - 1)
       case rel=>exact ⟨k + 1,_,by omega,by go_num,hide ((uh HS3').of_eq rfl),HNx,hide ⟨(uh HT3).os,(uh HT3).tape,(uh HT3).output,(uh HT3).size,(uh HT3).block,(uh HT3).foot⟩⟩
       case measure=>omega
      | some b0 =>
       have hb0 : b0 = fk:=Classical.byContradiction (fun h=>hbad ⟨by simp,by simpa using h⟩)
       rw [show opI (some b0) = (b0 : Int) from rfl] at hac hn1
       rw [show (some b0).isSome = true from rfl] at hn1
       have hn2 : ((b0 : Int) != (fk : Int)) = false:=by rw [hb0]; simp
       clear hbad hb0
       go_wp2_with fail
       go_quiet (fail)
       go_wp2_with fail
       go_region
       go_wp2_with fail
       go_roundg (gk - 1)
       case rel=>exact ⟨k + 1,_,by omega,by go_num,hide ((uh HS3').of_eq rfl),HNx,hide ⟨(uh HT3).os,(uh HT3).tape,(uh HT3).output,(uh HT3).size,(uh HT3).block,(uh HT3).foot⟩⟩
       case measure=>omega
    ·have hd2 : decide ((k : Int) < 5) = false:=by simp; omega
     have hk5 : k = 5:=by omega
     subst hk5
     have HFin : Hid (drp F T [0,1,2,3,4] (List.replicate 24 none) = some an):=hide ((uh hdr).symm)
     clear HS0
     go_wp2_with fail
     go_ret
     refine ⟨by rw [uh HFin]; rfl,fun an' h=>?_,uh hst2⟩
     rw [uh HFin] at h
     cases h
     obtain ⟨h1,h2,mid,vv,ov,uv,pv,h3,h4⟩:=uh hS2
     refine ⟨mid,vv,ov,uv,pv,?_,h4,by rw [opCells_len] at h2; exact h2⟩
     rw [h3] at h1
     exact h1
end Go.Proofs.YtciihepbeacppabGreat
