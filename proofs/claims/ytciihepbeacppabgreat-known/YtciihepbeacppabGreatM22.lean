import Derived.Test.YtciihepbeacppabGreatM21
import Derived.Test.YtciihepbeacppabGreatM18
namespace Go.Proofs.YtciihepbeacppabGreat
open Go.RowKit
set_option linter.unusedVariables false
section
variable {w : World} {A : Nat} {f : CF} {av ov : Value}
set_option maxRecDepth 100000 in
set_option maxHeartbeats 8000000 in
theorem without_f (h : IsF w A f av ov) (hO : FoOk f) (ha : f.ap.length ≤ 40000) : Calls Tryz.prog 158 #[.pointer (some ⟨A,0,none⟩)] w fun e w'=>∃ A',e = .returned (.pointer (some ⟨A',0,none⟩)) ∧ NewF w (wiO f) A' w':=by
 have hol:=hO.owLen
 have HRE:=hide (reached_any h hO)
 have H:=hide h
 have HO:=hide hO
 clear h hO
 go_enter Tryz.func158,Tryz.ntmps158
 go_wp2_with fail
 refine (uh HRE).mono ?_
 rintro e w1 ⟨rfl,hb1⟩
 obtain ⟨M,hM,hml,hTh,hI2,hOn,hOb,hbl⟩:=lay24 w1 f
 rw [← hM]
 have HTh:=hide hTh
 have HI2:=hide hI2
 have HOn:=hide hOn
 obtain ⟨X,hXe⟩ : ∃ X,X = w1.heap.size:=⟨_,rfl⟩
 obtain ⟨W2,hW2⟩ : ∃ W2,W2 = (w1.alloc (.cells (blC (List.replicate 24 false)).toArray 104)).setCells w1.heap.size 0 M:=⟨_,rfl⟩
 rw [← hW2] at hOb hbl
 rw [← hXe] at hOb
 have hb2:=hb1.trans (hbl.mono hb1.size)
 have HOb:=hide hOb
 have HB2:=hide hb2
 have hF2:=(uh H).below hb2
 have HCP:=hide (copy_any hF2 (uh HO).c5 ha (Nat.le_trans hol (by omega)))
 have HF2:=hide hF2
 clear hTh hI2 hOn hOb hbl hb1 hb2 hM HRE hF2
 simp only [blC,List.replicate,List.map_cons,List.map_nil] at hW2
 go_upto_region 2 with (refine wpList_store_mid rfl 104 (.tmp 3) (.tmp 8) rfl _ 0 M.toArray rfl rfl (uh HTh) (uh HI2) (uh HOn) ?_)
 rw [← hW2,← hXe]
 clear hW2 hXe HTh HI2 HOn hml
 go_wp2_with fail
 refine (uh HCP).mono ?_
 rintro e w3 ⟨A3,rfl,hN3⟩
 obtain ⟨av3,ov3,hf3⟩:=hN3.frf
 -- its owners are dropped
 have hbx:=below_boxQ w3 (.cells #[] 103)
 have hrow0:=World.ownsRow_lit (base:=w3.heap.size) (e:=103) (size:=3) w3 #[] 0 (Nat.le_refl _) (by simp [maxLen]) rfl
 have hs0 : Stp ov3.ownBlock.toList w3 (Value.slice (some ⟨w3.heap.size,0,none⟩) 0 0).ownBlock.toList (w3.alloc (.cells #[] 103)):=(Stp.ofBw (F:=ov3.ownBlock.toList) hbx).foots (fun j hj=>Or.inr (hrow0.lt j (by simpa using hj)).1)
 obtain ⟨hF4,hS4⟩:=hf3.fm.newOv (ow':=[]) hs0 (v':=.slice (some ⟨w3.heap.size,0,none⟩) 0 0) (fun j hj=>by simpa using hj) (own_le hrow0 (Nat.zero_le _))
 obtain ⟨W4,hW4⟩ : ∃ W4,W4 = (w3.alloc (.cells #[] 103)).setCell ⟨A3,6,none⟩ (.slice (some ⟨w3.heap.size,0,none⟩) 0 0):=⟨_,rfl⟩
 rw [← hW4] at hF4 hS4
 have hf4:=hf3.step (x':=⟨A3,{ f with ow:=[] },av3,.slice (some ⟨w3.heap.size,0,none⟩) 0 0⟩) hF4 hS4
 have e6:=(hf3.fm.below hbx).is.c6
 have z6:=World.ownsRow.frozenAt (hf3.fm.below hbx).is.ob 6
 obtain ⟨sv,hsv⟩ : ∃ sv,sv = Value.slice (some ⟨w3.heap.size,0,none⟩) 0 0:=⟨_,rfl⟩
 rw [← hsv] at hf4
 have HI0 : Hid (FrF W2 W4 ⟨A3,{ f with ow:=(f.ow.take 0).filter (fun p=>decide (p.l ∈ rcL f)) },av3,sv⟩):=hide hf4
 have c6:=((uh HF2).below hf4.bw).c6
 obtain ⟨oa,oc,hov,-,-⟩:=own_slc (uh HF2).ow
 subst hov
 clear hN3 hf3 hbx hrow0 hs0 hF4 hS4 hf4 hsv HCP
 go_upto_region 4 with fail
 rw [← hW4]
 clear hW4 e6 z6
 go_wp2_with fail
 go_loopg [20] f.ow.length (fun gn iv wx=>∃ (m : Nat) (ow5 : Value),m + gn = f.ow.length ∧ iv = .int .i64 m ∧ Hid (FrF W2 wx ⟨A3,{ f with ow:=(f.ow.take m).filter (fun p=>decide (p.l ∈ rcL f)) },av3,ow5⟩))
 case atStart=>exact ⟨0,sv,by omega,rfl,HI0⟩
 case round =>
  clear HI0 c6
  obtain ⟨m,ow5,hmn,rfl,hI⟩:=hrel
  obtain ⟨G,hG⟩ : ∃ G,G = gk:=⟨_,rfl⟩
  have hF:=(uh HF2).below (uh hI).bw
  have hfl : ((f.ow.take m).filter (fun p=>decide (p.l ∈ rcL f))).length ≤ 24:=Nat.le_trans (List.length_filter_le _ _) (by rw [List.length_take]; omega)
  by_cases hlt : m < f.ow.length
  ·have hd : decide ((m : Int) < (f.ow.length : Int)) = true:=by simp; omega
   obtain ⟨go,gc,hgo,-,-⟩:=own_formP hF.ow hlt
   simp only [Value.slice.injEq,true_and] at hgo
   obtain ⟨rfl,rfl⟩:=hgo
   obtain ⟨y0,y1,y2⟩:=own_cells hF.ow hlt
   have hpl:=((uh HO).ow _ (mem_getD hlt)).1
   have hst:=filt_step (P:=fun p=>decide (p.l ∈ rcL f)) hlt
   obtain ⟨p,hp⟩ : ∃ p,p = f.ow.getD m pr0:=⟨_,rfl⟩
   rw [← hp] at y0 y1 y2 hpl hst
   obtain ⟨W5,hW5⟩ : ∃ W5,W5 = wr.alloc (.cells #[Value.int .i64 p.k,.int .i64 p.l,.int .i64 p.r] 103):=⟨_,rfl⟩
   have hbx : Below wr.heap.size wr W5:=by rw [hW5]; exact below_boxQ wr _
   have hXb : Bk W5 wr.heap.size 103 [Value.int .i64 p.k,.int .i64 p.l,.int .i64 p.r]:=by rw [hW5]; exact Bk.new wr _ _
   obtain ⟨Y,hYe⟩ : ∃ Y,Y = wr.heap.size:=⟨_,rfl⟩
   rw [← hYe] at hXb
   have b0:=hXb.cell 0 rfl
   have b1:=hXb.cell 1 rfl
   have b2:=hXb.cell 2 rfl
   have hI5:=(uh hI).below hbx
   have hob:=(uh HOb).of_eq (w':=W5) (hI5.bw.block X (World.ownsRow.lt (uh HOb) X rfl).2)
   have d1:=(World.ownsRow.cellAt hob p.l (by omega)).trans (blC_get (by rw [rcA_len]; exact hpl))
   rw [rcA_get f hpl] at d1
   have i1 : (0 : Int) ≤ (m : Int):=by omega
   have i2 : (m : Int) < (f.ow.length : Int):=by omega
   have i3 : (p.l : Int) < 24:=by omega
   have H5:=hide hI5
   by_cases hm : p.l ∈ rcL f
   ·rw [show decide (p.l ∈ rcL f) = true by simpa using hm] at d1 hst
    have HLY:=hide (lay_any hI5.fm p.k p.l p.r (Nat.le_trans hfl (by omega)))
    have HST:=hide hst
    clear hF hp hst hbx hXb hI5 hob hm hI hfl
    go_upto_region 7 with fail
    rw [← hW5,← hYe]
    clear hW5 hYe
    go_wp2_with fail
    refine (uh HLY).mono ?_
    rintro e w6 ⟨rfl,ov6,hF6,hS6⟩
    have HN : Hid (FrF W2 w6 ⟨A3,{ f with ow:=(f.ow.take (m + 1)).filter (fun p=>decide (p.l ∈ rcL f)) },av3,ov6⟩):=hide ((uh H5).step (by rw [uh HST]; exact hF6) hS6)
    clear hF6 hS6 HLY H5
    go_wp2_with fail
    go_roundg (G - 1)
    case rel=>exact ⟨m + 1,ov6,by omega,by go_num,HN⟩
    case measure=>omega
   ·rw [show decide (p.l ∈ rcL f) = false by simpa using hm] at d1 hst
    have HN : Hid (FrF W2 W5 ⟨A3,{ f with ow:=(f.ow.take (m + 1)).filter (fun p=>decide (p.l ∈ rcL f)) },av3,ow5⟩):=hide (by rw [hst]; simpa using hI5)
    clear hF hp hst hbx hXb hI5 hob hm hI hfl H5
    go_upto_region 7 with fail
    rw [← hW5,← hYe]
    clear hW5 hYe
    go_wp2_with fail
    go_roundg (G - 1)
    case rel=>exact ⟨m + 1,ow5,by omega,by go_num,HN⟩
    case measure=>omega
  ·have hd : decide ((m : Int) < (f.ow.length : Int)) = false:=by simp; omega
   have hte : f.ow.take m = f.ow:=List.take_of_length_le (by omega)
   rw [hte] at hI hfl
   have hOg : FoOk { f with ow:=f.ow.filter (fun p=>decide (p.l ∈ rcL f)) }:=FoOk.mk' (uh HO).c5 (uh HO).cl' (fun p hp=>(uh HO).ow p (List.mem_filter.1 hp).1) (uh HO).ap ((uh HO).lf.sublist (List.filter_sublist.map _)) (uh HO).kd
   have HTD:=hide (tidy_any (uh hI).fm hOg (Nat.le_trans ha (by omega)))
   clear hte hOg hF hfl
   go_wp2_with fail
   refine (uh HTD).mono ?_
   rintro e w7 ⟨rfl,av7,ov7,hF7,hS7⟩
   have hf7:=(uh hI).step (x':=⟨A3,wiO f,av7,ov7⟩) hF7 hS7
   have HN : Hid (NewF w (wiO f) A3 w7):=hide ⟨av7,ov7,hf7.fm,fun k hk=>Nat.le_trans (uh HB2).size (hf7.ge k hk),(uh HB2).trans (hf7.bw.mono (uh HB2).size)⟩
   clear hF7 hS7 hf7 HTD
   go_wp2_with fail
   go_ret
   exact ⟨A3,rfl,uh HN⟩
end
section
variable {w : World} {A : Nat} {f : CF} {av ov : Value} {B : Nat} {v : Value} {L : List FE}
set_option maxRecDepth 100000 in
set_option maxHeartbeats 8000000 in
theorem isNew_any (h : IsF w A f av ov) (hf : Td f) (hL : Fl w B v L) (hT : ∀ x ∈ L,Td x.f) : Calls Tryz.prog 203 #[v,.pointer (some ⟨A,0,none⟩)] w fun e w'=>e = .returned (.bool (neB (L.map (·.f)) f)) ∧ Below w.heap.size w w':=by
 obtain ⟨R,hR⟩ : ∃ R,R = neB (L.map (·.f)) f:=⟨_,rfl⟩
 rw [← hR]
 have HR:=hide hR
 obtain ⟨la,lc,hlv,hl1,hl2⟩:=own_slc hL.row
 subst hlv
 have H:=hide h
 have HL:=hide hL
 have HTf:=hide hf
 have HT:=hide hT
 have HI0 : Hid (Below w.heap.size w w ∧ ∀ i,i < 0 → ∀ x,L[i]? = some x → saB f x.f = false):=hide ⟨Below.refl _ _,fun i hi=>by omega⟩
 clear h hf hL hT hR
 go_enter Tryz.func203,Tryz.ntmps203
 go_wp2_with fail
 go_loopg [9] L.length (fun gn iv wx=>∃ (k : Nat),k + gn = L.length ∧ iv = .int .i64 k ∧ Hid (Below w.heap.size w wx ∧ ∀ i,i < k → ∀ x,L[i]? = some x → saB f x.f = false))
 case atStart=>exact ⟨0,by omega,rfl,HI0⟩
 case round =>
  clear HI0
  obtain ⟨k,hkn,rfl,hI⟩:=hrel
  obtain ⟨G,hG⟩ : ∃ G,G = gk:=⟨_,rfl⟩
  by_cases hlt : k < L.length
  ·have hd : decide ((k : Int) < (L.length : Int)) = true:=by simp; omega
   have hL2:=(uh HL).below (uh hI).1
   obtain ⟨g2,cap2,hgv2,hcell⟩:=hL2.pend.cell hlt
   simp only [Value.slice.injEq,true_and] at hgv2
   obtain ⟨rfl,rfl⟩:=hgv2
   have hx:=hL2.fm _ (List.getElem_mem hlt)
   have htx:=uh HT _ (List.getElem_mem hlt)
   have hg : L[k]? = some L[k]:=List.getElem?_eq_getElem hlt
   obtain ⟨x,hxe⟩ : ∃ x,x = L[k]:=⟨_,rfl⟩
   rw [← hxe] at hcell hx htx hg
   have hxp : x.p = .pointer (some ⟨x.A,0,none⟩):=rfl
   rw [hxp] at hcell
   have HSA:=hide (same_any ((uh H).below (uh hI).1) hx.is (Nat.le_trans (uh HTf).ln (by omega)) (Nat.le_trans (uh HTf).ok.owLen (by omega)) (Nat.le_trans htx.ln (by omega)) (Nat.le_trans htx.ok.owLen (by omega)))
   have HG:=hide hg
   have i1 : (0 : Int) ≤ (k : Int):=by omega
   have i2 : (k : Int) < (L.length : Int):=by omega
   clear hL2 hx htx hg hxe hxp
   go_wp2_with fail
   refine (uh HSA).mono ?_
   rintro e w3 ⟨rfl,hb3⟩
   have HB3:=hide ((uh hI).1.trans (hb3.mono (uh hI).1.size))
   clear hb3 HSA
   cases hsa : saB f x.f
   ·go_wp2_with fail
    go_roundg (G - 1)
    case rel=>exact ⟨k + 1,by omega,by go_num,hide ⟨uh HB3,fun i hi y hy=>by
     by_cases e : i = k
     ·rw [e,uh HG] at hy
      injection hy with hy
      rw [← hy]; exact hsa
     ·exact (uh hI).2 i (by omega) y hy⟩⟩
    case measure=>omega
   ·have HE : Hid (R = false):=hide (by
     rw [uh HR]
     unfold neB
     have : (L.map (·.f)).any (fun g=>saB f g) = true:=by
      rw [List.any_eq_true]
      exact ⟨x.f,List.mem_map_of_mem (List.mem_of_getElem? (uh HG)),hsa⟩
     rw [this]; rfl)
    clear hsa
    go_wp2_with fail
    go_ret
    exact ⟨ret_bool (uh HE).symm,uh HB3⟩
  ·have hd : decide ((k : Int) < (L.length : Int)) = false:=by simp; omega
   have HE : Hid (R = true):=hide (by
    rw [uh HR]
    unfold neB
    have : (L.map (·.f)).any (fun g=>saB f g) = false:=by
     rw [List.any_eq_false]
     intro g hg
     obtain ⟨x,hx,rfl⟩:=List.mem_map.1 hg
     obtain ⟨i,hi,rfl⟩:=List.mem_iff_getElem.1 hx
     rw [(uh hI).2 i (by omega) _ (List.getElem?_eq_getElem hi)]
     simp
    rw [this]; rfl)
   go_wp2_with fail
   go_ret
   exact ⟨ret_bool (uh HE).symm,(uh hI).1⟩
end
def shC (c0 hv : Value) (lp : Bool) (kv wv : Value) (bd : Bool) (lf lo : Int) (fu : Bool) : List Value:=[c0,hv,.bool lp,kv,wv,.bool bd,.int .i64 lf,.int .i64 lo,.bool fu]
section
variable {w : World} {S : Nat} {c0 hv kv wv : Value} {lp bd fu : Bool} {lf lo : Int}
set_option maxRecDepth 100000 in
set_option maxHeartbeats 2000000 in
theorem spend_any (h : Bk w S 119 (shC c0 hv lp kv wv bd lf lo fu)) : Calls Tryz.prog 157 #[.pointer (some ⟨S,0,none⟩)] w fun e w'=>e = .returned (.tuple #[]) ∧ Bk w' S 119 (shC c0 hv lp kv wv bd (wrap64 (lf - 1)) lo (fu || (decide (wrap64 (lf - 1) < 0) && bd))) ∧ Stp [S] w [S] w':=by
 have c6:=h.cell 6 rfl
 have z6:=h.frz 6
 have hq : IntKind.i64.wrap (lf - 1) = wrap64 (lf - 1):=by rw [IntKind.wrap_i64,wrap64]
 obtain ⟨l',hl'⟩ : ∃ l',l' = wrap64 (lf - 1):=⟨_,rfl⟩
 rw [← hl'] at hq ⊢
 have h2:=h.set 6 (.int .i64 l')
 have d6:=h2.cell 6 rfl
 have d5:=h2.cell 5 rfl
 have d8:=h2.cell 8 rfl
 have z8:=h2.frz 8
 have hs2 : Stp [S] w [S] (w.setCell ⟨S,6,none⟩ (.int .i64 l')):=(Stp.refl _ _).setCell (p:=⟨S,6,none⟩) (Or.inl (by simp)) _
 have hs3 : Stp [S] w [S] ((w.setCell ⟨S,6,none⟩ (.int .i64 l')).setCell ⟨S,8,none⟩ (.bool true)):=hs2.setCell (p:=⟨S,8,none⟩) (Or.inl (by simp)) _
 have H2:=hide h2
 have H3:=hide (h2.set 8 (.bool true))
 have HS2:=hide hs2
 have HS3:=hide hs3
 clear h h2 hs2 hs3 hl'
 by_cases hn : l' < 0
 ·have d0 : decide (l' < (0 : Int)) = true:=by simpa using hn
  cases bd
  ·have HE : Hid ((fu || (decide (l' < 0) && false)) = fu):=hide (by simp)
   clear hn
   go_enter Tryz.func157,Tryz.ntmps157
   go_wp2_with fail
   go_end0
   exact ⟨rfl,by rw [uh HE]; exact uh H2,uh HS2⟩
  ·have HE : Hid ((fu || (decide (l' < 0) && true)) = true):=hide (by simp [hn])
   clear hn
   go_enter Tryz.func157,Tryz.ntmps157
   go_wp2_with fail
   go_end0
   exact ⟨rfl,by rw [uh HE]; exact uh H3,uh HS3⟩
 ·have d0 : decide (l' < (0 : Int)) = false:=by simpa using hn
  have HE : Hid ((fu || (decide (l' < 0) && bd)) = fu):=hide (by rw [d0]; simp)
  clear hn
  go_enter Tryz.func157,Tryz.ntmps157
  go_wp2_with fail
  go_end0
  exact ⟨rfl,by rw [uh HE]; exact uh H2,uh HS2⟩
set_option maxRecDepth 100000 in
set_option maxHeartbeats 2000000 in
theorem look_any (h : Bk w S 119 (shC c0 hv lp kv wv bd lf lo fu)) (n : Nat) : Calls Tryz.prog 155 #[.pointer (some ⟨S,0,none⟩),.int .i64 n] w fun e w'=>e = .returned (.tuple #[]) ∧ Bk w' S 119 (shC c0 hv lp kv wv bd lf (wrap64 (lo - n)) (fu || (decide (wrap64 (lo - n) < 0) && bd))) ∧ Stp [S] w [S] w':=by
 have c6:=h.cell 7 rfl
 have z6:=h.frz 7
 have hq : IntKind.i64.wrap (lo - (n : Int)) = wrap64 (lo - n):=by rw [IntKind.wrap_i64,wrap64]
 obtain ⟨l',hl'⟩ : ∃ l',l' = wrap64 (lo - n):=⟨_,rfl⟩
 rw [← hl'] at hq ⊢
 have h2:=h.set 7 (.int .i64 l')
 have d6:=h2.cell 7 rfl
 have d5:=h2.cell 5 rfl
 have d8:=h2.cell 8 rfl
 have z8:=h2.frz 8
 have hs2 : Stp [S] w [S] (w.setCell ⟨S,7,none⟩ (.int .i64 l')):=(Stp.refl _ _).setCell (p:=⟨S,7,none⟩) (Or.inl (by simp)) _
 have hs3 : Stp [S] w [S] ((w.setCell ⟨S,7,none⟩ (.int .i64 l')).setCell ⟨S,8,none⟩ (.bool true)):=hs2.setCell (p:=⟨S,8,none⟩) (Or.inl (by simp)) _
 have H2:=hide h2
 have H3:=hide (h2.set 8 (.bool true))
 have HS2:=hide hs2
 have HS3:=hide hs3
 clear h h2 hs2 hs3 hl'
 by_cases hn : l' < 0
 ·have d0 : decide (l' < (0 : Int)) = true:=by simpa using hn
  cases bd
  ·have HE : Hid ((fu || (decide (l' < 0) && false)) = fu):=hide (by simp)
   clear hn
   go_enter Tryz.func155,Tryz.ntmps155
   go_wp2_with fail
   go_end0
   exact ⟨rfl,by rw [uh HE]; exact uh H2,uh HS2⟩
  ·have HE : Hid ((fu || (decide (l' < 0) && true)) = true):=hide (by simp [hn])
   clear hn
   go_enter Tryz.func155,Tryz.ntmps155
   go_wp2_with fail
   go_end0
   exact ⟨rfl,by rw [uh HE]; exact uh H3,uh HS3⟩
 ·have d0 : decide (l' < (0 : Int)) = false:=by simpa using hn
  have HE : Hid ((fu || (decide (l' < 0) && bd)) = fu):=hide (by rw [d0]; simp)
  clear hn
  go_enter Tryz.func155,Tryz.ntmps155
  go_wp2_with fail
  go_end0
  exact ⟨rfl,by rw [uh HE]; exact uh H2,uh HS2⟩
end
theorem fnG_mono {c : Cd} {r : List CF × Sr} {g : CF} (h : (fnG c r g).2.ok = true) : r.2.ok = true ∧ (neB r.1 (tdF g) = true → r.1.length ≤ bigC):=by
 unfold fnG at h
 split at h
 ·have h1 : (r.2.ok && decide (r.1.length ≤ bigC)) = true:=h
  rw [Bool.and_eq_true,decide_eq_true_eq] at h1
  exact ⟨h1.1,fun _=>h1.2⟩
 ·rename_i hn
  exact ⟨h,fun e=>absurd e hn⟩
theorem fold_mono {β : Type} (g : List CF × Sr → β → List CF × Sr) (hg : ∀ r b,(g r b).2.ok = true → r.2.ok = true) : ∀ (l : List β) {r : List CF × Sr},(l.foldl g r).2.ok = true → r.2.ok = true
 | [],_,h=>h
 | b :: l,r,h=>hg r b (fold_mono g hg l h)
theorem fnS_mono {c : Cd} {f : CF} {i : Nat} (r : List CF × Sr) (a : Nat) (h : (fnS c f i r a).2.ok = true) : r.2.ok = true:=by
 unfold fnS at h
 split at h
 ·exact fold_mono (fnG c) (fun r b h=>(fnG_mono h).1) _ h
 ·exact h
structure Fn (w W : World) (B : Nat) (F0 : List Nat) (S : Nat) (cs : List Value) (X : Nat) (f : CF) (v : Value) (L : List FE) : Prop where
 fl : Fl W B v L
 bs : Bk W S 119 cs
 xb : Ob W 104 24 X (blC (rcA f))
 ns : ∀ k ∈ flF v L,k ≠ S ∧ k ≠ X
 sx : S ≠ X
 st : Stp F0 w (S :: flF v L) W
 s0 : S ∈ F0
 bb : B ≤ W.heap.size
section
variable {w W W' : World} {B S X : Nat} {F0 : List Nat} {cs cs' : List Value} {f : CF} {v : Value} {L : List FE}
theorem Fn.xl (h : Fn w W B F0 S cs X f v L) : X < W.heap.size:=(World.ownsRow.lt h.xb X rfl).2
theorem Fn.below (h : Fn w W B F0 S cs X f v L) (hb : Below W.heap.size W W') : Fn w W' B F0 S cs X f v L :=
 ⟨h.fl.below hb,h.bs.below hb,h.xb.of_eq (hb.block X h.xl),h.ns,h.sx,⟨hb.os.trans h.st.os,hb.tape.trans h.st.tape,hb.output.trans h.st.output,Nat.le_trans h.st.size hb.size,fun k hk hn=>(hb.block k (Nat.lt_of_lt_of_le hk h.st.size)).trans (h.st.block k hk hn),h.st.foot⟩,h.s0,Nat.le_trans h.bb hb.size⟩
theorem Fn.spend (h : Fn w W B F0 S cs X f v L) (hb : Bk W' S 119 cs') (hs : Stp [S] W [S] W') : Fn w W' B F0 S cs' X f v L:=by
 refine ⟨h.fl.stp hs (fun k hk hn=>(h.ns k hk).1 (by simpa using hn)),hb,h.xb.of_eq (hs.block X h.xl (by simpa using fun e=>h.sx e.symm)),h.ns,h.sx,⟨hs.os.trans h.st.os,hs.tape.trans h.st.tape,hs.output.trans h.st.output,Nat.le_trans h.st.size hs.size,fun k hk hn=>(hs.block k (Nat.lt_of_lt_of_le hk h.st.size) (fun e=>hn (by rw [List.mem_singleton] at e; rw [e]; exact h.s0))).trans (h.st.block k hk hn),h.st.foot⟩,h.s0,Nat.le_trans h.bb hs.size⟩
theorem Fn.side {F F' : List Nat} (h : Fn w W B F0 S cs X f v L) (hs : Stp F W F' W') (hd : ∀ k ∈ F,k ∉ flF v L ∧ k ≠ S ∧ k ≠ X ∧ w.heap.size ≤ k) : Fn w W' B F0 S cs X f v L :=
 ⟨h.fl.stp hs (fun k hk hn=>(hd k hn).1 hk),h.bs.stp hs (fun hn=>(hd S hn).2.1 rfl),h.xb.of_eq (hs.block X h.xl (fun hn=>(hd X hn).2.2.1 rfl)),h.ns,h.sx,⟨hs.os.trans h.st.os,hs.tape.trans h.st.tape,hs.output.trans h.st.output,Nat.le_trans h.st.size hs.size,fun k hk hn=>(hs.block k (Nat.lt_of_lt_of_le hk h.st.size) (fun e=>by have:=(hd k e).2.2.2; omega)).trans (h.st.block k hk hn),h.st.foot⟩,h.s0,Nat.le_trans h.bb hs.size⟩
theorem Fn.app {g1 c1 : Nat} {o : Obj} {x : FE} {W1 : World} (h : Fn w W B F0 S cs X f v L) (hx : Fm W x.A x.f x.av x.ov) (hd : ∀ k ∈ x.bs,k ∉ flF v L ∧ k ≠ S ∧ k ≠ X ∧ w.heap.size ≤ k ∧ B ≤ k)
  (hown : W1.ownsRow B 66 1 (.slice (some ⟨g1,0,none⟩) (L.length + 1) c1) (L.length + 1) (L.map FE.p ++ [x.p])) (hg : (W.alloc o).grownBy W1 v.ownBlock) (hblk : some g1 = v.ownBlock ∨ g1 = (W.alloc o).heap.size) :
  Fn w W1 B F0 S cs X f (.slice (some ⟨g1,0,none⟩) (L.length + 1) c1) (L ++ [x]):=by
 obtain ⟨a1,a2,a3⟩:=h.fl.app hx (fun k hk=>(hd k hk).2.2.2.2) (fun k hk=>(hd k hk).1) h.bb hown hg hblk
 have hv : ∀ k ∈ v.ownBlock.toList,k ∈ flF v L:=fun k hk=>List.mem_append_left _ hk
 refine ⟨a1,h.bs.stp a2 (fun hn=>(h.ns S (hv S hn)).1 rfl),h.xb.of_eq (a2.block X h.xl (fun hn=>(h.ns X (hv X hn)).2 rfl)),fun k hk=>?_,h.sx,?_,h.s0,Nat.le_trans h.bb a2.size⟩
 ·rcases a3 k hk with q | q | q
  ·exact h.ns k q
  ·exact ⟨(hd k q).2.1,(hd k q).2.2.1⟩
  ·exact ⟨fun e=>by have:=h.bs.lt; omega,fun e=>by have:=h.xl; omega⟩
 ·have h2:=h.st
  refine ⟨a2.os.trans h2.os,a2.tape.trans h2.tape,a2.output.trans h2.output,Nat.le_trans h2.size a2.size,fun k hk hn=>?_,fun k hk=>?_⟩
  ·rw [a2.block k (Nat.lt_of_lt_of_le hk h2.size) (fun hm=>?_)]
   ·exact h2.block k hk hn
   ·rcases h2.foot k (List.mem_cons_of_mem _ (hv k hm)) with q | q
    ·exact hn q
    ·omega
  ·rcases List.mem_cons.1 hk with rfl | hk
   ·exact h2.foot k (by simp)
   ·rcases a3 k hk with q | q | q
    ·exact h2.foot k (List.mem_cons_of_mem _ q)
    ·exact Or.inr (hd k q).2.2.2.1
    ·exact Or.inr (Nat.le_trans h2.size q)
end
theorem meF_ap {f g : CF} {a i : Nat} (h : g ∈ meF f a i) : g.ap.length = f.ap.length:=by
 unfold meF at h
 rcases List.mem_append.1 h with h | h
 ·split at h
  ·simp at h
  ·rw [List.mem_singleton] at h; subst h
   show (f.ap.map _).length = _
   rw [List.length_map]
 ·split at h
  ·rw [List.mem_singleton] at h; subst h; rfl
  ·simp at h
section
variable {w : World} {B S : Nat} {v : Value} {L : List FE} {c0 hv kv wv : Value} {lp : Bool} {lo : Int} {x : FE} {c : Cd} {s : Sr}
set_option maxRecDepth 100000 in
set_option maxHeartbeats 8000000 in
theorem found_any (hS : Bk w S 119 (shC c0 hv lp kv wv c.bd s.lf lo s.fu)) (hL : Fl w B v L) (hT : ∀ y ∈ L,Td y.f) (hx : x ∈ L) (hSL : S ∉ flF v L) (hB : B ≤ w.heap.size) {i : Nat} (hi : i < x.f.ow.length) (hok : (fndF c x.f (L.map (·.f),s) i).2.ok = true) :
  Calls Tryz.prog 159 #[.pointer (some ⟨S,0,none⟩),v,.pointer (some ⟨x.A,0,none⟩),.int .i64 i] w fun e w'=>∃ v' L',e = .returned v' ∧ Fl w' B v' (L ++ L') ∧ (∀ y ∈ L',Td y.f) ∧ (L ++ L').map (·.f) = (fndF c x.f (L.map (·.f),s) i).1 ∧ Bk w' S 119 (shC c0 hv lp kv wv c.bd (fndF c x.f (L.map (·.f),s) i).2.lf lo (fndF c x.f (L.map (·.f),s) i).2.fu) ∧ S ∉ flF v' (L ++ L') ∧ Stp (S :: flF v L) w (S :: flF v' (L ++ L')) w':=by
 obtain ⟨i0,hi0,hz0,hz1,hz2⟩:=info_parts Tryz.infoPF
 obtain ⟨R,hR⟩ : ∃ R,R = fndF c x.f (L.map (·.f),s) i:=⟨_,rfl⟩
 rw [← hR] at hok ⊢
 have hxF:=hL.fm x hx
 have hxT:=hT x hx
 have hol:=hxT.ok.owLen
 have HRE:=hide (reached_any hxF.is hxT.ok)
 obtain ⟨va,vc,hlv,-,-⟩:=own_slc hL.row
 subst hlv
 have HL:=hide hL
 have HS:=hide hS
 have HX:=hide hx
 have HXT:=hide hxT
 have HT:=hide hT
 have HSL:=hide hSL
 have HOK:=hide hok
 have HRR:=hide hR
 have HXP : Hid (∀ (W : World) (vv : Value) (E : List FE),Fl W B vv (L ++ E) → Fm W x.A x.f x.av x.ov):=hide (fun W vv E hf=>hf.fm x (List.mem_append_left _ hx))
 obtain ⟨xa,xf,xav,xov⟩:=x
 simp only at hi HRE HXT HXP hol hR HRR ⊢
 clear hL hS hx hxF hxT hT hSL hok hR
 go_enter Tryz.func159,Tryz.ntmps159
 go_wp2_with fail
 refine (uh HRE).mono ?_
 rintro e w1 ⟨rfl,hb1⟩
 obtain ⟨M,hM,hml,hTh,hI2,hOn,hOb,hbl⟩:=lay24 w1 xf
 rw [← hM]
 have HTh:=hide hTh
 have HI2:=hide hI2
 have HOn:=hide hOn
 obtain ⟨X,hXe⟩ : ∃ X,X = w1.heap.size:=⟨_,rfl⟩
 obtain ⟨W2,hW2⟩ : ∃ W2,W2 = (w1.alloc (.cells (blC (List.replicate 24 false)).toArray 104)).setCells w1.heap.size 0 M:=⟨_,rfl⟩
 rw [← hW2] at hOb hbl
 rw [← hXe] at hOb
 have hb2:=hb1.trans (hbl.mono hb1.size)
 have hFn : Fn w W2 B (S :: flF (.slice va L.length vc) L) S (shC c0 hv lp kv wv c.bd s.lf lo s.fu) X xf (.slice va L.length vc) (L ++ []):=by
  rw [List.append_nil]
  have h1:=uh HL
  have h2:=uh HS
  refine ⟨h1.below hb2,h2.below hb2,hOb,fun k hk=>⟨fun e=>uh HSL (by rw [← e]; exact hk),fun e=>?_⟩,fun e=>?_,(Stp.ofBw hb2),by simp,Nat.le_trans hB hb2.size⟩
  ·have:=h1.lt k hk; have:=hb1.size; omega
  ·have:=h2.lt; have:=hb1.size; omega
 have HI0 : Hid (Fn w W2 B (S :: flF (.slice va L.length vc) L) S (shC c0 hv lp kv wv c.bd s.lf lo s.fu) X xf (.slice va L.length vc) (L ++ []) ∧ w.heap.size ≤ X):=hide ⟨hFn,by rw [hXe]; exact hb1.size⟩
 clear hTh hI2 hOn hOb hbl hb1 hb2 hM HRE hFn
 simp only [blC,List.replicate,List.map_cons,List.map_nil] at hW2
 go_upto_region 2 with (refine wpList_store_mid rfl 104 (.tmp 9) (.tmp 14) rfl _ 0 M.toArray rfl rfl (uh HTh) (uh HI2) (uh HOn) ?_)
 rw [← hW2,← hXe]
 clear hW2 hXe HTh HI2 HOn hml
 go_wp2_with fail
 go_loopg [1,10] 24 (fun gn cv iv wx=>∃ (k : Nat) (E : List FE) (s' : Sr),k + gn = 24 ∧ iv = .int .i64 k ∧ Hid (Fn w wx B (S :: flF (.slice va L.length vc) L) S (shC c0 hv lp kv wv c.bd s'.lf lo s'.fu) X xf cv (L ++ E) ∧ (∀ y ∈ E,Td y.f) ∧ (List.range' k (24 - k)).foldl (fnS c xf i) ((L ++ E).map (·.f),s') = R ∧ w.heap.size ≤ X))
 case atStart=>exact ⟨0,[],s,by omega,rfl,hide ⟨(uh HI0).1,fun y hy=>by simp at hy,by rw [List.append_nil,uh HRR]; unfold fndF; rw [List.range_eq_range'],(uh HI0).2⟩⟩
 case round =>
  clear HI0
  obtain ⟨k,E,s',hkn,rfl,hI⟩:=hrel
  obtain ⟨G,hG⟩ : ∃ G,G = gk:=⟨_,rfl⟩
  obtain ⟨la,lc,hlv,-,-⟩:=own_slc (uh hI).1.fl.row
  subst hlv
  by_cases hlt : k < 24
  ·have hd : decide ((k : Int) < (24 : Int)) = true:=by simp; omega
   have hrng : List.range' k (24 - k) = k :: List.range' (k + 1) (24 - (k + 1)):=by rw [show 24 - k = (24 - (k + 1)) + 1 by omega,List.range'_succ]
   have hfo:=(uh hI).2.2.1
   rw [hrng,List.foldl_cons] at hfo
   have hF:=(uh HXP wr _ E (uh hI).1.fl)
   have d1:=(World.ownsRow.cellAt (uh hI).1.xb k (by omega)).trans (blC_get (by rw [rcA_len]; exact hlt))
   rw [rcA_get xf hlt] at d1
   have x0:=hF.is.cls (i:=0) (by omega)
   unfold clV at x0
   obtain ⟨n0,hn0⟩ : ∃ n0,n0 = xf.cl.getD 0 0:=⟨_,rfl⟩
   rw [← hn0] at x0
   have hfa : fnA xf k = (decide (k ∈ rcL xf) && !decide (k = n0) && !(bgn xf.ow k).isSome):=by rw [hn0]; rfl
   have HBG:=hide (begins_any k hF.is)
   have i1 : (0 : Int) ≤ (k : Int):=by omega
   have i2 : (k : Int) < (24 : Int):=by omega
   have hsk : fnA xf k = false → (List.range' (k + 1) (24 - (k + 1))).foldl (fnS c xf i) ((L ++ E).map (·.f),s') = R:=fun e=>by
    have e2 : fnS c xf i ((L ++ E).map (·.f),s') k = ((L ++ E).map (·.f),s'):=by unfold fnS; rw [if_neg (by rw [e]; decide)]
    rw [e2] at hfo; exact hfo
   have HSK : Hid (fnA xf k = false → Hid (Fn w wr B (S :: flF (.slice va L.length vc) L) S (shC c0 hv lp kv wv c.bd s'.lf lo s'.fu) X xf (.slice la (L ++ E).length lc) (L ++ E) ∧ (∀ y ∈ E,Td y.f) ∧ (List.range' (k + 1) (24 - (k + 1))).foldl (fnS c xf i) ((L ++ E).map (·.f),s') = R ∧ w.heap.size ≤ X)):=hide (fun e=>hide ⟨(uh hI).1,(uh hI).2.1,hsk e,(uh hI).2.2.2⟩)
   have HFO:=hide hfo
   have HFA:=hide hfa
   clear hrng hfo hF hn0 hfa hsk
   rw [List.length_append] at HSK ⊢
   by_cases hm : k ∈ rcL xf
   ·rw [show decide (k ∈ rcL xf) = true by simpa using hm] at d1 HFA
    by_cases hc : k = n0
    ·have d2 : ((k : Int) == (n0 : Int)) = true:=by simp [hc]
     have HN:=hide (uh HSK (by rw [uh HFA]; simp [hc]))
     clear hm hc HSK hI
     go_wp2_with fail
     go_roundg (G - 1)
     case rel=>exact ⟨k + 1,E,s',by omega,by go_num,uh HN⟩
     case measure=>omega
    ·have d2 : ((k : Int) == (n0 : Int)) = false:=by simp; omega
     have hg:=opI_ge (bgn xf.ow k)
     cases hb : bgn xf.ow k with
     | some b0 =>
      rw [hb] at hg HBG
      have HN:=hide (uh HSK (by rw [uh HFA,hb]; simp))
      clear hm hc HSK hI hb
      go_wp2_with fail
      refine (uh HBG).mono ?_
      rintro e w3 ⟨rfl,rfl⟩
      go_wp2_with fail
      go_roundg (G - 1)
      case rel=>exact ⟨k + 1,E,s',by omega,by go_num,uh HN⟩
      case measure=>omega
     | none =>
      rw [hb] at hg HBG
      have hA : fnA xf k = true:=by rw [uh HFA,hb]; simp [hc]
      have hF:=(uh HXP wr _ E (uh hI).1.fl)
      have HME:=hide (meet_f hF.is (uh HXT).ok (Nat.le_trans (uh HXT).ln (by omega)) hlt hi)
      have HMO:=hide (meF_fok (i:=i) (uh HXT).ok hlt hb)
      have hr1 : fnS c xf i ((L ++ E).map (·.f),s') k = (meF xf k i).foldl (fnG c) ((L ++ E).map (·.f),s'):=by unfold fnS; rw [if_pos hA]
      rw [hr1] at HFO
      obtain ⟨R1,hR1⟩ : ∃ R1,R1 = (meF xf k i).foldl (fnG c) ((L ++ E).map (·.f),s'):=⟨_,rfl⟩
      rw [← hR1] at HFO
      have HR1:=hide hR1
      have HOK1 : Hid (R1.2.ok = true):=hide (by
       refine fold_mono (fnS c xf i) (fun r b h=>fnS_mono r b h) (List.range' (k + 1) (24 - (k + 1))) ?_
       rw [uh HFO]; exact uh HOK)
      have hMl:=meF_len xf k i
      have HI:=hide (uh hI)
      clear hm hc HSK hI hb hA hF hr1 hR1
      go_wp2_with fail
      refine (uh HBG).mono ?_
      rintro e w3 ⟨rfl,rfl⟩
      go_wp2_with fail
      refine (uh HME).mono ?_
      rintro e w4 ⟨v2,L2,rfl,hfl2,hm2,hb4⟩
      have hFn4:=(uh HI).1.below hb4
      have hP4:=hfl2.pend
      have hdj : ∀ y ∈ fpP v2 L2 0,y ∉ flF (.slice la (L ++ E).length lc) (L ++ E) ∧ y ≠ S ∧ y ≠ X ∧ w.heap.size ≤ y ∧ B ≤ y:=fun y hy=>by
       have h1:=hP4.geB y hy
       exact ⟨fun hn=>by have h2:=(uh HI).1.fl.lt y hn; omega,fun e=>by have h2:=(uh HI).1.bs.lt; omega,fun e=>by have h2:=(uh HI).1.xl; omega,Nat.le_trans (uh HI).1.st.size h1,Nat.le_trans (uh HI).1.bb h1⟩
      obtain ⟨B2,hB2⟩ : ∃ B2,B2 = w3.heap.size:=⟨_,rfl⟩
      rw [← hB2] at hP4
      obtain ⟨a2,c2,hv2,-,-⟩:=own_slc hP4.row
      subst hv2
      have HM2:=hide hm2
      have hL22 : L2.length ≤ 2:=by have:=congrArg List.length hm2; rw [List.length_map] at this; omega
      have HJ0 : Hid (Fn w w4 B (S :: flF (.slice va L.length vc) L) S (shC c0 hv lp kv wv c.bd s'.lf lo s'.fu) X xf (.slice la (L.length + E.length) lc) (L ++ E) ∧ (∀ y ∈ E,Td y.f) ∧ Pend w4 B2 (.slice a2 L2.length c2) L2 0 ∧ (∀ y ∈ fpP (.slice a2 L2.length c2) L2 0,y ∉ flF (.slice la (L.length + E.length) lc) (L ++ E) ∧ y ≠ S ∧ y ≠ X ∧ w.heap.size ≤ y ∧ B ≤ y) ∧ ((meF xf k i).drop 0).foldl (fnG c) ((L ++ E).map (·.f),s') = R1 ∧ w.heap.size ≤ X):=hide (by
       rw [← List.length_append]
       exact ⟨hFn4,(uh HI).2.1,hP4,hdj,(uh HR1).symm,(uh HI).2.2.2⟩)
      clear hfl2 hm2 hb4 hFn4 hP4 hdj HME HI hB2 hMl d1 x0
      go_wp2_with fail
      go_loopg [1,43] L2.length (fun gn cv iv wx=>∃ (j : Nat) (Ea : List FE) (sa : Sr),j + gn = L2.length ∧ iv = .int .i64 j ∧ Hid (Fn w wx B (S :: flF (.slice va L.length vc) L) S (shC c0 hv lp kv wv c.bd sa.lf lo sa.fu) X xf cv (L ++ Ea) ∧ (∀ y ∈ Ea,Td y.f) ∧ Pend wx B2 (.slice a2 L2.length c2) L2 j ∧ (∀ y ∈ fpP (.slice a2 L2.length c2) L2 j,y ∉ flF cv (L ++ Ea) ∧ y ≠ S ∧ y ≠ X ∧ w.heap.size ≤ y ∧ B ≤ y) ∧ ((meF xf k i).drop j).foldl (fnG c) ((L ++ Ea).map (·.f),sa) = R1 ∧ w.heap.size ≤ X))
      case atStart=>exact ⟨0,E,s',by omega,rfl,HJ0⟩
      case round =>
       clear HJ0
       obtain ⟨j,Ea,sa,hjn,rfl,hJ⟩:=hrel
       obtain ⟨G2,hG2⟩ : ∃ G2,G2 = gk:=⟨_,rfl⟩
       obtain ⟨lb,ld,hlv,-,-⟩:=own_slc (uh hJ).1.fl.row
       subst hlv
       by_cases hjl : j < L2.length
       ·have hd2 : decide ((j : Int) < (L2.length : Int)) = true:=by simp; omega
        obtain ⟨g2,cap2,hgv2,hcell⟩:=(uh hJ).2.2.1.cell hjl
        simp only [Value.slice.injEq,true_and] at hgv2
        obtain ⟨rfl,rfl⟩:=hgv2
        obtain ⟨hy,-,hPn,hPd,hPm⟩:=(uh hJ).2.2.1.next hjl
        have hjm : j < (meF xf k i).length:=by rw [← uh HM2,List.length_map]; exact hjl
        have hfy : L2[j].f = (meF xf k i)[j]:=by
         have:=congrArg (fun l=>l[j]?) (uh HM2)
         simp only [List.getElem?_map,List.getElem?_eq_getElem hjl,List.getElem?_eq_getElem hjm,Option.map_some,Option.some.injEq] at this
         exact this
        have hmem : L2[j].f ∈ meF xf k i:=by rw [hfy]; exact List.getElem_mem hjm
        have hyO:=uh HMO _ hmem
        have hya:=meF_ap hmem
        have hdr : (meF xf k i).drop j = L2[j].f :: (meF xf k i).drop (j + 1):=by rw [hfy]; exact List.drop_eq_getElem_cons hjm
        have hfo:=(uh hJ).2.2.2.2.1
        rw [hdr,List.foldl_cons] at hfo
        have hokG : (fnG c ((L ++ Ea).map (·.f),sa) L2[j].f).2.ok = true:=fold_mono (fnG c) (fun r b h=>(fnG_mono h).1) ((meF xf k i).drop (j + 1)) (by rw [hfo]; exact uh HOK1)
        have hmono:=(fnG_mono hokG).2
        obtain ⟨y,hye⟩ : ∃ y,y = L2[j]:=⟨_,rfl⟩
        rw [← hye] at hcell hy hPd hPm hyO hya hfo hmono
        have hdy : ∀ q ∈ y.bs,q ∉ flF (.slice lb (L ++ Ea).length ld) (L ++ Ea) ∧ q ≠ S ∧ q ≠ X ∧ w.heap.size ≤ q ∧ B ≤ q:=fun q hq=>(uh hJ).2.2.2.1 q (hPm q hq)
        have HTD:=hide (tidy_any hy hyO (by rw [hya]; exact Nat.le_trans (uh HXT).ln (by omega)))
        have hyp : y.p = .pointer (some ⟨y.A,0,none⟩):=rfl
        rw [hyp] at hcell
        have HFo:=hide hfo
        have HMo:=hide hmono
        have HPn:=hide hPn
        have HPd:=hide hPd
        have HDy:=hide hdy
        have HYO:=hide hyO
        have HJ:=hide (uh hJ)
        have k1 : (0 : Int) ≤ (j : Int):=by omega
        have k2 : (j : Int) < (L2.length : Int):=by omega
        clear hy hPn hPd hPm hjm hfy hmem hyO hya hdr hfo hokG hmono hdy hyp hye hJ
        rw [List.length_append] at HDy HJ ⊢
        go_wp2_with fail
        refine (uh HTD).mono ?_
        rintro e w5 ⟨rfl,av5,ov5,hF5,hS5⟩
        have hside : ∀ q ∈ bsF y.A av5 ov5,q ∉ flF (.slice lb (L.length + Ea.length) ld) (L ++ Ea) ∧ q ≠ S ∧ q ≠ X ∧ w.heap.size ≤ q ∧ B ≤ q:=fun q hq=>by
         rcases hS5.foot q hq with p | p
         ·exact uh HDy q p
         ·exact ⟨fun hn=>by have h2:=(uh HJ).1.fl.lt q hn; omega,fun e=>by have h2:=(uh HJ).1.bs.lt; omega,fun e=>by have h2:=(uh HJ).1.xl; omega,Nat.le_trans (uh HJ).1.st.size p,Nat.le_trans (uh HJ).1.bb p⟩
        have hFn5:=(uh HJ).1.side hS5 (fun q hq=>⟨(uh HDy q hq).1,(uh HDy q hq).2.1,(uh HDy q hq).2.2.1,(uh HDy q hq).2.2.2.1⟩)
        have hP5:=(uh HPn).stp hS5 (fun q hq hn=>(uh HPd q hq).2 hn)
        have hTall : ∀ q ∈ L ++ Ea,Td q.f:=fun q hq=>by
         rcases List.mem_append.1 hq with h | h
         ·exact uh HT q h
         ·exact (uh HJ).2.1 q h
        have HIN:=hide (isNew_any hF5.is (uh HYO).tidy hFn5.fl hTall)
        have hP5d : ∀ q ∈ fpP (.slice (some ⟨g2,0,none⟩) L2.length c2) L2 (j + 1),(q ∉ flF (.slice lb (L.length + Ea.length) ld) (L ++ Ea) ∧ q ≠ S ∧ q ≠ X ∧ w.heap.size ≤ q ∧ B ≤ q) ∧ q ∉ bsF y.A av5 ov5:=fun q hq=>⟨(uh HJ).2.2.2.1 q (uh HPd q hq).1,fun hn=>by
         rcases hS5.foot q hn with p | p
         ·exact (uh HPd q hq).2 p
         ·have:=(uh HPn).lt q hq; omega⟩
        have HF5:=hide hF5
        have HFn5:=hide hFn5
        have HP5:=hide hP5
        have HSd:=hide hside
        have HP5d:=hide hP5d
        clear hF5 hS5 hside hFn5 hP5 hTall hP5d HTD hcell
        go_wp2_with fail
        refine (uh HIN).mono ?_
        rintro e w6 ⟨rfl,hb6⟩
        have hFn6:=(uh HFn5).below hb6
        have HP6:=hide ((uh HP5).below hb6)
        have HF6:=hide ((uh HF5).below hb6)
        clear HIN HFn5 HP5 HF5
        cases hne : neB ((L ++ Ea).map (·.f)) (tdF y.f)
        ·have hgg : fnG c ((L ++ Ea).map (·.f),sa) y.f = ((L ++ Ea).map (·.f),sa):=by unfold fnG; rw [if_neg (by rw [hne]; decide)]
         have HN : Hid (Fn w w6 B (S :: flF (.slice va L.length vc) L) S (shC c0 hv lp kv wv c.bd sa.lf lo sa.fu) X xf (.slice lb (L.length + Ea.length) ld) (L ++ Ea) ∧ (∀ y ∈ Ea,Td y.f) ∧ Pend w6 B2 (.slice (some ⟨g2,0,none⟩) L2.length c2) L2 (j + 1) ∧ (∀ y ∈ fpP (.slice (some ⟨g2,0,none⟩) L2.length c2) L2 (j + 1),y ∉ flF (.slice lb (L.length + Ea.length) ld) (L ++ Ea) ∧ y ≠ S ∧ y ≠ X ∧ w.heap.size ≤ y ∧ B ≤ y) ∧ ((meF xf k i).drop (j + 1)).foldl (fnG c) ((L ++ Ea).map (·.f),sa) = R1 ∧ w.heap.size ≤ X):=hide ⟨hFn6,(uh HJ).2.1,uh HP6,fun q hq=>(uh HP5d q hq).1,by have:=uh HFo; rw [hgg] at this; exact this,(uh HJ).2.2.2.2.2⟩
         clear hgg hne hFn6 hb6 HJ
         go_wp2_with fail
         go_roundg (G2 - 1)
         case rel=>exact ⟨j + 1,Ea,sa,by omega,by go_num,HN⟩
         case measure=>omega
        ·have hgg : fnG c ((L ++ Ea).map (·.f),sa) y.f = ((L ++ Ea).map (·.f) ++ [tdF y.f],spS' c { sa with ok:=sa.ok && decide (((L ++ Ea).map (·.f)).length ≤ bigC) }):=by unfold fnG; rw [if_pos hne]
         have hlen : L.length + Ea.length ≤ 900000:=by
          have:=uh HMo hne
          rw [List.length_map,List.length_append] at this
          unfold bigC at this
          exact this
         have HR6 : Hid (w6.ownsRow B 66 1 (.slice lb (L.length + Ea.length) ld) (L.length + Ea.length) ((L ++ Ea).map FE.p)):=hide (by have:=hFn6.fl.row; rwa [List.length_append] at this)
         have HFn6:=hide hFn6
         have hbb6:=hFn6.bb
         have HGG:=hide hgg
         clear hgg hne hFn6 hb6
         go_wp2_with (at_builtin; refine wpList_app1 _ rfl (.tmp 52) (.tmp 54) 162 rfl B 66 i0 _ 1 8 Tryz.underlying162 hi0 hz0 hz1 hz2 rfl (by decide) _ (L.length + Ea.length) ((L ++ Ea).map FE.p) rfl ((uh HR6).alloc _) ⟨_,0,none⟩ 1 [.pointer (some ⟨y.A,0,none⟩)] rfl rfl (new_cells _ _ (by simp) [.pointer (some ⟨y.A,0,none⟩)] _) (by intro u hu; simp only [List.mem_singleton] at hu; subst hu; rfl) (by omega) (by omega) (by simp; omega) ?_)
         intro g7 cap7 w7 hown7 hgrow7 hblk7
         have hs7:=stp_grow hgrow7 (by simpa using hblk7)
         have hFn7:=(uh HFn6).app (x:=⟨y.A,tdF y.f,av5,ov5⟩) (g1:=g7) (c1:=cap7) (uh HF6) (uh HSd) (by rw [List.length_append,List.map_append,List.append_assoc]; exact hown7) hgrow7 (by simpa using hblk7)
         have hP7:=(uh HP6).stp hs7 (fun q hq hn=>(uh HP5d q hq).1.1 (List.mem_append_left _ hn))
         have hD7 : ∀ q ∈ fpP (.slice (some ⟨g2,0,none⟩) L2.length c2) L2 (j + 1),q ∉ flF (.slice (some ⟨g7,0,none⟩) (L.length + Ea.length + 1) cap7) (L ++ (Ea ++ [⟨y.A,tdF y.f,av5,ov5⟩])):=fun q hq hn=>by
          rcases List.mem_append.1 hn with p | p
          ·have e : q = g7:=by simpa [Value.ownBlock,eq_comm] using p
           subst e
           rcases hblk7 with e | e
           ·exact (uh HP5d q hq).1.1 (List.mem_append_left _ (by rw [← e]; simp))
           ·have:=(uh HP6).lt q hq; omega
          ·rw [← List.append_assoc,List.flatMap_append,List.mem_append] at p
           rcases p with p | p
           ·exact (uh HP5d q hq).1.1 (List.mem_append_right _ p)
           ·simp only [List.flatMap_cons,List.flatMap_nil,List.append_nil] at p
            exact (uh HP5d q hq).2 p
         rw [List.append_assoc,List.length_append] at hFn7
         have HSP:=hide (spend_any hFn7.bs)
         have HFn7:=hide hFn7
         have HP7:=hide hP7
         have HD7:=hide hD7
         clear hown7 hgrow7 hblk7 hs7 hFn7 hP7 hD7 HR6 HFn6 HP6
         go_wp2_with fail
         refine (uh HSP).mono ?_
         rintro e w8 ⟨rfl,hbk8,hs8⟩
         have hFn8:=(uh HFn7).spend hbk8 hs8
         have hP8:=(uh HP7).stp hs8 (fun q hq hn=>(uh HP5d q hq).1.2.1 (by simpa using hn))
         have hTE : ∀ q ∈ Ea ++ [(⟨y.A,tdF y.f,av5,ov5⟩ : FE)],Td q.f:=fun q hq=>by
          rcases List.mem_append.1 hq with h | h
          ·exact (uh HJ).2.1 q h
          ·rw [List.mem_singleton] at h; subst h; exact (uh HYO).tidy
         obtain ⟨sb,hsb⟩ : ∃ sb,sb = spS' c { sa with ok:=sa.ok && decide (((L ++ Ea).map (·.f)).length ≤ bigC) }:=⟨_,rfl⟩
         have hsl : sb.lf = wrap64 (sa.lf - 1):=by rw [hsb]; rfl
         have hsf : sb.fu = (sa.fu || (decide (wrap64 (sa.lf - 1) < 0) && c.bd)):=by rw [hsb]; rfl
         rw [← hsf,← hsl] at hFn8
         have hfo8 : ((meF xf k i).drop (j + 1)).foldl (fnG c) ((L ++ (Ea ++ [(⟨y.A,tdF y.f,av5,ov5⟩ : FE)])).map (·.f),sb) = R1:=by
          have:=uh HFo
          rw [uh HGG,← hsb] at this
          rw [← List.append_assoc,List.map_append]
          exact this
         have HN:=hide (And.intro hFn8 (And.intro hTE (And.intro hP8 (And.intro (fun q hq=>And.intro (uh HD7 q hq) (uh HP5d q hq).1.2) (And.intro hfo8 (uh HJ).2.2.2.2.2)))))
         clear hbk8 hs8 hFn8 hP8 hTE hsb hsl hsf hfo8 HSP HFn7 HP7 HD7 HJ
         go_wp2_with fail
         go_roundg (G2 - 1)
         case rel=>exact ⟨j + 1,Ea ++ [⟨y.A,tdF y.f,av5,ov5⟩],sb,by omega,by go_num,HN⟩
         case measure=>omega
       ·have hd2 : decide ((j : Int) < (L2.length : Int)) = false:=by simp; omega
        have hjm : (meF xf k i).length ≤ j:=by rw [← uh HM2,List.length_map]; omega
        have hrr : ((L ++ Ea).map (·.f),sa) = R1:=by
         have:=(uh hJ).2.2.2.2.1
         rw [List.drop_eq_nil_of_le hjm] at this
         exact this
        have HN : Hid (Fn w wr B (S :: flF (.slice va L.length vc) L) S (shC c0 hv lp kv wv c.bd sa.lf lo sa.fu) X xf (.slice lb (L ++ Ea).length ld) (L ++ Ea) ∧ (∀ y ∈ Ea,Td y.f) ∧ (List.range' (k + 1) (24 - (k + 1))).foldl (fnS c xf i) ((L ++ Ea).map (·.f),sa) = R ∧ w.heap.size ≤ X):=hide ⟨(uh hJ).1,(uh hJ).2.1,by rw [hrr]; exact uh HFO,(uh hJ).2.2.2.2.2⟩
        rw [List.length_append] at HN ⊢
        clear hjm hrr hJ
        go_wp2_with fail
        go_roundg (G - 1)
        case rel=>exact ⟨k + 1,Ea,sa,by omega,by go_num,HN⟩
        case measure=>omega
   ·rw [show decide (k ∈ rcL xf) = false by simpa using hm] at d1 HFA
    have HN:=hide (uh HSK (by rw [uh HFA]; simp))
    clear hm HSK hI
    go_wp2_with fail
    go_roundg (G - 1)
    case rel=>exact ⟨k + 1,E,s',by omega,by go_num,uh HN⟩
    case measure=>omega
  ·have hd : decide ((k : Int) < (24 : Int)) = false:=by simp; omega
   have hke : R = ((L ++ E).map (·.f),s'):=by
    have:=(uh hI).2.2.1
    rw [show 24 - k = 0 by omega] at this
    exact this.symm
   have HKE:=hide hke
   clear hke
   go_wp2_with fail
   go_ret
   refine ⟨_,E,rfl,(uh hI).1.fl,(uh hI).2.1,by rw [uh HKE],?_,fun hn=>((uh hI).1.ns S hn).1 rfl,(uh hI).1.st⟩
   rw [uh HKE]
   exact (uh hI).1.bs
end
theorem fnG_len {c : Cd} {r : List CF × Sr} {g : CF} (h : (fnG c r g).2.ok = true) (hl : r.1.length ≤ bigC + 1) : (fnG c r g).1.length ≤ bigC + 1:=by
 have h2:=(fnG_mono h).2
 unfold fnG
 split
 ·rename_i hn
  have:=h2 hn
  simp only [List.length_append,List.length_cons,List.length_nil]
  omega
 ·exact hl
theorem fold_len {β : Type} (g : List CF × Sr → β → List CF × Sr) (hm : ∀ r b,(g r b).2.ok = true → r.2.ok = true) (hg : ∀ r b,(g r b).2.ok = true → r.1.length ≤ bigC + 1 → (g r b).1.length ≤ bigC + 1) : ∀ (l : List β) {r : List CF × Sr},(l.foldl g r).2.ok = true → r.1.length ≤ bigC + 1 → (l.foldl g r).1.length ≤ bigC + 1
 | [],_,_,hl=>hl
 | b :: l,r,h,hl=>fold_len g hm hg l h (hg r b (fold_mono g hm l h) hl)
theorem fndF_mono {c : Cd} {f : CF} (r : List CF × Sr) (i : Nat) (h : (fndF c f r i).2.ok = true) : r.2.ok = true:=fold_mono (fnS c f i) (fun r b h=>fnS_mono r b h) _ h
theorem fnS_len {c : Cd} {f : CF} {i : Nat} (r : List CF × Sr) (a : Nat) (h : (fnS c f i r a).2.ok = true) (hl : r.1.length ≤ bigC + 1) : (fnS c f i r a).1.length ≤ bigC + 1:=by
 unfold fnS at h ⊢
 split
 ·rename_i hn
  rw [if_pos hn] at h
  exact fold_len (fnG c) (fun r b h=>(fnG_mono h).1) (fun r b h=>fnG_len h) _ h hl
 ·exact hl
theorem fndF_len {c : Cd} {f : CF} (r : List CF × Sr) (i : Nat) (h : (fndF c f r i).2.ok = true) (hl : r.1.length ≤ bigC + 1) : (fndF c f r i).1.length ≤ bigC + 1 :=
 fold_len (fnS c f i) (fun r b h=>fnS_mono r b h) (fun r b h=>fnS_len r b h) _ h hl
theorem fgS_mono {c : Cd} {g : CF} {r : List CF × Sr} {res : List CF} (h : (fgS c g r res).2.2.ok = true) : r.2.ok = true:=by
 unfold fgS at h
 split at h
 ·exact h
 ·exact fold_mono (fndF c g) (fun r b h=>fndF_mono r b h) _ h
theorem fgN_mono {c : Cd} : ∀ (n k : Nat) (res : List CF) (r : List CF × Sr),(fgN c n k res r).2.ok = true → r.2.ok = true
 | 0,_,_,_,h=>by simp [fgN] at h
 | n + 1,k,res,r,h=>by
  unfold fgN at h
  split at h
  ·exact fgS_mono (fgN_mono n _ _ _ h)
  ·exact h
theorem Stp.wider {F F' G G' : List Nat} {a b : World} (h : Stp F a F' b) (h1 : ∀ k ∈ F,k ∈ G) (h2 : ∀ k ∈ G',k ∈ F' ∨ k ∈ G ∨ a.heap.size ≤ k) : Stp G a G' b :=
 ⟨h.os,h.tape,h.output,h.size,fun k hk hn=>h.block k hk (fun e=>hn (h1 k e)),fun k hk=>by
  rcases h2 k hk with p | p | p
  ·rcases h.foot k p with q | q
   ·exact Or.inl (h1 k q)
   ·exact Or.inr q
  ·exact Or.inl p
  ·exact Or.inr p⟩
structure Fg (w W : World) (B : Nat) (F0 : List Nat) (S : Nat) (cs : List Value) (k : Nat) (vC : Value) (LC : List FE) (vR : Value) (LR : List FE) : Prop where
 c : Fl W B vC LC
 r : Fl W B vR LR
 bs : Bk W S 119 cs
 sh : ∀ x ∈ LR,x ∈ LC.take k ∨ ∀ q ∈ x.bs,q ∉ flF vC LC
 rv : ∀ q ∈ vR.ownBlock.toList,q ∉ flF vC LC
 cv : ∀ q ∈ vC.ownBlock.toList,q ∉ flF vR LR
 sc : S ∉ flF vC LC
 sr : S ∉ flF vR LR
 st : Stp F0 w (S :: (flF vC LC ++ flF vR LR)) W
 bb : B ≤ W.heap.size
theorem flF_nd {v : Value} {L : List FE} (h : (flF v L).Nodup) : (∀ q ∈ v.ownBlock.toList,∀ x ∈ L,q ∉ x.bs) ∧ ∀ {k : Nat} (hk : k < L.length),∀ x ∈ L.take k,∀ q ∈ x.bs,q ∉ L[k].bs:=by
 unfold flF at h
 rw [List.nodup_append] at h
 refine ⟨fun q hq x hx hn=>h.2.2 q hq q (List.mem_flatMap.2 ⟨x,hx,hn⟩) rfl,fun {k} hk x hx q hq hn=>?_⟩
 have h2:=h.2.1
 rw [← List.take_append_drop k L,List.flatMap_append,List.nodup_append] at h2
 exact h2.2.2 q (List.mem_flatMap.2 ⟨x,hx,hq⟩) q (List.mem_flatMap.2 ⟨L[k],by rw [List.drop_eq_getElem_cons hk]; exact List.mem_cons_self,hn⟩) rfl
section
variable {w W W' : World} {B S k : Nat} {F0 : List Nat} {cs cs' : List Value} {vC vR : Value} {LC LR : List FE}
theorem Fg.below (h : Fg w W B F0 S cs k vC LC vR LR) (hb : Below W.heap.size W W') : Fg w W' B F0 S cs k vC LC vR LR :=
 ⟨h.c.below hb,h.r.below hb,h.bs.below hb,h.sh,h.rv,h.cv,h.sc,h.sr,h.st.trans (Stp.ofBw hb),Nat.le_trans h.bb hb.size⟩
theorem Fg.app {g1 c1 k' : Nat} {o : Obj} {x : FE} {W1 : World} (h : Fg w W B F0 S cs k vC LC vR LR) (hk : k ≤ k') (hx : Fm W x.A x.f x.av x.ov) (hB : ∀ q ∈ x.bs,B ≤ q) (hd : ∀ q ∈ x.bs,q ∉ flF vR LR ∧ q ≠ S ∧ q ∉ vC.ownBlock.toList) (hs : x ∈ LC.take k' ∨ ∀ q ∈ x.bs,q ∉ flF vC LC) (h0 : ∀ q ∈ x.bs,q ∈ flF vC LC ∨ w.heap.size ≤ q)
  (hown : W1.ownsRow B 66 1 (.slice (some ⟨g1,0,none⟩) (LR.length + 1) c1) (LR.length + 1) (LR.map FE.p ++ [x.p])) (hg : (W.alloc o).grownBy W1 vR.ownBlock) (hblk : some g1 = vR.ownBlock ∨ g1 = (W.alloc o).heap.size) :
  Fg w W1 B F0 S cs k' vC LC (.slice (some ⟨g1,0,none⟩) (LR.length + 1) c1) (LR ++ [x]):=by
 obtain ⟨a1,a2,a3⟩:=h.r.app hx hB (fun q hq=>(hd q hq).1) h.bb hown hg hblk
 have hv : ∀ q ∈ vR.ownBlock.toList,q ∈ flF vR LR:=fun q hq=>List.mem_append_left _ hq
 have hrv : ∀ q ∈ [g1],q ∉ flF vC LC:=fun q hq hn=>by
  rcases a2.foot q hq with p | p
  ·exact h.rv q p hn
  ·have:=h.c.lt q hn; omega
 refine ⟨h.c.stp a2 (fun q hq hn=>h.rv q hn hq),a1,h.bs.stp a2 (fun hn=>h.sr (hv S hn)),fun y hy=>?_,fun q hq=>hrv q (by simpa [Value.ownBlock,eq_comm] using hq),fun q hq hn=>?_,h.sc,fun hn=>?_,?_,Nat.le_trans h.bb a2.size⟩
 ·rcases List.mem_append.1 hy with p | p
  ·rcases h.sh y p with q | q
   ·exact Or.inl (List.take_subset_take_left LC hk q)
   ·exact Or.inr q
  ·rw [List.mem_singleton] at p; subst p; exact hs
 ·rcases a3 q hn with p | p | p
  ·exact h.cv q hq p
  ·exact (hd q p).2.2 hq
  ·have:=h.c.lt q (List.mem_append_left _ hq); omega
 ·rcases a3 S hn with p | p | p
  ·exact h.sr p
  ·exact (hd S p).2.1 rfl
  ·have:=h.bs.lt; omega
 ·have h2:=h.st
  refine ⟨a2.os.trans h2.os,a2.tape.trans h2.tape,a2.output.trans h2.output,Nat.le_trans h2.size a2.size,fun q hq hn=>?_,fun q hq=>?_⟩
  ·rw [a2.block q (Nat.lt_of_lt_of_le hq h2.size) (fun hm=>?_)]
   ·exact h2.block q hq hn
   ·rcases h2.foot q (List.mem_cons_of_mem _ (List.mem_append_right _ (hv q hm))) with p | p
    ·exact hn p
    ·omega
  ·rcases List.mem_cons.1 hq with rfl | hq
   ·exact h2.foot q (by simp)
   ·rcases List.mem_append.1 hq with hq | hq
    ·exact h2.foot q (List.mem_cons_of_mem _ (List.mem_append_left _ hq))
    ·rcases a3 q hq with p | p | p
     ·exact h2.foot q (List.mem_cons_of_mem _ (List.mem_append_right _ p))
     ·rcases h0 q p with p | p
      ·exact h2.foot q (List.mem_cons_of_mem _ (List.mem_append_left _ p))
      ·exact Or.inr p
     ·exact Or.inr (Nat.le_trans h2.size p)
theorem Fg.more {v' : Value} {L' : List FE} (h : Fg w W B F0 S cs k vC LC vR LR) (hk : k ≤ LC.length) (hc : Fl W' B v' (LC ++ L')) (hb : Bk W' S 119 cs') (hS : S ∉ flF v' (LC ++ L')) (hs : Stp (S :: flF vC LC) W (S :: flF v' (LC ++ L')) W') : Fg w W' B F0 S cs' k v' (LC ++ L') vR LR:=by
 have hout : ∀ q,q < W.heap.size → q ≠ S → q ∉ flF vC LC → q ∉ flF v' (LC ++ L'):=fun q hq h1 h2 hn=>by
  rcases hs.foot q (List.mem_cons_of_mem _ hn) with p | p
  ·rcases List.mem_cons.1 p with p | p
   ·exact h1 p
   ·exact h2 p
  ·omega
 have hrl : ∀ q ∈ flF vR LR,q < W.heap.size ∧ q ≠ S:=fun q hq=>⟨h.r.lt q hq,fun e=>h.sr (by rw [← e]; exact hq)⟩
 have hrv : ∀ q ∈ vR.ownBlock.toList,q ∉ flF v' (LC ++ L'):=fun q hq=>hout q (hrl q (List.mem_append_left _ hq)).1 (hrl q (List.mem_append_left _ hq)).2 (h.rv q hq)
 have hfr : ∀ x ∈ LR,(∀ q ∈ x.bs,q ∉ flF vC LC) → ∀ q ∈ x.bs,q ∉ flF v' (LC ++ L'):=fun x hx hf q hq=>by
  have hm : q ∈ flF vR LR:=List.mem_append_right _ (List.mem_flatMap.2 ⟨x,hx,hq⟩)
  exact hout q (hrl q hm).1 (hrl q hm).2 (hf q hq)
 refine ⟨hc,⟨ownsRow_of_eq h.r.row (fun q hq=>?_),fun x hx=>?_,h.r.ge,h.r.nd⟩,hb,fun x hx=>?_,hrv,fun q hq hn=>?_,hS,h.sr,?_,Nat.le_trans h.bb hs.size⟩
 ·have hq' : q ∈ vR.ownBlock.toList:=by simpa using hq
  refine hs.block q (hrl q (List.mem_append_left _ hq')).1 (fun hn=>?_)
  rcases List.mem_cons.1 hn with p | p
  ·exact (hrl q (List.mem_append_left _ hq')).2 p
  ·exact h.rv q hq' p
 ·rcases h.sh x hx with p | p
  ·exact hc.fm x (List.mem_append_left _ (List.mem_of_mem_take p))
  ·refine (h.r.fm x hx).of_eq (fun q hq=>?_)
   have hm : q ∈ flF vR LR:=List.mem_append_right _ (List.mem_flatMap.2 ⟨x,hx,hq⟩)
   refine hs.block q (hrl q hm).1 (fun hn=>?_)
   rcases List.mem_cons.1 hn with e | e
   ·exact (hrl q hm).2 e
   ·exact p q hq e
 ·rcases h.sh x hx with p | p
  ·exact Or.inl (by rw [List.take_append_of_le_length hk]; exact p)
  ·exact Or.inr (hfr x hx p)
 ·rcases List.mem_append.1 hn with p | p
  ·exact hrv q p (List.mem_append_left _ hq)
  ·obtain ⟨x,hx,p⟩:=List.mem_flatMap.1 p
   rcases h.sh x hx with r | r
   ·exact (flF_nd hc.nd).1 q hq x (List.mem_append_left _ (List.mem_of_mem_take r)) p
   ·exact hfr x hx r q p (List.mem_append_left _ hq)
 ·refine h.st.trans (hs.wider (fun q hq=>?_) (fun q hq=>?_))
  ·rcases List.mem_cons.1 hq with p | p
   ·rw [p]; simp
   ·exact List.mem_cons_of_mem _ (List.mem_append_left _ p)
  ·rcases List.mem_cons.1 hq with p | p
   ·rw [p]; simp
   ·rcases List.mem_append.1 p with p | p
    ·exact Or.inl (List.mem_cons_of_mem _ p)
    ·exact Or.inr (Or.inl (List.mem_cons_of_mem _ (List.mem_append_right _ p)))
theorem Fg.apart (h : Fg w W B F0 S cs k vC LC vR LR) (hk : k < LC.length) : ∀ q ∈ LC[k].bs,q ∉ flF vR LR ∧ q ≠ S ∧ q ∉ vC.ownBlock.toList:=by
 intro q hq
 have hm : q ∈ flF vC LC:=List.mem_append_right _ (List.mem_flatMap.2 ⟨LC[k],List.getElem_mem hk,hq⟩)
 refine ⟨fun hn=>?_,fun e=>h.sc (by rw [← e]; exact hm),fun hn=>(flF_nd h.c.nd).1 q hn _ (List.getElem_mem hk) hq⟩
 rcases List.mem_append.1 hn with p | p
 ·exact h.rv q p hm
 ·obtain ⟨x,hx,p⟩:=List.mem_flatMap.1 p
  rcases h.sh x hx with r | r
  ·exact (flF_nd h.c.nd).2 hk x r q p hq
  ·exact r q p hm
end
end Go.Proofs.YtciihepbeacppabGreat
