import Derived.Test.YtciihepbeacppaaGreatM08
import Derived.Test.YtciihepbeacppaaGreatM05
import Derived.Deep.MidRow
import Derived.Deep.OwnRows
import Derived.Deep.LoopGhost
namespace Go.Proofs.YtciihepbeacppaaGreat
open Go.RowKit
set_option linter.unusedVariables false
theorem wk_all {y:Lay} {T V:CF} (hT:Rm T) (hA:RmA T) (hTl:T.ow.length≤1000000) (hVl:V.ow.length≤1000000):∀ m,WkC y T V m (wk V T m):=by
 intro m
 induction m with
 | zero=>intro w s k at_ count _ _ h;omega
 | succ m ih=>exact walk_step hT hVl ih (place_step hT hA hTl hVl ih)
def Sq (w:World) (q f t:Nat) (an:List (Option Nat)) (st:Int):Prop :=
 ∃ (mid:List Value) (vv ov uv pv:Value),Ob w 202 55 q (qHead f t an ++ (mid ++ [vv,ov,uv,pv,.int .i64 st]))∧mid.length = 24∧an.length = 24
theorem Ob.some {w:World} {T n A:Nat} {xs:List Value} (h:Ob w T n A xs) {j:Nat} (hj:j < n):(∃ u,w.cell? ⟨A,j,none⟩ = some u)∧w.frozen? ⟨A,j,none⟩ = false:=by
 refine ⟨?_,World.ownsRow.frozenAt h j⟩
 have hl:j < xs.length:=by have:=h.1;omega
 exact ⟨xs[j],by rw [World.ownsRow.cellAt h j (by omega)];simp [hl]⟩
theorem Ob.set {w:World} {T n A:Nat} {xs:List Value} (h:Ob w T n A xs) (j:Nat) (u:Value):Ob (w.setCell ⟨A,j,none⟩ u) T n A (xs.set j u):=(World.ownsRow.stored h j u).1
theorem Ob.alloc {w:World} {T n A:Nat} {xs:List Value} (h:Ob w T n A xs) (o:Obj):Ob (w.alloc o) T n A xs:=h.of_eq (Below.heap_alloc _ _ _ (World.ownsRow.lt h _ rfl).2)
def setL (xs:List Value):Nat→List Value→List Value
 | _,[]=>xs
 | o,v :: r=>setL (xs.set o v) (o + 1) r
theorem Ob.setCells {T n A:Nat}:∀ (vs:List Value) (o:Nat) {w:World} {xs:List Value},Ob w T n A xs→Ob (w.setCells A o vs) T n A (setL xs o vs):=by
 intro vs
 induction vs with
 | nil=>intro o w xs h;exact h
 | cons v r ih=>intro o w xs h;exact ih (o + 1) (h.set o v)
theorem setL_mid:∀ (vs a mid c:List Value),mid.length = vs.length→setL (a ++ (mid ++ c)) a.length vs = a ++ (vs ++ c):=by
 intro vs
 induction vs with
 | nil =>
  intro a mid c h
  have:mid = []:=List.eq_nil_of_length_eq_zero h
  subst this;rfl
 | cons v r ih =>
  intro a mid c h
  cases mid with
  | nil=>simp at h
  | cons m mid =>
   have h2:=ih (a ++ [v]) mid c (by simpa using h)
   simp only [setL]
   rw [List.set_append_right _ _ (Nat.le_refl _),Nat.sub_self]
   simp only [List.cons_append,List.set_cons_zero]
   have e1:a ++ v :: (mid ++ c) = (a ++ [v]) ++ (mid ++ c):=by simp
   have e2:a.length + 1 = (a ++ [v]).length:=by simp
   rw [e1,e2,h2]
   simp
theorem Stp.setCells {F F':List Nat} {a:World} {b:Nat} (hb:b∈F):∀ (vs:List Value) (o:Nat) {w:World},Stp F a F' w→Stp F a F' (w.setCells b o vs):=by
 intro vs
 induction vs with
 | nil=>intro o w h;exact h
 | cons v r ih=>intro o w h;exact ih (o + 1) (h.setCell (Or.inl hb) v)
theorem heap_setCells_ne {b k:Nat} (hk:k≠b):∀ (vs:List Value) (o:Nat) (w:World),(w.setCells b o vs).heap[k]? = w.heap[k]?:=by
 intro vs
 induction vs with
 | nil=>intro o w;rfl
 | cons v r ih=>intro o w;exact (ih (o + 1) _).trans (Below.heap_setCell _ _ _ _ hk)
theorem Tryz.info24:(Tryz.prog.info? 199).map (·.size) = some 24:=by kernel_rfl
set_option maxRecDepth 100000 in
set_option maxHeartbeats 8000000 in
theorem begin_any {w:World} {q f t:Nat} {an:List (Option Nat)} {st:Int} {F T:CF} {l:List Pr} {fav fov tav tov lv:Value} (h:Sq w q f t an st) (hF:IsF w f F fav fov) (hT:IsF w t T tav tov) (hl:w.ownsRow 0 182 3 lv l.length (prCells l)) (hll:l.length≤1000000) (hTl:T.ow.length≤1000000)
  (hq:∀ k,k∈bsF f fav fov ++ (bsF t tav tov ++ lv.ownBlock.toList)→k≠q) :
  Calls Tryz.prog 176 #[.pointer (some ⟨q,0,none⟩),lv] w fun e w'=>e = .returned (.tuple #[])∧∃ v ov pv,Sw w' ⟨q,f,t,v,an,tav,tov,fav,lv,ov,pv⟩ T (vw F l) (beg (vw F l) T an st)∧Stp [q] w (fpS q ov pv) w':=by
 obtain ⟨mid,vv,ov0,uv,pv0,hob,hmid,han⟩:=h
 have hq0:w.cell? ⟨q,0,none⟩ = some (.pointer (some ⟨f,0,none⟩)):=by rw [World.ownsRow.cellAt hob 0 (by omega)];rfl
 have hf5:=hF.c5
 have hf0:=hF.cls (i:=0) (by omega)
 have hf1:=hF.cls (i:=1) (by omega)
 have hf2:=hF.cls (i:=2) (by omega)
 have hf3:=hF.cls (i:=3) (by omega)
 have hf4:=hF.cls (i:=4) (by omega)
 unfold clV at hf0 hf1 hf2 hf3 hf4
 obtain ⟨n0,hn0⟩:∃ x,x = F.cl.getD 0 0:=⟨_,rfl⟩
 obtain ⟨n1,hn1⟩:∃ x,x = F.cl.getD 1 0:=⟨_,rfl⟩
 obtain ⟨n2,hn2⟩:∃ x,x = F.cl.getD 2 0:=⟨_,rfl⟩
 obtain ⟨n3,hn3⟩:∃ x,x = F.cl.getD 3 0:=⟨_,rfl⟩
 obtain ⟨n4,hn4⟩:∃ x,x = F.cl.getD 4 0:=⟨_,rfl⟩
 rw [← hn0] at hf0
 rw [← hn1] at hf1
 rw [← hn2] at hf2
 rw [← hn3] at hf3
 rw [← hn4] at hf4
 obtain ⟨fao,fcap,hfav⟩:=slice_of_own hF.ap
 rw [hfav] at hf5
 have HN:Hid (n0 = F.cl.getD 0 0∧n1 = F.cl.getD 1 0∧n2 = F.cl.getD 2 0∧n3 = F.cl.getD 3 0∧n4 = F.cl.getD 4 0):=hide ⟨hn0,hn1,hn2,hn3,hn4⟩
 clear hn0 hn1 hn2 hn3 hn4
 obtain ⟨lao,lcap,hlv,hlm',hln,-⟩:=pr_of_own hl
 have hlm:lcap≤9223372036854775807:=by unfold maxLen at hlm';omega
 have hobA:∀ o,Ob (w.alloc o) 202 55 q (qHead f t an ++ (mid ++ [vv,ov0,uv,pv0,.int .i64 st])):=fun o=>Ob.of_eq hob (Below.heap_alloc _ _ _ (World.ownsRow.lt hob _ rfl).2)
 have hq50:∀ o,(w.alloc o).cell? ⟨q,50,none⟩ = some vv:=fun o=>by
  rw [World.ownsRow.cellAt (hobA o) 50 (by omega)]
  rw [List.getElem?_append_right (by simp [qHead,opCells_len,han]),List.getElem?_append_right (by simp [qHead,opCells_len,han,hmid])]
  simp [qHead,opCells_len,han,hmid]
 have hfz:∀ o j,(w.alloc o).frozen? ⟨q,j,none⟩ = false:=fun o j=>World.ownsRow.frozenAt (hobA o) j
 have HF:=hide hF
 have HT:=hide hT
 have HL:=hide hl
 have HQ:=hide hq
 have HOb:=hide hob
 have HLV:=hide hlv
 have HFV:=hide hfav
 rw [hlv]
 clear hF hT hl hq hob hobA hlm' hlv hfav
 go_enter Tryz.func176,Tryz.ntmps176
 go_wp2_with fail
 go_region
 obtain ⟨X,hX⟩:∃ X,X = qHead f t an ++ (mid ++ [vv,ov0,uv,pv0,Value.int IntKind.i64 st]):=⟨_,rfl⟩
 obtain ⟨w1,hw1⟩:∃ w1,w1 = ((w.alloc (Obj.cells #[Value.int IntKind.i64 n0,Value.int IntKind.i64 n1,Value.int IntKind.i64 n2,Value.int IntKind.i64 n3,Value.int IntKind.i64 n4,Value.slice fao F.ap.length fcap,Value.slice lao l.length lcap] 179)).setCell ⟨q,50,none⟩ (Value.pointer (some ⟨w.heap.size,0,none⟩))).drew:=⟨_,rfl⟩
 rw [← hw1]
 have hqs:q < w.heap.size:=(World.ownsRow.lt (uh HOb) _ rfl).2
 have hST1:Stp [q] w [q] w1:=by rw [hw1];exact (((Stp.refl [q] w).alloc _).setCell (Or.inl (by simp)) _).drew
 have hOb1:Ob w1 202 55 q (X.set 50 (.pointer (some ⟨w.heap.size,0,none⟩))):=by
  rw [hw1]
  have h1:=Ob.of_eq (uh HOb) (w':=w.alloc (Obj.cells #[Value.int IntKind.i64 n0,Value.int IntKind.i64 n1,Value.int IntKind.i64 n2,Value.int IntKind.i64 n3,Value.int IntKind.i64 n4,Value.slice fao F.ap.length fcap,Value.slice lao l.length lcap] 179)) (Below.heap_alloc _ _ _ hqs)
  rw [← hX] at h1
  exact Ob.of_eq (World.ownsRow.stored h1 50 _).1 rfl
 have hbk1:∀ k,k < w.heap.size→k≠q→w1.heap[k]? = w.heap[k]?:=fun k hk hne=>hST1.block k hk (by simpa using hne)
 have hIsV:IsF w1 w.heap.size (vw F l) fav lv:=by
  refine ⟨?_,?_,?_⟩
  ·have h1:=World.ownsRow_lit (base:=0) (e:=179) (size:=7) w #[Value.int IntKind.i64 n0,Value.int IntKind.i64 n1,Value.int IntKind.i64 n2,Value.int IntKind.i64 n3,Value.int IntKind.i64 n4,Value.slice fao F.ap.length fcap,Value.slice lao l.length lcap] 1 (Nat.zero_le _) (by simp [maxLen]) rfl
   have h2:Ob w1 179 7 w.heap.size [Value.int IntKind.i64 n0,Value.int IntKind.i64 n1,Value.int IntKind.i64 n2,Value.int IntKind.i64 n3,Value.int IntKind.i64 n4,Value.slice fao F.ap.length fcap,Value.slice lao l.length lcap]:=by
    refine Ob.of_eq h1 ?_
    rw [hw1]
    exact Below.heap_setCell _ _ _ _ (by show w.heap.size≠q;omega)
   obtain ⟨e0,e1,e2,e3,e4⟩:=uh HN
   rw [← uh HFV,← uh HLV] at h2
   unfold foCells clV
   rw [show (vw F l).cl = F.cl from rfl,← e0,← e1,← e2,← e3,← e4]
   exact h2
  ·exact ownsRow_of_eq (uh HF).ap (fun k hk=>hbk1 k ((uh HF).ap.lt k hk).2 (uh HQ k (by simp [bsF,hk])))
  ·exact ownsRow_of_eq (uh HL) (fun k hk=>hbk1 k ((uh HL).lt k hk).2 (uh HQ k (by simp [hk])))
 have hIsT:IsF w1 t T tav tov:=(uh HT).of_eq (fun k hk=>hbk1 k ((uh HT).lt k hk) (uh HQ k (by simp [hk])))
 have HV1:=hide hIsV
 have HT1:=hide hIsT
 have HST1:=hide hST1
 obtain ⟨X1,hX1⟩:∃ X1,X1 = X.set 50 (.pointer (some ⟨w.heap.size,0,none⟩)):=⟨_,rfl⟩
 rw [← hX1] at hOb1
 have HX1:=hide hX1
 have HX:=hide hX
 have HO1:=hide hOb1
 obtain ⟨⟨u52,hu52⟩,hz52⟩:=hOb1.some (j:=52) (by omega)
 have hOb2:=hOb1.set 52 (.int .i64 (l.length:Int))
 have hmk:=run_make_row' (P:=Tryz.prog) 29 3 (.int .i64 0) 8 Tryz.underlying29 Tryz.infoInt rfl .i64 .i64 l.length (by omega) (by omega)
 obtain ⟨⟨u51,hu51⟩,hz51⟩:=(hOb2.alloc (.cells (madeCells #[.int .i64 0] l.length) 3)).some (j:=51) (by omega)
 clear hIsV hIsT hST1 hX1 hX hOb1 hOb2 hbk1 hq0 hf5 hf0 hf1 hf2 hf3 hf4 hq50 hfz
 have HW1:=hide hw1
 clear hw1
 go_wp2_with fail
 obtain ⟨O,hO⟩:∃ O,O = w1.heap.size:=⟨_,rfl⟩
 obtain ⟨w3,hw3⟩:∃ w3,w3 = ((w1.setCell ⟨q,52,none⟩ (.int .i64 (l.length:Int))).alloc (.cells (madeCells #[Value.int .i64 0] l.length) 3)).setCell ⟨q,51,none⟩ (.slice (some ⟨w1.heap.size,0,none⟩) l.length l.length):=⟨_,rfl⟩
 rw [← hw3,← hO]
 have hqO:q < O:=by rw [hO];exact Nat.lt_of_lt_of_le hqs (uh HST1).size
 have hST13:Stp [q] w1 [q] w3:=by rw [hw3];exact (((Stp.refl [q] w1).setCell (Or.inl (by simp)) _).alloc _).setCell (Or.inl (by simp)) _
 have hST3:Stp [q] w [q] w3:=(uh HST1).trans hST13
 have hOb3:Ob w3 202 55 q ((X1.set 52 (.int .i64 (l.length:Int))).set 51 (.slice (some ⟨O,0,none⟩) l.length l.length)):=by
  rw [hw3,hO];exact (((uh HO1).set 52 _).alloc _).set 51 _
 have hrow3:w3.ownsRow 0 3 1 (.slice (some ⟨O,0,none⟩) l.length l.length) l.length (List.replicate l.length (.int .i64 0)):=by
  have h1:=World.ownsRow_lit (base:=0) (e:=3) (size:=1) (w1.setCell ⟨q,52,none⟩ (.int .i64 (l.length:Int))) (madeCells #[Value.int .i64 0] l.length) l.length (Nat.zero_le _) (by simp [maxLen];omega) (by simp [madeCells])
  rw [toList_madeCells_one] at h1
  have e:(w1.setCell ⟨q,52,none⟩ (.int .i64 (l.length:Int))).heap.size = O:=by rw [hO];simp
  rw [e] at h1
  refine ownsRow_of_eq h1 (fun k hk=>?_)
  cases hk
  rw [hw3]
  exact Below.heap_setCell _ _ _ _ (by show O≠q;omega)
 have hsz3:w3.heap.size = O + 1:=by rw [hw3,hO];simp
 have hvlt:w.heap.size < O:=by
  have:=(uh HV1).lt w.heap.size (by simp [bsF])
  rw [hO];exact this
 have hIsV3:IsF w3 w.heap.size (vw F l) fav lv:=(uh HV1).of_eq (fun k hk=>hST13.block k ((uh HV1).lt k hk) (by
  simp only [List.mem_singleton]
  simp only [bsF,List.mem_cons,List.mem_append,Option.mem_toList] at hk
  rcases hk with rfl | hk | hk
  ·omega
  ·exact uh HQ k (by simp [bsF,hk])
  ·exact uh HQ k (by simp [hk])))
 have hIsT3:IsF w3 t T tav tov:=(uh HT1).of_eq (fun k hk=>hST13.block k ((uh HT1).lt k hk) (by
  simp only [List.mem_singleton]
  exact uh HQ k (by simp [hk])))
 have HV3:=hide hIsV3
 have HT3:=hide hIsT3
 have HST3:=hide hST3
 have HO3:=hide hOb3
 have HR3:=hide hrow3
 have HO:=hide hO
 clear hIsV3 hIsT3 hST3 hST13 hOb3 hrow3 hO hw3 hu52 hz52 hu51 hz51 hmk HW1 HT1 HV1 HO1 HST1
 go_loopw [4] (fun i wr=>∃ k:Nat,k≤l.length∧i = .int .i64 k∧Hid (wr.ownsRow 0 3 1 (.slice (some ⟨O,0,none⟩) l.length l.length) l.length (List.replicate k (.int .i64 (-1)) ++ List.replicate (l.length - k) (.int .i64 0)))∧Hid (Stp [O] w3 [O] wr)) (fun i _=>l.length - (intOf i).toNat)
 case atStart=>exact ⟨0,Nat.zero_le _,rfl,hide (by simpa using uh HR3),hide (Stp.refl _ _)⟩
 case round =>
  obtain ⟨k,hk,rfl,hrow,hst⟩:=hrel
  have hObr:Ob wr 202 55 q ((X1.set 52 (.int .i64 (l.length:Int))).set 51 (.slice (some ⟨O,0,none⟩) l.length l.length)):=(uh HO3).of_eq ((uh hst).block q (by omega) (by simp;omega))
  have hX1l:X1.length = 55:=by
   have h1:=(uh HO3).1
   simp only [List.length_set] at h1
   omega
  have h51:wr.cell? ⟨q,51,none⟩ = some (.slice (some ⟨O,0,none⟩) l.length l.length):=by
   rw [World.ownsRow.cellAt hObr 51 (by omega),List.getElem?_set_self (by simp;omega)]
  by_cases hlt:k < l.length
  ·have hck:wr.cell? ⟨O,k,none⟩ = some (.int .i64 0):=by
    rw [(uh hrow).cellAt k (by omega),List.getElem?_append_right (by simp),List.length_replicate,Nat.sub_self,List.getElem?_replicate,if_pos (by omega)]
   have hfk:=(uh hrow).frozenAt k
   have hnew:=((uh hrow).stored k (.int .i64 (-1))).1
   have e:(List.replicate k (Value.int .i64 (-1)) ++ List.replicate (l.length - k) (Value.int .i64 0)).set k (Value.int .i64 (-1)) = List.replicate (k + 1) (Value.int .i64 (-1)) ++ List.replicate (l.length - (k + 1)) (Value.int .i64 0):=by
    rw [List.set_append_right k _ (by simp)]
    simp only [List.length_replicate,Nat.sub_self]
    rw [show l.length - k = (l.length - (k + 1)) + 1 by omega,List.replicate_succ,List.set_cons_zero,List.replicate_succ',List.append_assoc]
    rfl
   rw [e] at hnew
   have HNew:=hide hnew
   have HSt:=hide ((uh hst).setCell (p:=⟨O,k,none⟩) (Or.inl (by simp)) (.int .i64 (-1)))
   clear hnew hObr hrow hst
   go_wp2_with fail
   go_roundw
   case rel=>exact ⟨k + 1,by omega,by go_num,HNew,HSt⟩
   case measure=>simp [intOf];omega
  ·have hd:decide ((k:Int) < (l.length:Int)) = false:=by simp;omega
   have hkl:k = l.length:=by omega
   subst hkl
   have hq1:wr.cell? ⟨q,1,none⟩ = some (.pointer (some ⟨t,0,none⟩)):=by
    rw [World.ownsRow.cellAt hObr 1 (by omega),List.getElem?_set_ne (by omega),List.getElem?_set_ne (by omega),uh HX1,List.getElem?_set_ne (by omega),uh HX]
    rfl
   have hIsTr:IsF wr t T tav tov:=(uh HT3).of_eq (fun k hk=>(uh hst).block k ((uh HT3).lt k hk) (by
    simp only [List.mem_singleton]
    rintro rfl
    have:=(uh HT).lt _ hk
    omega))
   have hT6:=hIsTr.c6
   obtain ⟨tao,tcap,htov,htm',htn,-⟩:=pr_of_own hIsTr.ow
   have htm:tcap≤9223372036854775807:=by unfold maxLen at htm';omega
   rw [htov] at hT6
   have hmk:=run_make_row' (P:=Tryz.prog) 200 4 (.bool false) 1 Tryz.underlying200 Tryz.infoBool rfl .i64 .i64 T.ow.length (by omega) (by omega)
   obtain ⟨⟨u53,hu53⟩,hz53⟩:=(hObr.alloc (.cells (madeCells #[.bool false] T.ow.length) 4)).some (j:=53) (by omega)
   have HTov:=hide htov
   have HTr:=hide hIsTr
   have hOb4:=(hObr.alloc (.cells (madeCells #[Value.bool false] T.ow.length) 4)).set 53 (Value.slice (some ⟨wr.heap.size,0,none⟩) T.ow.length T.ow.length)
   have hRange:((wr.alloc (.cells (madeCells #[Value.bool false] T.ow.length) 4)).setCell ⟨q,53,none⟩ (Value.slice (some ⟨wr.heap.size,0,none⟩) T.ow.length T.ow.length)).rangeAt q 2 (opCells an):=by
    intro j v hj
    have hj24:j < 24:=by
     have:=(List.getElem?_eq_some_iff.1 hj).1
     rw [opCells_len,han] at this;exact this
    rw [World.ownsRow.cellAt hOb4 (2 + j) (by omega),List.getElem?_set_ne (by omega),List.getElem?_set_ne (by omega),List.getElem?_set_ne (by omega),uh HX1,List.getElem?_set_ne (by omega),uh HX]
    rw [List.getElem?_append_left (by simp [qHead,opCells_len];omega)]
    unfold qHead
    rw [List.getElem?_append_right (by simp)]
    simpa [show 2 + j - 2 = j by omega] using hj
   have hThere:((wr.alloc (.cells (madeCells #[Value.bool false] T.ow.length) 4)).setCell ⟨q,53,none⟩ (Value.slice (some ⟨wr.heap.size,0,none⟩) T.ow.length T.ow.length)).there q 26 (opCells an).toArray.size:=by
    intro j hj
    have hj24:j < 24:=by simpa [opCells_len,han] using hj
    obtain ⟨⟨u,hu⟩,hz⟩:=hOb4.some (j:=26 + j) (by omega)
    exact ⟨by rw [hu];rfl,hz⟩
   have hOb5:=Ob.setCells (opCells an) 26 hOb4
   have hInf:(Tryz.prog.info? 199).map (·.size) = some (opCells an).length:=by rw [opCells_len,han];exact Tryz.info24
   have hInf2:(Tryz.prog.info? 199).map (·.size) = some (opCells an).toArray.size:=by rw [List.size_toArray,opCells_len,han];exact Tryz.info24
   have hOne:(opCells an).toArray.all (·.oneCell') = true:=all_oneCell_toArray (by
    intro v hv
    obtain ⟨o,_,rfl⟩:=List.mem_map.1 hv
    rfl)
   have HR:=hide hRange
   have HTh:=hide hThere
   have HI:=hide hInf
   have HI2:=hide hInf2
   have HOne:=hide hOne
   have HOb5:=hide hOb5
   obtain ⟨AN,hAN⟩:∃ AN,AN = opCells an:=⟨_,rfl⟩
   rw [← hAN] at HR HTh HI HI2 HOne HOb5
   have HAN:=hide hAN
   clear htov hObr hIsTr htm' hOb4 hRange hThere hInf hInf2 hOne hOb5 hAN
   go_wp2_with (first | refine wpList_load_mid rfl 199 (.tmp 66) rfl q 2 rfl AN _ (uh HR) Tryz.underlying199 rfl (uh HI) ?_ | refine wpList_store_mid rfl 199 (.tmp 69) (.tmp 67) rfl q 26 AN.toArray rfl rfl (uh HTh) (uh HI2) (uh HOne) ?_)
   go_end0
   rw [← uh HLV]
   have hql:(qHead f t an).length = 26:=by simp [qHead,opCells_len,han]
   have hL3:O < wr.heap.size:=by have:=(uh hst).size;omega
   have hobF:Ob (((wr.alloc (Obj.cells (madeCells #[Value.bool false] T.ow.length) 4)).setCell ⟨q,53,none⟩ (Value.slice (some ⟨wr.heap.size,0,none⟩) T.ow.length T.ow.length)).setCells q 26 AN) 202 55 q (qCells f t w.heap.size an (beg (vw F l) T an st) (.slice (some ⟨O,0,none⟩) l.length l.length) (.slice (some ⟨wr.heap.size,0,none⟩) T.ow.length T.ow.length)):=by
    have h5:=uh HOb5
    rw [uh HX1,uh HX] at h5
    have hset:∀ (tl:List Value) (j:Nat) (u:Value),(qHead f t an ++ (mid ++ tl)).set (50 + j) u = qHead f t an ++ (mid ++ tl.set j u):=by
     intro tl j u
     rw [List.set_append_right _ _ (by omega),hql,List.set_append_right _ _ (by omega),hmid,show 50 + j - 26 - 24 = j by omega]
    have s0:=hset [vv,ov0,uv,pv0,Value.int IntKind.i64 st] 0 (.pointer (some ⟨w.heap.size,0,none⟩))
    have s1:=hset [.pointer (some ⟨w.heap.size,0,none⟩),ov0,uv,pv0,Value.int IntKind.i64 st] 2 (.int .i64 (l.length:Int))
    have s2:=hset [.pointer (some ⟨w.heap.size,0,none⟩),ov0,.int .i64 (l.length:Int),pv0,Value.int IntKind.i64 st] 1 (.slice (some ⟨O,0,none⟩) l.length l.length)
    have s3:=hset [.pointer (some ⟨w.heap.size,0,none⟩),.slice (some ⟨O,0,none⟩) l.length l.length,.int .i64 (l.length:Int),pv0,Value.int IntKind.i64 st] 3 (Value.slice (some ⟨wr.heap.size,0,none⟩) T.ow.length T.ow.length)
    simp only [List.set_cons_zero,List.set_cons_succ,Nat.add_zero,Nat.reduceAdd] at s0 s1 s2 s3
    rw [s0,s1,s2,s3,show (26:Nat) = (qHead f t an).length from hql.symm,setL_mid AN (qHead f t an) mid _ (by rw [uh HAN,opCells_len];omega)] at h5
    rw [show 26 = (qHead f t an).length from hql.symm]
    rw [uh HAN] at h5 ⊢
    exact h5
   obtain ⟨w5,hw5⟩:∃ w5,w5 = (((wr.alloc (Obj.cells (madeCells #[Value.bool false] T.ow.length) 4)).setCell ⟨q,53,none⟩ (Value.slice (some ⟨wr.heap.size,0,none⟩) T.ow.length T.ow.length)).setCells q 26 AN):=⟨_,rfl⟩
   rw [← hw5] at hobF ⊢
   have hbk:∀ k,k < wr.heap.size→k≠q→w5.heap[k]? = wr.heap[k]?:=by
    intro k hk hne
    rw [hw5,heap_setCells_ne hne,Below.heap_setCell _ _ _ _ hne,Below.heap_alloc _ _ _ hk]
   have hbk3:∀ k,k < O→k≠q→w5.heap[k]? = w3.heap[k]?:=fun k hk hne=>(hbk k (by omega) hne).trans ((uh hst).block k (by omega) (by simp;omega))
   have hlow:∀ k,k∈bsF t tav tov→k < w.heap.size∧k≠q:=fun k hk=>⟨(uh HT).lt k hk,uh HQ k (by simp [hk])⟩
   have hlowv:∀ k,k∈bsF w.heap.size fav lv→k≤w.heap.size∧k≠q:=by
    intro k hk
    simp only [bsF,List.mem_cons,List.mem_append,Option.mem_toList] at hk
    rcases hk with rfl | hk | hk
    ·exact ⟨Nat.le_refl _,by omega⟩
    ·exact ⟨Nat.le_of_lt ((uh HF).ap.lt k hk).2,uh HQ k (by simp [bsF,hk])⟩
    ·exact ⟨Nat.le_of_lt ((uh HL).lt k hk).2,uh HQ k (by simp [hk])⟩
   refine ⟨rfl,w.heap.size,.slice (some ⟨O,0,none⟩) l.length l.length,.slice (some ⟨wr.heap.size,0,none⟩) T.ow.length T.ow.length,⟨hobF,han,han,?_,?_,?_,?_,?_,?_,?_⟩,?_⟩
   ·have h1:=uh hrow
    rw [Nat.sub_self] at h1
    simp only [List.replicate_zero,List.append_nil] at h1
    have h2:(beg (vw F l) T an st).ot = List.replicate l.length none:=rfl
    rw [h2]
    simp only [opCells,List.map_replicate,List.length_replicate]
    exact ownsRow_of_eq h1 (fun k hk=>by cases hk;exact hbk O hL3 (by omega))
   ·have h1:=World.ownsRow_lit (base:=0) (e:=4) (size:=1) wr (madeCells #[Value.bool false] T.ow.length) T.ow.length (Nat.zero_le _) (by simp [maxLen];omega) (by simp [madeCells])
    rw [toList_madeCells_one] at h1
    have h2:(beg (vw F l) T an st).pl = List.replicate T.ow.length false:=rfl
    rw [h2]
    simp only [List.map_replicate,List.length_replicate]
    refine ownsRow_of_eq h1 (fun k hk=>?_)
    cases hk
    have hne:wr.heap.size≠q:=by omega
    rw [hw5,heap_setCells_ne hne]
    exact Below.heap_setCell _ _ _ _ hne
   ·show [q,O,wr.heap.size].Nodup
    simp
    omega
   ·exact (uh HT3).of_eq (fun k hk=>hbk3 k (by have:=(hlow k hk).1;omega) (hlow k hk).2)
   ·exact (uh HV3).of_eq (fun k hk=>hbk3 k (by have:=(hlowv k hk).1;omega) (hlowv k hk).2)
   ·intro k hk
    have:=hlow k hk
    show k ∉ [q,O,wr.heap.size]
    simp
    omega
   ·intro k hk
    have:=hlowv k hk
    show k ∉ [q,O,wr.heap.size]
    simp
    omega
   ·have h1:=uh HST3
    have h2:=uh hst
    have h3:Stp [q] wr [q] w5:=by rw [hw5];exact Stp.setCells (by simp) _ _ (((Stp.refl [q] wr).alloc _).setCell (Or.inl (by simp)) _)
    refine ⟨h3.os.trans (h2.os.trans h1.os),h3.tape.trans (h2.tape.trans h1.tape),h3.output.trans (h2.output.trans h1.output),Nat.le_trans h1.size (Nat.le_trans h2.size h3.size),fun k hk hF=>?_,fun k hk=>?_⟩
    ·have hne:k≠q:=by simpa using hF
     exact (hbk3 k (by omega) hne).trans (h1.block k hk hF)
    ·have hk':k∈[q,O,wr.heap.size]:=hk
     simp at hk'
     simp
     omega
theorem beg_wf {V T:CF} {an:List (Option Nat)} {st:Int} (han:an.length = 24):Wf V T (beg V T an st)∧(uP (beg V T an st)).length + 0 = T.ow.length:=by
 have hup:uP (beg V T an st) = List.range T.ow.length:=by
  unfold uP beg
  simp only [List.length_replicate]
  rw [List.filter_eq_self]
  intro k hk
  have:=List.mem_range.1 hk
  simp [List.getD_eq_getElem?_getD,this]
 have hfr:frL (beg V T an st) = List.range V.ow.length:=by
  unfold frL beg
  simp only [List.length_replicate]
  rw [List.filter_eq_self]
  intro k hk
  have:=List.mem_range.1 hk
  simp [List.getD_eq_getElem?_getD,this]
 exact ⟨⟨by simp [beg],by simp [beg],han,by rw [hfr];simp [beg]⟩,by rw [hup];simp⟩
structure Se (w:World) (q f t:Nat) (an:List (Option Nat)) (F T:CF) (fav fov tav tov:Value) (st:Int):Prop where
 sq:Sq w q f t an st
 ff:IsF w f F fav fov
 ft:IsF w t T tav tov
 nf:∀ k∈bsF f fav fov,k≠q
 nt:∀ k∈bsF t tav tov,k≠q
set_option maxRecDepth 100000 in
set_option maxHeartbeats 4000000 in
theorem fits_any {w:World} {q f t:Nat} {an:List (Option Nat)} {st:Int} {F T:CF} {l:List Pr} {fav fov tav tov lv:Value} (h:Se w q f t an F T fav fov tav tov st) (hl:w.ownsRow 0 182 3 lv l.length (prCells l)) (hlq:∀ k,lv.ownBlock = some k→k≠q) (hll:l.length≤1000000) (hTl:T.ow.length≤1000000) (hR:Rm T) (hA:RmA T) :
  Calls Tryz.prog 153 #[.pointer (some ⟨q,0,none⟩),lv] w fun e w'=>e = .returned (.bool (fit (vw F l) T an st).1)∧∃ v ov pv,Sw w' ⟨q,f,t,v,an,tav,tov,fav,lv,ov,pv⟩ T (vw F l) (fit (vw F l) T an st).2∧Stp [q] w (fpS q ov pv) w'∧(∀ k∈fpS q ov pv,k = q∨w.heap.size≤k):=by
 have HB:=hide (begin_any h.sq h.ff h.ft hl hll hTl (fun k hk=>by
  simp only [List.mem_append,Option.mem_toList] at hk
  rcases hk with hk | hk | hk
  ·exact h.nf k hk
  ·exact h.nt k hk
  ·exact hlq k hk))
 have han:an.length = 24:=by obtain ⟨_,_,_,_,_,_,_,h2⟩:=h.sq;exact h2
 have HP:=hide (fun y=>place_step (y:=y) (T:=T) (V:=vw F l) hR hA hTl hll (m:=l.length + 1) (wk_all hR hA hTl hll _))
 obtain ⟨hwf,hup⟩:=beg_wf (V:=vw F l) (T:=T) (an:=an) (st:=st) han
 have HW:=hide hwf
 have HU:=hide hup
 clear h hl hlq hwf hup
 go_enter Tryz.func153,Tryz.ntmps153
 go_wp2_with fail
 refine (uh HB).mono ?_
 rintro e w1 ⟨rfl,v,ov,pv,hS1,hT1⟩
 have HS1:=hide hS1
 have HT1:=hide hT1
 clear hS1 hT1
 go_wp2_with fail
 refine (uh HP ⟨q,f,t,v,an,tav,tov,fav,lv,ov,pv⟩ w1 (beg (vw F l) T an st) 0 (uh HS1) (uh HW) (by show l.length < l.length + 1;omega) (uh HU)).mono ?_
 rintro e w2 ⟨rfl,hS2,hT2⟩
 have HS2:=hide hS2
 have HT2:=hide hT2
 clear hS2 hT2
 go_wp2_with fail
 go_ret
 refine ⟨rfl,v,ov,pv,uh HS2,(uh HT1).trans (uh HT2),fun k hk=>?_⟩
 rcases (uh HT1).foot k hk with h1 | h1
 ·exact Or.inl (by simpa using h1)
 ·exact Or.inr h1
theorem prCells_set0 {l:List Pr} {i:Nat} (hi:i < l.length) (k:Nat):(prCells l).set (i * 3) (.int .i64 (k:Int)) = prCells (l.set i ⟨k,(l.getD i pr0).l,(l.getD i pr0).r⟩):=by
 induction l generalizing i with
 | nil=>simp at hi
 | cons x l ih =>
  have hx:∀ y:Pr,prCells (y :: l) = [Value.int .i64 y.k,.int .i64 y.l,.int .i64 y.r] ++ prCells l:=fun y=>rfl
  cases i with
  | zero=>rw [hx,List.set_cons_zero,hx];rfl
  | succ i =>
   have h1:=ih (i:=i) (by simpa using hi)
   rw [hx,List.set_append_right _ _ (by simp;omega),List.set_cons_succ]
   show _ = [Value.int .i64 x.k,.int .i64 x.l,.int .i64 x.r] ++ prCells _
   rw [show (i + 1) * 3 - [Value.int .i64 (x.k:Int),.int .i64 (x.l:Int),.int .i64 (x.r:Int)].length = i * 3 by simp;omega,h1]
   rfl
theorem prCells_set2 {l:List Pr} {i:Nat} (hi:i < l.length) (r:Nat):(prCells l).set (i * 3 + 2) (.int .i64 (r:Int)) = prCells (l.set i ⟨(l.getD i pr0).k,(l.getD i pr0).l,r⟩):=by
 induction l generalizing i with
 | nil=>simp at hi
 | cons x l ih =>
  have hx:∀ y:Pr,prCells (y :: l) = [Value.int .i64 y.k,.int .i64 y.l,.int .i64 y.r] ++ prCells l:=fun y=>rfl
  cases i with
  | zero=>rw [hx,List.set_cons_zero,hx];rfl
  | succ i =>
   have h1:=ih (i:=i) (by simpa using hi)
   rw [hx,List.set_append_right _ _ (by simp;omega),List.set_cons_succ]
   show _ = [Value.int .i64 x.k,.int .i64 x.l,.int .i64 x.r] ++ prCells _
   rw [show (i + 1) * 3 + 2 - [Value.int .i64 (x.k:Int),.int .i64 (x.l:Int),.int .i64 (x.r:Int)].length = i * 3 + 2 by simp;omega,h1]
   rfl
theorem prCells_one (l:List Pr):∀ u∈prCells l,u.oneCell' = true:=by
 intro u hu
 simp only [prCells,List.mem_flatMap] at hu
 obtain ⟨a,_,ha⟩:=hu
 simp only [prC,List.mem_cons,List.not_mem_nil,or_false] at ha
 rcases ha with rfl | rfl | rfl <;> rfl
theorem Tryz.infoPair:(Tryz.prog.info? 182).map (fun i=>(i.zero,i.size,i.bytes)) = some (some (.agg #[.int .i64 0,.int .i64 0,.int .i64 0]),3,24):=by kernel_rfl
theorem IsF.below {w w':World} {A:Nat} {f:CF} {av ov:Value} (h:IsF w A f av ov) (hb:Below w.heap.size w w'):IsF w' A f av ov:=h.of_eq (fun k hk=>hb.block k (h.lt k hk))
theorem rowB {w w':World} {B:Nat} {e:TypeId} {sz n:Nat} {v:Value} {xs:List Value} (h:w.ownsRow B e sz v n xs) (hb:Below w.heap.size w w'):w'.ownsRow B e sz v n xs:=ownsRow_of_eq h (fun k hk=>hb.block k (h.lt k hk).2)
theorem Stp.blk {q:Nat} {w w':World} {F:List Nat} (h:Stp [q] w F w'):∀ k,k < w.heap.size→k≠q→w'.heap[k]? = w.heap[k]?:=fun k hk hne=>h.block k hk (by simpa using hne)
def drp (F T:CF):List Nat→List (Option Nat)→Option (List (Option Nat))
 | [],an=>some an
 | i :: r,an=>if an.getD (T.cl.getD i 0) none≠none∧an.getD (T.cl.getD i 0) none≠some (F.cl.getD i 0) then none else drp F T r (an.set (T.cl.getD i 0) (some (F.cl.getD i 0)))
def tm (a:Atm):Pr:=⟨a.k,tNo a.lk a.li,tNo a.rk a.ri⟩
def TmOK (al:List Atm):Prop:=∀ a∈al,(tm a).l < 13∧(tm a).r < 13
theorem getD_map {f:Nat→Nat} {c:List Nat} {i:Nat} (h:i < c.length):(c.map f).getD i 0 = f (c.getD i 0):=by simp [h]
theorem mrg_inv:∀ (al:List Atm) (c:List Nat),TmOK al→c.length = 13→(∀ i,i < 13→c.getD i 0 < 13)→(al.foldl mrg1 c).length = 13∧∀ i,i < 13→(al.foldl mrg1 c).getD i 0 < 13:=by
 intro al
 induction al with
 | nil=>intro c _ h1 h2;exact ⟨h1,h2⟩
 | cons a al ih =>
  intro c ht h1 h2
  rw [List.foldl_cons]
  have hta:=ht a (by simp)
  have ht':TmOK al:=fun b hb=>ht b (by simp [hb])
  unfold mrg1
  split
  ·refine ih _ ht' (by simpa using h1) (fun i hi=>?_)
   rw [getD_map (by omega)]
   split
   ·exact h2 _ hta.1
   ·exact h2 i hi
  ·exact ih _ ht' h1 h2
theorem range13 (i:Nat) (h:i < 13):(List.range 13).getD i 0 = i:=by simp [h]
theorem mrg_len {al:List Atm} (ht:TmOK al):(mrg al).length = 13:=(mrg_inv al _ ht (by simp) (fun i hi=>by rw [range13 i hi];exact hi)).1
theorem mrg_lt {al:List Atm} (ht:TmOK al) {i:Nat} (hi:i < 13):(mrg al).getD i 0 < 13:=(mrg_inv al _ ht (by simp) (fun i hi=>by rw [range13 i hi];exact hi)).2 i hi
theorem cl_at {al:List Atm} {i:Nat} (hi:i < 5):(cfOf al).cl.getD i 0 = (mrg al).getD i 0:=by
 simp only [cfOf,List.getD_eq_getElem?_getD]
 rw [List.getElem?_take_of_lt hi]
set_option maxRecDepth 100000 in
set_option maxHeartbeats 2000000 in
theorem number_any (k i:Nat) (hk:k≤2) (hi:i≤1000) (w:World):Calls Tryz.prog 152 #[.agg #[.int .i64 k,.int .i64 i]] w fun e w'=>e = .returned (.int .i64 (tNo k i:Nat))∧Below w.heap.size w w':=by
 have hk3:k = 0∨k = 1∨k = 2:=by omega
 have hb:=(Below.refl w.heap.size w).alloc (Nat.le_refl _) (.cells #[Value.int .i64 k,.int .i64 i] 184)
 have HB:=hide hb
 clear hb
 rcases hk3 with rfl | rfl | rfl
 ·go_enter Tryz.func152,Tryz.ntmps152
  go_wp2_with fail
  go_ret
  exact ⟨rfl,uh HB⟩
 ·go_enter Tryz.func152,Tryz.ntmps152
  go_wp2_with fail
  go_ret
  exact ⟨ret_int (by unfold tNo;rw [if_pos rfl];omega),uh HB⟩
 ·go_enter Tryz.func152,Tryz.ntmps152
  go_wp2_with fail
  go_ret
  exact ⟨ret_int (by unfold tNo;rw [if_neg (by decide),if_pos rfl];omega),uh HB⟩
theorem at_get {l:List Atm} {k:Nat} (h:k < l.length):(atCells l)[k * 5]? = some (.int .i64 l[k].k)∧(atCells l)[k * 5 + 1]? = some (.int .i64 l[k].lk)∧(atCells l)[k * 5 + 2]? = some (.int .i64 l[k].li)∧(atCells l)[k * 5 + 3]? = some (.int .i64 l[k].rk)∧(atCells l)[k * 5 + 4]? = some (.int .i64 l[k].ri):=by
 induction l generalizing k with
 | nil=>simp at h
 | cons x l ih =>
  have hx:atCells (x :: l) = [Value.int .i64 x.k,.int .i64 x.lk,.int .i64 x.li,.int .i64 x.rk,.int .i64 x.ri] ++ atCells l:=rfl
  cases k with
  | zero=>rw [hx];simp
  | succ k =>
   have:=ih (k:=k) (by simpa using h)
   rw [hx,show (k + 1) * 5 = k * 5 + 5 by omega]
   simp only [List.getElem_cons_succ]
   refine ⟨?_,?_,?_,?_,?_⟩
   ·rw [List.getElem?_append_right (by simp)];simpa using this.1
   ·rw [List.getElem?_append_right (by simp)];simpa [show k * 5 + 5 + 1 - 5 = k * 5 + 1 by omega] using this.2.1
   ·rw [List.getElem?_append_right (by simp)];simpa [show k * 5 + 5 + 2 - 5 = k * 5 + 2 by omega] using this.2.2.1
   ·rw [List.getElem?_append_right (by simp)];simpa [show k * 5 + 5 + 3 - 5 = k * 5 + 3 by omega] using this.2.2.2.1
   ·rw [List.getElem?_append_right (by simp)];simpa [show k * 5 + 5 + 4 - 5 = k * 5 + 4 by omega] using this.2.2.2.2
theorem at_of_own {w:World} {B:Nat} {v:Value} {l:List Atm} (h:w.ownsRow B 239 5 v l.length (atCells l)) :
  ∃ ao cap,v = .slice ao l.length cap∧cap≤9223372036854775807∧l.length≤cap∧(l≠[]→∃ g,ao = some ⟨g,0,none⟩∧g < w.heap.size∧∀ j,(h:j < l.length)→w.cell? ⟨g,j * 5,none⟩ = some (.int .i64 l[j].k)∧w.cell? ⟨g,j * 5 + 1,none⟩ = some (.int .i64 l[j].lk)∧w.cell? ⟨g,j * 5 + 2,none⟩ = some (.int .i64 l[j].li)∧w.cell? ⟨g,j * 5 + 3,none⟩ = some (.int .i64 l[j].rk)∧w.cell? ⟨g,j * 5 + 4,none⟩ = some (.int .i64 l[j].ri)):=by
 have hw:=h
 rcases h.2 with ⟨rfl,h0⟩ | ⟨g,cap,cur,rfl,_,_,hn,hm,_,_⟩
 ·have:l = []:=List.eq_nil_of_length_eq_zero h0
  subst this
  exact ⟨_,_,rfl,by omega,by simp,fun h=>absurd rfl h⟩
 ·refine ⟨_,_,rfl,by unfold maxLen at hm;omega,hn,fun _=>⟨g,rfl,(hw.lt g rfl).2,fun j hj=>?_⟩⟩
  have hg:=at_get hj
  exact ⟨(hw.cellAt _ (by omega)).trans hg.1,(hw.cellAt _ (by omega)).trans hg.2.1,(hw.cellAt _ (by omega)).trans hg.2.2.1,(hw.cellAt _ (by omega)).trans hg.2.2.2.1,(hw.cellAt _ (by omega)).trans hg.2.2.2.2⟩
def naC (l:List Nat):List Value:=l.map (fun n:Nat=>Value.int .i64 (n:Int))
theorem naC_len (l:List Nat):(naC l).length = l.length:=by simp [naC]
theorem naC_get {l:List Nat} {j:Nat} (h:j < l.length):(naC l)[j]? = some (.int .i64 ((l.getD j 0:Nat):Int)):=by simp [naC,h]
theorem naC_set (l:List Nat) (j n:Nat):(naC l).set j (.int .i64 (n:Int)) = naC (l.set j n):=by simp [naC,List.map_set]
def rgK (k:Nat):List Nat:=List.range k ++ List.replicate (13 - k) 0
theorem rgK_set {k:Nat} (h:k < 13):(rgK k).set k k = rgK (k + 1):=by
 unfold rgK
 rw [List.set_append_right _ _ (by simp),List.length_range,Nat.sub_self,show 13 - k = (13 - (k + 1)) + 1 by omega,List.replicate_succ,List.set_cons_zero,List.range_succ,List.append_assoc]
 rfl
def mpK (f:Nat→Nat) (c:List Nat) (j:Nat):List Nat:=(c.map f).take j ++ c.drop j
theorem mpK_len (f:Nat→Nat) (c:List Nat) (j:Nat):(mpK f c j).length = c.length:=by
 unfold mpK;rw [List.length_append,List.length_take,List.length_map,List.length_drop];omega
theorem mpK_at (f:Nat→Nat) {c:List Nat} {j:Nat} (h:j < c.length):(mpK f c j).getD j 0 = c.getD j 0:=by
 unfold mpK
 have e:((c.map f).take j).length = j:=by rw [List.length_take,List.length_map];omega
 simp only [List.getD_eq_getElem?_getD]
 rw [List.getElem?_append_right (by omega),e,Nat.sub_self,List.getElem?_drop,Nat.add_zero]
theorem mpK_set (f:Nat→Nat) {c:List Nat} {j:Nat} (h:j < c.length):(mpK f c j).set j (f (c.getD j 0)) = mpK f c (j + 1):=by
 unfold mpK
 have e:((c.map f).take j).length = j:=by rw [List.length_take,List.length_map];omega
 have hm:j < (c.map f).length:=by simpa using h
 rw [List.set_append_right _ _ (by omega),e,Nat.sub_self,List.drop_eq_getElem_cons h,List.set_cons_zero,List.take_succ_eq_append_getElem hm,List.append_assoc]
 simp [h]
theorem mpK_keep (f:Nat→Nat) {c:List Nat} {j:Nat} (h:j < c.length) (hf:f (c.getD j 0) = c.getD j 0):mpK f c (j + 1) = mpK f c j:=by
 rw [← mpK_set f h,hf,← mpK_at f h,set_getD]
theorem Tryz.info13:(Tryz.prog.info? 236).map (·.size) = some 13:=by kernel_rfl
set_option maxRecDepth 100000 in
set_option maxHeartbeats 8000000 in
theorem merge_any {w:World} {B:Nat} {av:Value} {al:List Atm} (h:w.ownsRow B 239 5 av al.length (atCells al)) (ht:TmOK al) (hal:al.length≤1000) (hb:∀ a∈al,a.lk≤2∧a.rk≤2∧a.li≤100∧a.ri≤100) :
  Calls Tryz.prog 151 #[av] w fun e w'=>e = .returned (.agg (naC (mrg al)).toArray)∧Below w.heap.size w w':=by
 obtain ⟨ao,cap,hav,hcm,hcn,hcell⟩:=at_of_own h
 have HC:=hide hcell
 rw [hav]
 clear h hcell hav
 go_enter Tryz.func151,Tryz.ntmps151
 go_wp2_with fail
 obtain ⟨w0,hw0⟩:∃ w0,w0 = ((w.alloc (Obj.cells #[Value.int IntKind.i64 0,Value.int IntKind.i64 0,Value.int IntKind.i64 0,Value.int IntKind.i64 0,Value.int IntKind.i64 0,Value.int IntKind.i64 0,Value.int IntKind.i64 0,Value.int IntKind.i64 0,Value.int IntKind.i64 0,Value.int IntKind.i64 0,Value.int IntKind.i64 0,Value.int IntKind.i64 0,Value.int IntKind.i64 0] 236)).alloc (Obj.cells #[Value.int IntKind.i64 0,Value.int IntKind.i64 0,Value.int IntKind.i64 0,Value.int IntKind.i64 0,Value.int IntKind.i64 0,Value.int IntKind.i64 0,Value.int IntKind.i64 0,Value.int IntKind.i64 0,Value.int IntKind.i64 0,Value.int IntKind.i64 0,Value.int IntKind.i64 0,Value.int IntKind.i64 0,Value.int IntKind.i64 0] 236)):=⟨_,rfl⟩
 rw [← hw0]
 have hR0:Ob w0 236 13 w.heap.size (naC (List.replicate 13 0)):=by
  rw [hw0]
  exact Ob.alloc (World.ownsRow_lit (base:=0) (e:=236) (size:=13) w #[Value.int IntKind.i64 0,Value.int IntKind.i64 0,Value.int IntKind.i64 0,Value.int IntKind.i64 0,Value.int IntKind.i64 0,Value.int IntKind.i64 0,Value.int IntKind.i64 0,Value.int IntKind.i64 0,Value.int IntKind.i64 0,Value.int IntKind.i64 0,Value.int IntKind.i64 0,Value.int IntKind.i64 0,Value.int IntKind.i64 0] 1 (Nat.zero_le _) (by simp [maxLen]) rfl) _
 have hC0:Ob w0 236 13 (w.heap.size + 1) (naC (rgK 0)):=by
  have h1:=World.ownsRow_lit (base:=0) (e:=236) (size:=13) (w.alloc (Obj.cells #[Value.int IntKind.i64 0,Value.int IntKind.i64 0,Value.int IntKind.i64 0,Value.int IntKind.i64 0,Value.int IntKind.i64 0,Value.int IntKind.i64 0,Value.int IntKind.i64 0,Value.int IntKind.i64 0,Value.int IntKind.i64 0,Value.int IntKind.i64 0,Value.int IntKind.i64 0,Value.int IntKind.i64 0,Value.int IntKind.i64 0] 236)) #[Value.int IntKind.i64 0,Value.int IntKind.i64 0,Value.int IntKind.i64 0,Value.int IntKind.i64 0,Value.int IntKind.i64 0,Value.int IntKind.i64 0,Value.int IntKind.i64 0,Value.int IntKind.i64 0,Value.int IntKind.i64 0,Value.int IntKind.i64 0,Value.int IntKind.i64 0,Value.int IntKind.i64 0,Value.int IntKind.i64 0] 1 (Nat.zero_le _) (by simp [maxLen]) rfl
  have e:(w.alloc (Obj.cells #[Value.int IntKind.i64 0,Value.int IntKind.i64 0,Value.int IntKind.i64 0,Value.int IntKind.i64 0,Value.int IntKind.i64 0,Value.int IntKind.i64 0,Value.int IntKind.i64 0,Value.int IntKind.i64 0,Value.int IntKind.i64 0,Value.int IntKind.i64 0,Value.int IntKind.i64 0,Value.int IntKind.i64 0,Value.int IntKind.i64 0] 236)).heap.size = w.heap.size + 1:=by simp
  rw [e] at h1
  rw [hw0]
  exact h1
 have hB0:Below w.heap.size w w0:=by rw [hw0];exact ((Below.refl _ _).alloc (Nat.le_refl _) _).alloc (by simp) _
 obtain ⟨R,hR⟩:∃ R,R = w.heap.size:=⟨_,rfl⟩
 obtain ⟨C,hC⟩:∃ C,C = w.heap.size + 1:=⟨_,rfl⟩
 rw [← hR] at hR0
 rw [← hC] at hC0 ⊢
 rw [← hR]
 have hRC:R≠C:=by omega
 have hRB:w.heap.size≤R:=by omega
 have hCB:w.heap.size≤C:=by omega
 clear hw0 hR hC
 go_loopw [4] (fun i wr=>∃ k:Nat,k≤13∧i = .int .i64 k∧Hid (Ob wr 236 13 C (naC (rgK k)))∧Hid (Ob wr 236 13 R (naC (List.replicate 13 0)))∧Hid (Below w.heap.size w wr)) (fun i _=>13 - (intOf i).toNat)
 case atStart=>exact ⟨0,Nat.zero_le _,rfl,hide hC0,hide hR0,hide hB0⟩
 case round =>
  obtain ⟨k,hk,rfl,hC1,hR1,hB1⟩:=hrel
  by_cases hlt:k < 13
  ·have hd:decide ((k:Int) < 13) = true:=by simp;omega
   obtain ⟨⟨u,hu⟩,hz⟩:=(uh hC1).some (j:=k) hlt
   have hC2:=(uh hC1).set k (.int .i64 (k:Int))
   rw [naC_set,rgK_set hlt] at hC2
   have HC2:=hide hC2
   have HR2:=hide ((uh hR1).of_eq (w':=wr.setCell ⟨C,k,none⟩ (.int .i64 (k:Int))) (Below.heap_setCell _ _ _ _ hRC))
   have HB2:=hide ((uh hB1).setCell (p:=⟨C,k,none⟩) hCB (.int .i64 (k:Int)))
   clear hC2
   go_wp2_with fail
   go_roundw
   case rel=>exact ⟨k + 1,by omega,by go_num,HC2,HR2,HB2⟩
   case measure=>simp [intOf];omega
  ·have hd:decide ((k:Int) < 13) = false:=by simp;omega
   have hk13:k = 13:=by omega
   subst hk13
   clear hC0 hR0 hB0
   go_wp2_with fail
   go_loopg [19] al.length (fun gn i wr=>∃ k:Nat,k + gn = al.length∧i = .int .i64 k∧Hid (Ob wr 236 13 C (naC ((al.take k).foldl mrg1 (List.range 13))))∧Hid (Ob wr 236 13 R (naC (List.replicate 13 0)))∧Hid (Below w.heap.size w wr))
   case atStart=>exact ⟨0,by omega,rfl,hC1,hR1,hB1⟩
   case round =>
    obtain ⟨k,hk,rfl,hC1,hR1,hB1⟩:=hrel
    by_cases hlt:k < al.length
    ·have hd2:decide ((k:Int) < (al.length:Int)) = true:=by simp;omega
     obtain ⟨g,hao,hgl,hcell⟩:=uh HC (by intro h;rw [h] at hlt;simp at hlt)
     subst hao
     obtain ⟨x0,x1,x2,x3,x4⟩:=hcell k hlt
     obtain ⟨a,ha⟩:∃ a,a = al[k]:=⟨_,rfl⟩
     have hta:=ht _ (List.getElem_mem hlt)
     have hba:=hb _ (List.getElem_mem hlt)
     rw [← ha] at x0 x1 x2 x3 x4 hta hba
     have c0:=((uh hB1).cell (World.block_lt_of_cell? w _ x0)).trans x0
     have c1:=((uh hB1).cell (World.block_lt_of_cell? w _ x1)).trans x1
     have c2:=((uh hB1).cell (World.block_lt_of_cell? w _ x2)).trans x2
     have c3:=((uh hB1).cell (World.block_lt_of_cell? w _ x3)).trans x3
     have c4:=((uh hB1).cell (World.block_lt_of_cell? w _ x4)).trans x4
     clear hcell x0 x1 x2 x3 x4
     obtain ⟨c,hc⟩:∃ c,c = (al.take k).foldl mrg1 (List.range 13):=⟨_,rfl⟩
     rw [← hc] at hC1
     have hcl:c.length = 13:=by
      rw [hc]
      exact (mrg_inv (al.take k) _ (fun b hb=>ht b (List.mem_of_mem_take hb)) (by simp) (fun i hi=>by rw [range13 i hi];exact hi)).1
     have hstep:(al.take (k + 1)).foldl mrg1 (List.range 13) = mrg1 c a:=by
      rw [List.take_succ_eq_append_getElem hlt,List.foldl_append,← hc,ha];rfl
     have HST:=hide hstep
     have HCc:=hide hc
     have HA:=hide ha
     -- behind the copy of the atom
     have hB2:=(uh hB1).alloc (uh hB1).size (.cells #[Value.int .i64 a.k,.int .i64 a.lk,.int .i64 a.li,.int .i64 a.rk,.int .i64 a.ri] 239)
     have hC2:=(uh hC1).alloc (.cells #[Value.int .i64 a.k,.int .i64 a.lk,.int .i64 a.li,.int .i64 a.rk,.int .i64 a.ri] 239)
     have hR2:=(uh hR1).alloc (.cells #[Value.int .i64 a.k,.int .i64 a.lk,.int .i64 a.li,.int .i64 a.rk,.int .i64 a.ri] 239)
     have hnew:=fun j=>cell_of_row (wr.alloc (.cells #[Value.int .i64 a.k,.int .i64 a.lk,.int .i64 a.li,.int .i64 a.rk,.int .i64 a.ri] 239)) wr.heap.size j #[Value.int .i64 a.k,.int .i64 a.lk,.int .i64 a.li,.int .i64 a.rk,.int .i64 a.ri] 239 (0,0) (heap_alloc_new wr _)
     have n0:=hnew 0
     have n1:=hnew 1
     have n2:=hnew 2
     have n3:=hnew 3
     have n4:=hnew 4
     simp only [List.getElem?_toArray,List.getElem?_cons_zero,List.getElem?_cons_succ] at n0 n1 n2 n3 n4
     have HB2:=hide hB2
     have HC2:=hide hC2
     have HR2:=hide hR2
     clear hB2 hC2 hR2 hnew hstep hc ha hC1 hR1 hB1
     by_cases hk1:a.k = 1
     ·have hne:((a.k:Int) != 1) = false:=by simp;omega
      have HN1:=hide (number_any a.lk a.li hba.1 (by omega) (wr.alloc (.cells #[Value.int .i64 a.k,.int .i64 a.lk,.int .i64 a.li,.int .i64 a.rk,.int .i64 a.ri] 239)))
      have HK1:=hide hk1
      clear hk1
      go_wp2_with fail
      refine (uh HN1).mono ?_
      rintro e w1 ⟨rfl,hb1⟩
      have hlt1:tNo a.lk a.li < 13:=hta.1
      have hlt2:tNo a.rk a.ri < 13:=hta.2
      obtain ⟨t1,ht1⟩:∃ t1,t1 = tNo a.lk a.li:=⟨_,rfl⟩
      obtain ⟨t2,ht2⟩:∃ t2,t2 = tNo a.rk a.ri:=⟨_,rfl⟩
      rw [← ht1] at hlt1 ⊢
      rw [← ht2] at hlt2
      have hC3:=(uh HC2).of_eq (hb1.block C (World.ownsRow.lt (uh HC2) _ rfl).2)
      have hR3:=(uh HR2).of_eq (hb1.block R (World.ownsRow.lt (uh HR2) _ rfl).2)
      have hB3:Below w.heap.size w w1:=(uh HB2).trans (hb1.mono (uh HB2).size)
      have d1:=(World.ownsRow.cellAt hC3 t1 (by omega)).trans (naC_get (l:=c) (by omega))
      have m3:=(hb1.cell (World.block_lt_of_cell? _ _ n3)).trans n3
      have m4:=(hb1.cell (World.block_lt_of_cell? _ _ n4)).trans n4
      obtain ⟨kept,hkept⟩:∃ kept,kept = c.getD t1 0:=⟨_,rfl⟩
      rw [← hkept] at d1
      have HN2:=hide (number_any a.rk a.ri hba.2.1 (by omega) w1)
      have HC3:=hide hC3
      have HR3:=hide hR3
      have HB3:=hide hB3
      have HT1:=hide ht1
      have HT2:=hide ht2
      have HKe:=hide hkept
      clear hC3 hR3 hB3 hb1 ht1 hkept n0 n1 n2 n3 n4
      go_wp2_with fail
      refine (uh HN2).mono ?_
      rintro e w2 ⟨rfl,hb2⟩
      rw [← ht2]
      have hC4:=(uh HC3).of_eq (hb2.block C (World.ownsRow.lt (uh HC3) _ rfl).2)
      have hR4:=(uh HR3).of_eq (hb2.block R (World.ownsRow.lt (uh HR3) _ rfl).2)
      have hB4:Below w.heap.size w w2:=(uh HB3).trans (hb2.mono (uh HB3).size)
      have d2:=(World.ownsRow.cellAt hC4 t2 (by omega)).trans (naC_get (l:=c) (by omega))
      obtain ⟨gone,hgone⟩:∃ gone,gone = c.getD t2 0:=⟨_,rfl⟩
      rw [← hgone] at d2
      have HC4:=hide hC4
      have HR4:=hide hR4
      have HB4:=hide hB4
      have HGo:=hide hgone
      have HMr:Hid (mrg1 c a = c.map (fun x=>if x = gone then kept else x)):=hide (by
       unfold mrg1
       rw [if_pos (uh HK1),← uh HT1,← ht2,← hgone,← uh HKe])
      clear hC4 hR4 hB4 hb2 hgone ht2 d1
      go_wp2_with fail
      go_loopw [9] (fun i wr=>∃ j:Nat,j≤13∧i = .int .i64 j∧Hid (Ob wr 236 13 C (naC (mpK (fun x=>if x = gone then kept else x) c j)))∧Hid (Ob wr 236 13 R (naC (List.replicate 13 0)))∧Hid (Below w.heap.size w wr)) (fun i _=>13 - (intOf i).toNat)
      case atStart=>exact ⟨0,Nat.zero_le _,rfl,HC4,HR4,HB4⟩
      case round =>
       obtain ⟨j,hj,rfl,hC5,hR5,hB5⟩:=hrel
       by_cases hjl:j < 13
       ·have hd3:decide ((j:Int) < 13) = true:=by simp;omega
        have hjc:j < c.length:=by omega
        have hcj:=(World.ownsRow.cellAt (uh hC5) j (by omega)).trans (naC_get (by rw [mpK_len];omega))
        rw [mpK_at _ hjc] at hcj
        have hzj:=World.ownsRow.frozenAt (uh hC5) j
        obtain ⟨x,hx⟩:∃ x,x = c.getD j 0:=⟨_,rfl⟩
        rw [← hx] at hcj
        have HNx:=hide (mpK_set (fun x=>if x = gone then kept else x) hjc)
        have HKp:=hide (mpK_keep (fun x=>if x = gone then kept else x) hjc)
        rw [← hx] at HNx HKp
        by_cases hxg:x = gone
        ·have he:((x:Int) == (gone:Int)) = true:=by rw [nat_beq];simpa using hxg
         have hC6:=(uh hC5).set j (.int .i64 (kept:Int))
         have hnx:=uh HNx
         rw [if_pos hxg] at hnx
         rw [naC_set,hnx] at hC6
         clear hnx
         have HC6:=hide hC6
         have HR6:=hide ((uh hR5).of_eq (w':=wr.setCell ⟨C,j,none⟩ (.int .i64 (kept:Int))) (Below.heap_setCell _ _ _ _ hRC))
         have HB6:=hide ((uh hB5).setCell (p:=⟨C,j,none⟩) hCB (.int .i64 (kept:Int)))
         clear hC6 hxg hx
         go_wp2_with fail
         go_roundw
         case rel=>exact ⟨j + 1,by omega,by go_num,HC6,HR6,HB6⟩
         case measure=>simp [intOf];omega
        ·have he:((x:Int) == (gone:Int)) = false:=by rw [nat_beq];simpa using hxg
         have hself:=uh HKp (if_neg hxg)
         have HC6:=hC5
         rw [← hself] at HC6
         clear hself hxg hx
         go_wp2_with fail
         go_roundw
         case rel=>exact ⟨j + 1,by omega,by go_num,HC6,hR5,hB5⟩
         case measure=>simp [intOf];omega
       ·have hd3:decide ((j:Int) < 13) = false:=by simp;omega
        have hj13:j = 13:=by omega
        subst hj13
        have hfin:mpK (fun x=>if x = gone then kept else x) c 13 = mrg1 c a:=by
         unfold mpK
         rw [uh HMr,List.drop_of_length_le (by omega),List.append_nil,List.take_of_length_le (by simp;omega)]
        rw [hfin] at hC5
        clear hfin
        go_wp2_with fail
        go_roundg (gk - 1)
        case rel=>exact ⟨k + 1,by omega,by go_num,hide (by rw [uh HST];exact uh hC5),hR5,hB5⟩
        case measure=>omega
     ·have hne:((a.k:Int) != 1) = true:=by rw [bne_iff_ne];omega
      have HMr:Hid (mrg1 c a = c):=hide (by unfold mrg1;rw [if_neg hk1])
      clear hk1
      go_wp2_with fail
      go_roundg (gk - 1)
      case rel=>exact ⟨k + 1,by omega,by go_num,hide (by rw [uh HST,uh HMr];exact uh HC2),HR2,HB2⟩
      case measure=>omega
    ·have hd2:decide ((k:Int) < (al.length:Int)) = false:=by simp;omega
     have hkl:k = al.length:=by omega
     subst hkl
     rw [List.take_length] at hC1
     have hml:(mrg al).length = 13:=mrg_len ht
     have hC1':Ob wr 236 13 C (naC (mrg al)):=uh hC1
     have hRg:wr.rangeAt C 0 (naC (mrg al)):=by
      intro j v hj
      have hjl:=(List.getElem?_eq_some_iff.1 hj).1
      rw [naC_len,hml] at hjl
      rw [Nat.zero_add,World.ownsRow.cellAt hC1' j (by omega)];exact hj
     have hTh:wr.there R 0 (naC (mrg al)).toArray.size:=by
      intro j hj
      rw [List.size_toArray,naC_len,hml] at hj
      obtain ⟨⟨u,hu⟩,hz⟩:=(uh hR1).some (j:=j) hj
      rw [Nat.zero_add]
      exact ⟨by rw [hu];rfl,hz⟩
     have hI1:(Tryz.prog.info? 236).map (·.size) = some (naC (mrg al)).length:=by rw [naC_len,hml];exact Tryz.info13
     have hI2:(Tryz.prog.info? 236).map (·.size) = some (naC (mrg al)).toArray.size:=by rw [List.size_toArray,naC_len,hml];exact Tryz.info13
     have hO:(naC (mrg al)).toArray.all (·.oneCell') = true:=all_oneCell_toArray (by
      intro v hv
      obtain ⟨o,_,rfl⟩:=List.mem_map.1 hv
      rfl)
     have hOb5:=Ob.setCells (naC (mrg al)) 0 (uh hR1)
     have hsl:=setL_mid (naC (mrg al)) [] (naC (List.replicate 13 0)) [] (by rw [naC_len,naC_len,hml];rfl)
     simp only [List.nil_append,List.append_nil,List.length_nil] at hsl
     rw [hsl] at hOb5
     have hB5:∀ (vs:List Value) (o:Nat) (x:World),Below w.heap.size w x→Below w.heap.size w (x.setCells R o vs):=by
      intro vs
      induction vs with
      | nil=>intro o x h;exact h
      | cons v r ih=>intro o x h;exact ih (o + 1) _ (h.setCell hRB v)
     have HB5:=hide (hB5 (naC (mrg al)) 0 wr (uh hB1))
     obtain ⟨M,hM⟩:∃ M,M = naC (mrg al):=⟨_,rfl⟩
     rw [← hM] at hRg hTh hI1 hI2 hO hOb5 HB5
     have HM:=hide hM
     have HRg:=hide hRg
     have HTh:=hide hTh
     have HI1:=hide hI1
     have HI2:=hide hI2
     have HO:=hide hO
     have HOb5:=hide hOb5
     clear hRg hTh hI1 hI2 hO hOb5 hsl hB5 hM hC1' hC1 hR1 hB1
     go_wp2_with (first | refine wpList_load_mid rfl 236 (.tmp 3) rfl C 0 rfl M _ (uh HRg) Tryz.underlying236 rfl (uh HI1) ?_ | refine wpList_store_mid rfl 236 (.tmp 2) (.tmp 49) rfl R 0 M.toArray rfl rfl (uh HTh) (uh HI2) (uh HO) ?_)
     have hrg2:(wr.setCells R 0 M).rangeAt R 0 M:=by
      intro j v hj
      have hjl:=(List.getElem?_eq_some_iff.1 hj).1
      rw [uh HM,naC_len,hml] at hjl
      rw [Nat.zero_add,World.ownsRow.cellAt (uh HOb5) j (by omega)];exact hj
     have hld:=run_loadVar_mid (P:=Tryz.prog) (wr.setCells R 0 M) R 0 236 M _ hrg2 Tryz.underlying236 rfl (uh HI1)
     refine bodyPost_ret (v:=.agg M.toArray) ?_ rfl ⟨by rw [uh HM],uh HB5⟩
     simp [results,Tryz.results151,Act.put,asAddr,hld]
end Go.Proofs.YtciihepbeacppaaGreat
