import Derived.Test.YtciihepbeacppaaGreatVX
namespace Go.Proofs.YtciihepbeacppaaGreat
open Go.RowKit
section
variable {T A : Nat} {w : World} {z : WS} {lab : Nat → Nat} {o : Opr}
theorem step_any (h : LwI T w A z lab) (ho : o.Ok) (hT : T < 16384) (h12 : o.k ≠ 12) (h13 : o.k ≠ 13) : Calls Tryz.prog 57 #[.pointer (some ⟨A,0,none⟩),o.v] w (RaPost T w A lab):=by
 by_cases hk : 2 ≤ o.k ∧ o.k ≤ 8
 ·exact step_own h ho hT hk
 ·by_cases h1 : o.k = 1
  ·exact step_load h hT h1
  ·by_cases h9 : o.k = 9
   ·exact step_start h ho hT h9
   ·exact step_ran h ho hT hk h1 h9 h12 h13
structure Opr.Fit (o : Opr) : Prop where
 ok : o.Ok
 n12 : o.k ≠ 12
 n13 : o.k ≠ 13
def nilZ : WS:=⟨[],[],[],[],.slice none 0 0,.slice none 0 0,.slice none 0 0,.slice none 0 0,.slice none 0 0,.slice none 0 0,0,0,0⟩
def lab0 (A : Nat) : Nat → Nat:=fun k=>if k = A then 1 else 0
def wdB : Obj:=.cells #[.slice none 0 0,.slice none 0 0,.slice none 0 0,.slice none 0 0,.slice none 0 0,.slice none 0 0,.slice none 0 0,.slice none 0 0,.int .i64 0,.int .i64 0,.int .i64 0,.int .i64 0] 112
theorem lwi_nil (w : World) : LwI 0 (w.alloc wdB) w.heap.size nilZ (lab0 w.heap.size) where
 bk:=Bk.new w _ [_,_,_,_,_,_,_,_,_,_,_,_]
 l0:=if_pos rfl
 ps:=Own.nil _ _ _ _ _
 pg:=fun p hp=>by cases hp
 rs:=Own.nil _ _ _ _ _
 rn:=fun j r hr=>by simp [nilZ] at hr
 rg:=Own.nil _ _ _ _ _
 ls:=Own.nil _ _ _ _ _
 lw:=Own.nil _ _ _ _ _
 lc:=fun j l hl=>by simp [nilZ] at hl
 sto:=Or.inl rfl
 i1:=by show I64 0; unfold I64; omega
 i2:=by show I64 0; unfold I64; omega
 i3:=by show I64 0; unfold I64; omega
 b1:=Nat.le_refl _
 b2:=Nat.le_refl _
 b3:=Nat.le_refl _
 b4:=Nat.le_refl _
structure UpI (w0 : World) (A : Nat) (T : Nat) (wx : World) (z : WS) (lab : Nat → Nat) : Prop where
 h : LwI T wx A z lab
 t : ∃ B,0 ∉ B ∧ Tr w0 wx (lab0 A) lab B
theorem UpI.blk {w0 wx : World} (h : UpI w0 A T wx z lab) {k : Nat} (hk : k < w0.heap.size) (hA : k ≠ A) : wx.heap[k]? = w0.heap[k]?:=by
 obtain ⟨B,hB,t⟩:=h.t
 exact t.eq k hk (by unfold lab0; rw [if_neg hA]; exact hB)
theorem UpI.go {w0 wx w' : World} (h : UpI w0 A T wx z lab) (hs : StI (T + 1) wx A lab w') : ∃ z' lab',UpI w0 A (T + 1) w' z' lab':=by
 obtain ⟨z',lab',hI,C,hC,t2⟩:=hs
 obtain ⟨B,hB,t⟩:=h.t
 exact ⟨z',lab',hI,B ++ C,by simp [hB,hC],t.trans t2⟩
theorem UpI.below {w0 wx w' : World} (h : UpI w0 A T wx z lab) (hb : Below wx.heap.size wx w') : UpI w0 A T w' z lab:=by
 obtain ⟨B,hB,t⟩:=h.t
 exact ⟨h.h.below hb,B ++ [],by simpa using hB,t.trans (Tr.bw hb lab)⟩
set_option maxRecDepth 100000 in
set_option maxHeartbeats 4000000 in
theorem upTo_any {v : Value} {l : List Opr} (hv : w.ownsRow 0 61 6 v l.length (opC l)) (hf : ∀ o ∈ l,o.Fit) (hn : l.length ≤ 16384) : Calls Tryz.prog 32 #[v,.int .i64 0] w fun e w'=>e = .returned (.int .i64 (-1)) ∧ Below w.heap.size w w':=by
 obtain ⟨w0,hw0⟩ : ∃ w0,w0 = w.alloc wdB:=⟨_,rfl⟩
 have hb0 : Below w.heap.size w w0:=by rw [hw0]; exact below_boxQ w _
 have hz0 : w0.heap.size = w.heap.size + 1:=by rw [hw0]; simp
 have hU0 : UpI w0 w.heap.size 0 w0 nilZ (lab0 w.heap.size):=⟨by rw [hw0]; exact lwi_nil w,[],by simp,Tr.refl _ _⟩
 obtain ⟨va,vc,hvv,hvn,hvm⟩:=own_slc hv
 have HV : Hid (w0.ownsRow 0 61 6 v l.length (opC l)):=hide (own_bw hv hb0)
 have HVL : Hid (∀ k,v.ownBlock = some k → k < w.heap.size):=hide (fun k hk=>(hv.lt k hk).2)
 rw [hvv] at HV HVL
 subst hvv
 have HU0:=hide hU0
 have HF:=hide hf
 have HB0:=hide hb0
 have HZ0:=hide hz0
 have HEND : Hid (∀ T wx z lab,UpI w0 w.heap.size T wx z lab → Below w.heap.size w wx):=hide (fun T wx z lab hU=>by
  obtain ⟨B,hB,t⟩:=hU.t
  have hs:=uh HZ0
  exact ⟨t.os.trans (uh HB0).os,t.tape.trans (uh HB0).tape,t.output.trans (uh HB0).output,Nat.le_trans (uh HB0).size t.sz,fun k hk=>(hU.blk (by omega) (by omega)).trans ((uh HB0).block k hk)⟩)
 unfold wdB at hw0
 clear hb0 hz0 hU0 hv hf
 go_enter Tryz.func32,Tryz.ntmps32
 go_wp2_with fail
 rw [← hw0]
 clear hw0
 go_loopw [6] (fun i wx=>∃ (k : Nat) (z : WS) (lab : Nat → Nat),k ≤ l.length ∧ i = .int .i64 k ∧ Hid (UpI w0 w.heap.size k wx z lab)) (fun i _=>l.length - (intOf i).toNat)
 case atStart=>exact ⟨0,_,_,Nat.zero_le _,rfl,HU0⟩
 case round =>
  clear HU0
  obtain ⟨k,z,lab,hk,rfl,hU⟩:=hrel
  by_cases hlt : k < l.length
  ·have hd : decide ((k : Int) < (l.length : Int)) = true:=by simp; omega
   obtain ⟨o,ho⟩ : ∃ o,l[k]? = some o:=⟨_,List.getElem?_eq_getElem hlt⟩
   have hfo:=uh HF o (List.mem_of_getElem? ho)
   obtain ⟨g,cap,hgv,-,-,-⟩:=own_pos (uh HV) (by omega)
   simp only [Value.slice.injEq,true_and] at hgv
   obtain ⟨rfl,rfl⟩:=hgv
   have hgl : g < w.heap.size:=uh HVL g rfl
   have hrow : wr.ownsRow 0 61 6 (.slice (some ⟨g,0,none⟩) l.length vc) l.length (opC l):=ownsRow_of_eq (uh HV) (fun m hm=>by
    simp only [Value.ownBlock,Option.some.injEq] at hm
    subst hm
    exact (uh hU).blk (by have:=uh HZ0; omega) (by omega))
   have cc : ∀ j,j < 6 → wr.cell? ⟨g,k * 6 + j,none⟩ = o.cells[j]?:=fun j hj=>(hrow.cellAt (k * 6 + j) (by omega)).trans (opC_get ho hj)
   have x0 : wr.cell? ⟨g,k * 6,none⟩ = some (.int .i64 o.k):=cc 0 (by omega)
   have x1 : wr.cell? ⟨g,k * 6 + 1,none⟩ = some (.int .i64 o.a):=cc 1 (by omega)
   have x2 : wr.cell? ⟨g,k * 6 + 2,none⟩ = some (.int .i64 o.b):=cc 2 (by omega)
   have x3 : wr.cell? ⟨g,k * 6 + 3,none⟩ = some (.int .i64 o.c):=cc 3 (by omega)
   have x4 : wr.cell? ⟨g,k * 6 + 4,none⟩ = some (.string o.s):=cc 4 (by omega)
   have x5 : wr.cell? ⟨g,k * 6 + 5,none⟩ = some (.string o.t):=cc 5 (by omega)
   have HSTP : Hid (Calls Tryz.prog 57 #[.pointer (some ⟨w.heap.size,0,none⟩),o.v] wr fun e w'=>e = .returned (.bool true) ∧ ∃ z' lab',Hid (UpI w0 w.heap.size (k + 1) w' z' lab')):=hide ((step_any (uh hU).h hfo.ok (by omega) hfo.n12 hfo.n13).mono (by
    rintro e w' ⟨rfl,hs⟩
    obtain ⟨z',lab',hU'⟩:=(uh hU).go hs
    exact ⟨rfl,z',lab',hide hU'⟩))
   unfold Opr.v at HSTP
   have i1 : (0 : Int) ≤ (k : Int):=by omega
   have i2 : (k : Int) < (l.length : Int):=by omega
   clear hrow cc hfo ho hU
   go_wp2_with fail
   refine (uh HSTP).mono ?_
   rintro e w1 ⟨rfl,z1,lab1,hU1⟩
   have HLK:=hide (looks_any (uh hU1).h (by omega))
   clear HSTP x0 x1 x2 x3 x4 x5
   go_wp2_with fail
   refine (uh HLK).mono ?_
   rintro e w2 ⟨rfl,n,rfl⟩
   have hU2:=hide ((uh hU1).below (below_drewQ w1 n))
   clear HLK
   go_wp2_with fail
   go_roundw
   case rel=>exact ⟨k + 1,z1,lab1,by omega,by go_num,hU2⟩
   case measure=>simp [intOf]; omega
  ·have hd : decide ((k : Int) < (l.length : Int)) = false:=by simp; omega
   go_wp2_with fail
   go_loopw [8] (fun i wx=>∃ (m : Nat),m ≤ z.rs.length ∧ i = .int .i64 m ∧ Hid (UpI w0 w.heap.size k wx z lab)) (fun i _=>z.rs.length - (intOf i).toNat)
   case atStart=>exact ⟨0,Nat.zero_le _,rfl,hU⟩
   case round =>
    clear hU
    obtain ⟨m,hm,rfl,hU⟩:=hrel
    obtain ⟨sa,sc,hsv,-,-⟩:=own_slc (uh hU).h.rs.row
    have hb2:=(uh hU).h.b2
    have c1 : wr.cell? ⟨w.heap.size,1,none⟩ = some (.slice sa z.rs.length sc):=by rw [← hsv]; exact (uh hU).h.bk.cell 1 rfl
    by_cases hmt : m < z.rs.length
    ·have hd2 : decide ((m : Int) < (z.rs.length : Int)) = true:=by simp; omega
     obtain ⟨r,hr⟩ : ∃ r,z.rs[m]? = some r:=⟨_,List.getElem?_eq_getElem hmt⟩
     obtain ⟨g,cap,e,hc1,hc2,-,x⟩:=own_cell (uh hU).h.rs (u:=ptrA r.E) (j:=m) (by simp [hr])
     rw [hsv] at e
     simp only [Value.slice.injEq,true_and] at e
     obtain ⟨rfl,rfl⟩:=e
     unfold ptrA at x
     have HSD:=hide (stands_any ((uh hU).h.rn m r hr).1 (by omega) true)
     have i1 : (0 : Int) ≤ (m : Int):=by omega
     have i2 : (m : Int) < (z.rs.length : Int):=by omega
     clear hsv hr
     go_wp2_with fail
     refine (uh HSD).mono ?_
     rintro e w1 ⟨rfl,hb1⟩
     have hU1:=hide ((uh hU).below hb1)
     clear HSD hb1 c1 x
     go_wp2_with fail
     go_roundw
     case rel=>exact ⟨m + 1,by omega,by go_num,hU1⟩
     case measure=>simp [intOf]; omega
    ·have hd2 : decide ((m : Int) < (z.rs.length : Int)) = false:=by simp; omega
     have HE:=hide (uh HEND _ _ _ _ (uh hU))
     clear hsv
     go_wp2_with fail
     go_ret
     exact ⟨rfl,uh HE⟩
end
section
variable {w : World} {v : Value} {l : List Opr}
structure LsO (w : World) (v : Value) (l : List Opr) : Prop where
 sl : ∃ ao cap,v = .slice ao l.length cap
 ls : l.length ≤ 40000 → 0 < l.length → Lst w v 6 l.length (opC l)
theorem LsO.below {w' : World} (h : LsO w v l) (hb : Below w.heap.size w w') : LsO w' v l:=⟨h.sl,fun h1 h2=>(h.ls h1 h2).below hb⟩
theorem Lst.get6 {w : World} {v : Value} {n : Nat} {xs : List Value} (h : Lst w v 6 n xs) (hn : 0 < n) : ∃ g off cap,v = .slice (some ⟨g,off,none⟩) n cap ∧ n ≤ cap ∧ cap ≤ maxLen ∧ ∀ j u,xs[j]? = some u → w.cell? ⟨g,off + j,none⟩ = some u:=by
 obtain ⟨h1,h2,h3⟩:=h
 rcases h3 with ⟨-,h0⟩ | h3
 ·omega
 ·exact h3
theorem LsO.get (h : LsO w v l) (h4 : l.length ≤ 40000) {k : Nat} {o : Opr} (ho : l[k]? = some o) : ∃ g off cap,v = .slice (some ⟨g,off,none⟩) l.length cap ∧ l.length ≤ cap ∧ cap ≤ 9223372036854775807 ∧ ∀ j,j < 6 → w.cell? ⟨g,off + (k * 6 + j),none⟩ = o.cells[j]?:=by
 have hk:=(List.getElem?_eq_some_iff.1 ho).1
 obtain ⟨g,off,cap,hv,h1,h2,hc⟩:=(h.ls h4 (by omega)).get6 (by omega)
 refine ⟨g,off,cap,hv,h1,by unfold maxLen at h2; omega,fun j hj=>?_⟩
 have h6:=opC_get ho hj
 have hj' : j < o.cells.length:=hj
 rw [List.getElem?_eq_getElem hj'] at h6 ⊢
 exact hc _ _ h6
set_option maxRecDepth 100000 in
set_option maxHeartbeats 4000000 in
theorem small_any (hL : LsO w v l) : Calls Tryz.prog 31 #[v] w fun e w'=>∃ b : Bool,e = .returned (.bool b) ∧ (b = true → l.length ≤ 16384) ∧ ∃ n,w' = w.drewN n:=by
 have HL:=hide hL
 obtain ⟨ao,cap,rfl⟩:=hL.sl
 clear hL
 by_cases h16 : 16384 < l.length
 ·go_enter Tryz.func31,Tryz.ntmps31
  go_wp2_with fail
  go_ret
  exact ⟨false,rfl,(fun h=>by cases h),0,rfl⟩
 ·have d16 : decide ((16384 : Int) < (l.length : Int)) = false:=by simp; omega
  go_enter Tryz.func31,Tryz.ntmps31
  go_wp2_with fail
  go_loopw [3,4] (fun nv i wx=>∃ (k n : Nat) (q : Int),k ≤ l.length ∧ nv = .int .i64 q ∧ i = .int .i64 k ∧ wx = w.drewN n) (fun _ i _=>l.length - (intOf i).toNat)
  case atStart=>exact ⟨0,0,_,Nat.zero_le _,rfl,rfl,rfl⟩
  case round =>
   obtain ⟨k,n,q,hk,rfl,rfl,rfl⟩:=hrel
   by_cases hlt : k < l.length
   ·have hd : decide ((k : Int) < (l.length : Int)) = true:=by simp; omega
    obtain ⟨o,ho⟩ : ∃ o,l[k]? = some o:=⟨_,List.getElem?_eq_getElem hlt⟩
    obtain ⟨g,off,cap',hv,hc1,hc2,hc⟩:=(uh HL).get (by omega) ho
    simp only [Value.slice.injEq,true_and] at hv
    obtain ⟨rfl,rfl⟩:=hv
    have x4 : w.cell? ⟨g,off + (k * 6 + 4),none⟩ = some (.string o.s):=hc 4 (by omega)
    have x5 : w.cell? ⟨g,off + (k * 6 + 5),none⟩ = some (.string o.t):=hc 5 (by omega)
    have y4 : w.cell? ⟨g,off + k * 6 + 4,none⟩ = some (.string o.s):=by rw [Nat.add_assoc]; exact x4
    have y5 : w.cell? ⟨g,off + k * 6 + 5,none⟩ = some (.string o.t):=by rw [Nat.add_assoc]; exact x5
    have i1 : (0 : Int) ≤ (k : Int):=by omega
    have i2 : (k : Int) < (l.length : Int):=by omega
    clear hc ho
    go_wp2_with fail
    go_quiet (fail)
    go_upto_region 8 with fail
    generalize wrap64 (wrap64 (q + (o.s.size : Int)) + (o.t.size : Int)) = q2
    generalize wrap64 (q + (o.s.size : Int)) = q3
    by_cases hq : 16384 < q2
    ·have dq : decide ((16384 : Int) < q2) = true:=by simpa using hq
     go_wp2_with fail
     go_ret
     exact ⟨false,rfl,(fun h=>by cases h),n + nq,by first | rfl | exact World.drewN_drewN _ _ _⟩
    ·have dq : decide ((16384 : Int) < q2) = false:=by simpa using hq
     go_wp2_with fail
     go_roundw
     case rel=>exact ⟨k + 1,n + nq,q2,by omega,rfl,by go_num,by first | rfl | exact World.drewN_drewN _ _ _⟩
     case measure=>simp [intOf]; omega
   ·have hd : decide ((k : Int) < (l.length : Int)) = false:=by simp; omega
    go_wp2_with fail
    go_ret
    exact ⟨true,rfl,(fun _=>by omega),n,rfl⟩
def Opr.inB (o : Opr) : Bool:=decide (o.k ≠ 12) && decide (o.k ≠ 13)
theorem Tryz.infoOp : (Tryz.prog.info? 61).map (fun i=>(i.zero,i.size,i.bytes)) = some (some (.agg #[.int .i64 0,.int .i64 0,.int .i64 0,.int .i64 0,.string ⟨#[]⟩,.string ⟨#[]⟩]),6,64):=by kernel_rfl
theorem opr_one (o : Opr) : ∀ u ∈ o.cells,u.oneCell' = true:=by
 intro u hu
 simp only [Opr.cells,List.mem_cons,List.not_mem_nil,or_false] at hu
 rcases hu with rfl | rfl | rfl | rfl | rfl | rfl <;> rfl
theorem take_filter {k : Nat} {o : Opr} (ho : l[k]? = some o) : (l.take (k + 1)).filter Opr.inB = (l.take k).filter Opr.inB ++ (if o.inB = true then [o] else []):=by
 rw [List.take_add_one,ho,List.filter_append]
 congr 1
 simp only [Option.toList]
 cases h : o.inB <;> simp [h]
set_option maxRecDepth 100000 in
set_option maxHeartbeats 4000000 in
theorem plays_any (hL : LsO w v l) (hok : ∀ o ∈ l,o.Ok) : Calls Tryz.prog 15 #[v,.int .i64 0,.slice none 0 0] w fun e w'=>e = .returned (.bool true) ∧ Below w.heap.size w w':=by
 obtain ⟨i0,hi,hz0,hz1,hz2⟩:=info_parts Tryz.infoOp
 have HS:=hide (small_any hL)
 have HL:=hide hL
 have HK:=hide hok
 obtain ⟨ao,cap,rfl⟩:=hL.sl
 clear hL hok
 go_enter Tryz.func15,Tryz.ntmps15
 go_wp2_with fail
 refine (uh HS).mono ?_
 rintro e w1 ⟨b,rfl,hb,n,rfl⟩
 clear HS
 cases b with
 | false =>
  clear hb
  go_wp2_with fail
  go_ret
  exact ⟨rfl,below_drewQ w n⟩
 | true =>
  have h16:=hb rfl
  clear hb
  go_wp2_with fail
  go_loopg [8,9] l.length (fun gn lv i wx=>∃ (k : Nat),k + gn = l.length ∧ i = .int .i64 k ∧ Hid (wx.ownsRow w.heap.size 61 6 lv ((l.take k).filter Opr.inB).length (opC ((l.take k).filter Opr.inB)) ∧ Below w.heap.size w wx))
  case atStart=>exact ⟨0,by omega,rfl,hide ⟨World.ownsRow_nil _ _ _ _,below_drewQ w n⟩⟩
  case round =>
   obtain ⟨k,hk,rfl,hI⟩:=hrel
   obtain ⟨G,hG⟩ : ∃ G,G = gk:=⟨_,rfl⟩
   obtain ⟨la,lc,hlv,-,-⟩:=own_slc (uh hI).1
   subst hlv
   by_cases hlt : k < l.length
   ·have hd : decide ((k : Int) < (l.length : Int)) = true:=by simp; omega
    obtain ⟨o,ho⟩ : ∃ o,l[k]? = some o:=⟨_,List.getElem?_eq_getElem hlt⟩
    have HTF:=hide (take_filter ho)
    have hmk : ((l.take k).filter Opr.inB).length ≤ k:=Nat.le_trans (List.length_filter_le _ _) (by rw [List.length_take]; omega)
    obtain ⟨g,off,cap',hv,hc1,hc2,hc⟩:=((uh HL).below (uh hI).2).get (by omega) ho
    simp only [Value.slice.injEq,true_and] at hv
    obtain ⟨rfl,rfl⟩:=hv
    have x0 : wr.cell? ⟨g,off + k * 6,none⟩ = some (.int .i64 o.k):=hc 0 (by omega)
    have x1 : wr.cell? ⟨g,off + k * 6 + 1,none⟩ = some (.int .i64 o.a):=by rw [Nat.add_assoc]; exact hc 1 (by omega)
    have x2 : wr.cell? ⟨g,off + k * 6 + 2,none⟩ = some (.int .i64 o.b):=by rw [Nat.add_assoc]; exact hc 2 (by omega)
    have x3 : wr.cell? ⟨g,off + k * 6 + 3,none⟩ = some (.int .i64 o.c):=by rw [Nat.add_assoc]; exact hc 3 (by omega)
    have x4 : wr.cell? ⟨g,off + k * 6 + 4,none⟩ = some (.string o.s):=by rw [Nat.add_assoc]; exact hc 4 (by omega)
    have x5 : wr.cell? ⟨g,off + k * 6 + 5,none⟩ = some (.string o.t):=by rw [Nat.add_assoc]; exact hc 5 (by omega)
    have i1 : (0 : Int) ≤ (k : Int):=by omega
    have i2 : (k : Int) < (l.length : Int):=by omega
    obtain ⟨L,hLf⟩ : ∃ L,L = (l.take k).filter Opr.inB:=⟨_,rfl⟩
    rw [← hLf] at hI HTF hmk ⊢
    clear hc ho hLf
    by_cases h12 : o.k = 12
    ·have HT : Hid ((l.take (k + 1)).filter Opr.inB = L):=hide (by rw [uh HTF]; simp [Opr.inB,h12])
     have d12 : (o.k != 12) = false:=by simpa using h12
     clear HTF h12
     go_wp2_with fail
     go_loopg [11,12] 0 (fun _ b j wx=>b = .bool false ∧ j = .int .i64 0 ∧ wx = wr)
     case atStart=>exact ⟨rfl,rfl,rfl⟩
     case round =>
      obtain ⟨rfl,rfl,rfl⟩:=hrel
      go_wp2_with fail
      go_roundg (G - 1)
      case rel=>exact ⟨k + 1,by omega,by go_num,hide (by rw [uh HT]; exact uh hI)⟩
      case measure=>omega
    ·have d12 : (o.k != 12) = true:=by simpa using h12
     by_cases h13 : o.k = 13
     ·have HT : Hid ((l.take (k + 1)).filter Opr.inB = L):=hide (by rw [uh HTF]; simp [Opr.inB,h13])
      have d13 : (o.k != 13) = false:=by simpa using h13
      clear HTF h12 h13
      go_wp2_with fail
      go_loopg [11,12] 0 (fun _ b j wx=>b = .bool false ∧ j = .int .i64 0 ∧ wx = wr)
      case atStart=>exact ⟨rfl,rfl,rfl⟩
      case round =>
       obtain ⟨rfl,rfl,rfl⟩:=hrel
       go_wp2_with fail
       go_roundg (G - 1)
       case rel=>exact ⟨k + 1,by omega,by go_num,hide (by rw [uh HT]; exact uh hI)⟩
       case measure=>omega
     ·have HT : Hid ((l.take (k + 1)).filter Opr.inB = L ++ [o]):=hide (by rw [uh HTF]; simp [Opr.inB,h12,h13])
      have d13 : (o.k != 13) = true:=by simpa using h13
      clear HTF h12 h13
      go_wp2_with fail
      go_loopg [11,12] 0 (fun _ b j wx=>b = .bool true ∧ j = .int .i64 0 ∧ wx = wr)
      case atStart=>exact ⟨rfl,rfl,rfl⟩
      case round =>
       obtain ⟨rfl,rfl,rfl⟩:=hrel
       have HROW:=hide (uh hI).1
       have hbs : w.heap.size ≤ wr.heap.size:=(uh hI).2.size
       go_wp2_with (at_builtin; refine wpList_app1 _ rfl (.tmp 50) (.tmp 55) 26 rfl w.heap.size 61 i0 _ 6 64 Tryz.underlying26 hi hz0 hz1 hz2 rfl (by decide) _ L.length (opC L) rfl ((uh HROW).alloc _) ⟨_,0,none⟩ 1 [.int .i64 o.k,.int .i64 o.a,.int .i64 o.b,.int .i64 o.c,.string o.s,.string o.t] rfl rfl (new_cells _ _ (by simp) [.int .i64 o.k,.int .i64 o.a,.int .i64 o.b,.int .i64 o.c,.string o.s,.string o.t] _) (opr_one o) (by omega) (by omega) (by simp; omega) ?_)
       intro g4 cap4 w4 hown4 hgrow4 hblk4
       have HN : Hid (w4.ownsRow w.heap.size 61 6 (.slice (some ⟨g4,0,none⟩) (L.length + 1) cap4) ((l.take (k + 1)).filter Opr.inB).length (opC ((l.take (k + 1)).filter Opr.inB)) ∧ Below w.heap.size w w4):=hide (by
        rw [uh HT,opC_app,List.length_append,List.length_singleton]
        refine ⟨by simpa [opC,Opr.cells] using hown4,?_⟩
        have hb:=(uh hI).2.alloc hbs (.cells #[.int .i64 o.k,.int .i64 o.a,.int .i64 o.b,.int .i64 o.c,.string o.s,.string o.t] 61)
        exact hb.grown hgrow4 hb.size (fun k hk=>((uh HROW).lt k hk).1))
       clear hown4 hgrow4 hblk4
       go_wp2_with fail
       go_roundg (G - 1)
       case rel=>exact ⟨k + 1,by omega,by go_num,HN⟩
       case measure=>omega
   ·have hd : decide ((k : Int) < (l.length : Int)) = false:=by simp; omega
    have hkl : l.take k = l:=List.take_of_length_le (by omega)
    rw [hkl] at hI ⊢
    have HU : Hid (Calls Tryz.prog 32 #[.slice la (l.filter Opr.inB).length lc,.int .i64 0] wr fun e w'=>e = .returned (.int .i64 (-1)) ∧ Below w.heap.size w w'):=hide ((upTo_any (own_le (uh hI).1 (Nat.zero_le _)) (fun o ho=>by
     obtain ⟨h1,h2⟩:=List.mem_filter.1 ho
     simp only [Opr.inB,Bool.and_eq_true,decide_eq_true_eq] at h2
     exact ⟨uh HK o h1,h2.1,h2.2⟩) (Nat.le_trans (List.length_filter_le _ _) h16)).mono (by
     rintro e w' ⟨rfl,hb⟩
     exact ⟨rfl,(uh hI).2.trans (hb.mono (uh hI).2.size)⟩))
    generalize l.filter Opr.inB = L at *
    clear hkl
    go_wp2_with fail
    refine (uh HU).mono ?_
    rintro e w2 ⟨rfl,hb2⟩
    have HB:=hide hb2
    clear hb2 HU
    go_wp2_with fail
    go_ret
    exact ⟨rfl,uh HB⟩
set_option maxRecDepth 100000 in
theorem machines_any (hL : LsO w v l) (hok : ∀ o ∈ l,o.Ok) : Calls Tryz.prog 4 #[v] w fun e w'=>e = .returned (.bool true) ∧ Below w.heap.size w w':=by
 have HP:=hide (plays_any hL hok)
 obtain ⟨ao,cap,rfl⟩:=hL.sl
 clear hL hok
 go_enter Tryz.func4,Tryz.ntmps4
 go_wp2_with fail
 refine (uh HP).mono ?_
 rintro e w1 ⟨rfl,hb⟩
 have HB:=hide hb
 clear hb HP
 go_wp2_with fail
 go_ret
 exact ⟨rfl,uh HB⟩
end
end Go.Proofs.YtciihepbeacppaaGreat
