import Derived.Test.YtciihepbeacppaaGreatVV
namespace Go.Proofs.YtciihepbeacppaaGreat
open Go.RowKit
section
variable {T A : Nat} {w : World} {z : WS} {lab : Nat → Nat} {o : Opr}
theorem LwI.lst (h : LwI T w A z lab) (hT : T ≤ 16384) {u : Value} (hu : WinOf z u) : ∃ l : List Int,Lst w u 1 l.length (ints l):=by
 rcases hu with rfl | ⟨j,l,off,n,hl,hw⟩
 ·exact ⟨[],rfl,Nat.zero_le _,Or.inl ⟨rfl,rfl⟩⟩
 ·have hL:=h.lc j l hl
  have hle:=hL.le
  obtain ⟨c,-,hc⟩:=hw.lst hL.v.row (by omega)
  exact ⟨c,hc⟩
def SdV (w1 : World) (p : PG) (v : Value) (w' : World) : Prop :=
 Below w1.heap.size w1 w' ∧ (v = .pointer none ∨ ∃ r : RG,v = .pointer (some ⟨r.E,0,none⟩) ∧ r.p = p ∧ Rn 0 w' r ∧ w1.heap.size ≤ r.E ∧ w1.heap.size ≤ r.Y ∧ (∀ k ∈ r.fp,w1.heap.size ≤ k) ∧ ∀ k ∈ r.im,k ∉ r.fp)
def lbR (w : World) (lab : Nat → Nat) (fp : List Nat) (J : Nat) : Nat → Nat:=fun k=>if k < w.heap.size then lab k else if k ∈ fp then 9 + 3 * J else 0
theorem Tr.lbR {w' : World} (hb : Below w.heap.size w w') (lab : Nat → Nat) (fp : List Nat) (J : Nat) : Tr w w' lab (lbR w lab fp J) []:=⟨hb.os,hb.tape,hb.output,hb.size,fun _ hk=>if_pos hk,fun k hk _=>hb.block k hk⟩
set_option maxRecDepth 100000 in
set_option maxHeartbeats 4000000 in
theorem step_start (h : LwI T w A z lab) (ho : o.Ok) (hT : T < 16384) (hk : o.k = 9) : Calls Tryz.prog 57 #[.pointer (some ⟨A,0,none⟩),o.v] w (RaPost T w A lab):=by
 obtain ⟨i0,hi,hz0,hz1,hz2⟩:=info_parts Tryz.infoPr
 obtain ⟨w0,hw0⟩ : ∃ w0,w0 = w.alloc (opB o):=⟨_,rfl⟩
 have hb0 : Below w.heap.size w w0:=by rw [hw0]; exact below_boxQ w _
 have hbk : Bk w0 w.heap.size 61 [.int .i64 o.k,.int .i64 o.a,.int .i64 o.b,.int .i64 o.c,.string o.s,.string o.t]:=by rw [hw0]; exact Bk.new w _ [_,_,_,_,_,_]
 have HL:=hide (ls_other (A:=A) (w:=w0) (o:=o) (by omega))
 have h0:=h.below hb0
 have h1':=h.b1
 have h2':=h.b2
 have q0:=hbk.cell 0 rfl
 have q1:=hbk.cell 1 rfl
 have q2:=hbk.cell 2 rfl
 have q3:=hbk.cell 3 rfl
 have q4:=hbk.cell 4 rfl
 have q5:=hbk.cell 5 rfl
 have HBK:=hide hbk
 have H0:=hide h0
 have HB0:=hide hb0
 rw [hk] at q0 HBK
 unfold Opr.v at HL ⊢
 unfold opB at hw0
 rw [hk] at HL hw0 ⊢
 clear h hb0 hbk h0 hk
 go_enter Tryz.func57,Tryz.ntmps57
 go_upto_region 1 with fail
 rw [← hw0]
 clear hw0
 go_wp2_with fail
 refine (uh HL).mono ?_
 rintro e w1 ⟨rfl,hb1⟩
 have hbk1:=(uh HBK).below hb1
 have p0:=hbk1.cell 0 rfl
 have p1:=hbk1.cell 1 rfl
 have HBK1:=hide hbk1
 have h1:=(uh H0).below hb1
 have H1:=hide h1
 have HT1:=hide ((Tr.bw (uh HB0) lab).trans (Tr.bw hb1 lab))
 clear hb1 HL q0 q1 q2 q3 q4 q5 HBK H0 hbk1
 by_cases hN0 : z.ps.length = 0
 ·obtain ⟨sa,sc,hs,-,-⟩:=own_slc h1.ps.row
  rw [hN0] at hs
  have c0 : w1.cell? ⟨A,0,none⟩ = some (.slice sa 0 sc):=by rw [← hs]; exact h1.bk.cell 0 rfl
  have HF : Hid (RaPost T w A lab (.returned (.bool true)) w1):=hide ⟨rfl,StI.of (h1.up (Nat.le_succ T)) (uh HT1) (by simp)⟩
  clear h1 hs hN0
  go_wp2_with fail
  go_ret
  exact uh HF
 ·obtain ⟨N,hN⟩ : ∃ N,N = z.ps.length:=⟨_,rfl⟩
  obtain ⟨j,hj⟩ : ∃ j,j = pkI o.a N:=⟨_,rfl⟩
  have hjN : j < N:=by rw [hj]; exact pkI_lt (by omega)
  obtain ⟨q,hq⟩ : ∃ q,z.ps[j]? = some q:=⟨_,List.getElem?_eq_getElem (by omega)⟩
  obtain ⟨g,cap,e,hc1,hc2,-,x⟩:=own_cell h1.ps (u:=ptrA q.A) (j:=j) (by simp [hq])
  rw [← hN] at e hc1
  have c0 : w1.cell? ⟨A,0,none⟩ = some (.slice (some ⟨g,0,none⟩) N cap):=by rw [← e]; exact h1.bk.cell 0 rfl
  unfold ptrA at x
  have HPK : Hid (∀ n,Calls Tryz.prog 83 #[.int .i64 o.a,.int .i64 N] (w1.drewN n) fun e w''=>e = .returned (.int .i64 (j : Nat)) ∧ ∃ m,w'' = w1.drewN m):=hide (fun n=>by rw [hj]; exact pick_quiet (by omega) (by omega) ho.a)
  have d0 : ((N : Int) == 0) = false:=by simp; omega
  have hjl : (j : Int) < (N : Int):=by omega
  have hj0 : (0 : Int) ≤ (j : Int):=by omega
  have HP:=hide (h1.pg q (List.mem_of_getElem? hq))
  have HW : Hid (∀ n,Calls Tryz.prog 81 #[.pointer (some ⟨A,0,none⟩),.int .i64 o.b] (w1.drewN n) fun e w'=>∃ u,e = .returned u ∧ WinOf z u ∧ Below w1.heap.size w1 w'):=hide (fun n=>(window_any (h1.below (below_drewQ w1 n)) (by omega) o.b ho.b).mono (by
   rintro e w' ⟨u,rfl,hu,m,rfl⟩
   exact ⟨u,rfl,hu,(below_drewQ w1 n).trans ((below_drewQ (w1.drewN n) m).mono (Nat.le_refl _))⟩))
  have p2:=(uh HBK1).cell 2 rfl
  clear h1 hN0 hN hj hq e ho
  go_upto_region 17 with fail
  go_quiet ((go_at_call 83; exact uh HPK _))
  have HWn:=hide (uh HW nq)
  go_wp2_with fail
  refine (uh HWn).mono ?_
  rintro e w2 ⟨u,rfl,hu,hb2⟩
  have hI2:=(uh H1).below hb2
  obtain ⟨ls,hls⟩:=hI2.lst (by omega) hu
  obtain ⟨st,hst⟩:=hI2.lst (u:=z.stV) (by omega) hI2.sto
  obtain ⟨lo,lc,hlv,-,-,-⟩:=hls.sl
  obtain ⟨so,sc,hsv,-,-,-⟩:=hst.sl
  have c7 : w2.cell? ⟨A,7,none⟩ = some (.slice so st.length sc):=by rw [← hsv]; exact hI2.bk.cell 7 rfl
  rw [hlv] at hls ⊢
  rw [hsv] at hst
  have hbk2:=(uh HBK1).below hb2
  have r3:=hbk2.cell 3 rfl
  have hp2:=(uh HP).1.below hb2
  have HSD : Hid (∀ w',Below w2.heap.size w2 w' → ∀ ask,Calls Tryz.prog 85 #[.pointer (some ⟨q.A,0,none⟩),.slice so st.length sc,.slice lo ls.length lc,.bool ask] w' fun e w''=>∃ v,e = .returned (.tuple #[v,.bool true]) ∧ Hid (SdV w2 q v w'')):=hide (fun w' hb ask=>(started_any (hp2.below hb) (hst.below hb) (hls.below hb) ask).mono (by
   rintro e w'' ⟨hb3,(rfl | ⟨r,rfl,h1,h2,h3,h4,h5,h6⟩)⟩
   ·exact ⟨_,rfl,hide ⟨hb.trans (hb3.mono hb.size),Or.inl rfl⟩⟩
   ·exact ⟨_,rfl,hide ⟨hb.trans (hb3.mono hb.size),Or.inr ⟨r,rfl,h1,h2,Nat.le_trans hb.size h3,Nat.le_trans hb.size h4,fun k hk=>Nat.le_trans hb.size (h5 k hk),h6⟩⟩⟩))
  have H2:=hide hI2
  have HP2 : Hid (Pg w2 q ∧ ∀ k ∈ q.im,lab k = 0):=hide ⟨hp2,(uh HP).2⟩
  have HT2:=hide ((uh HT1).trans (Tr.bw hb2 lab))
  clear hu hb2 hI2 hls hst hlv hsv hbk2 hp2 HW HWn HPK HBK1 HP H1 HT1 c0 x p0 p1 p2
  go_upto_region 21 with fail
  go_cut [11,12] (fun v k wx=>k = .bool true ∧ Hid (SdV w2 q v wx))
  case first =>
   go_region_with (go_at_call 85; refine (uh HSD _ (Below.refl _ _).drew _).mono ?_; rintro e w3 ⟨pv,rfl,hP⟩)
   all_goals
    go_wp2_with fail
    go_meet
    exact ⟨rfl,hP⟩
  case rest =>
   obtain ⟨rfl,hP⟩:=hcut
   obtain ⟨hbc,hcase⟩:=uh hP
   have hI:=(uh H2).below hbc
   clear hP HSD c7 r3
   rcases hcase with rfl | ⟨r,rfl,rp,rn,rE,rY,rf,rd⟩
   ·have HF : Hid (RaPost T w A lab (.returned (.bool true)) wc):=hide ⟨rfl,StI.of (hI.up (Nat.le_succ T)) ((uh HT2).trans (Tr.bw hbc lab)) (by simp)⟩
    clear hbc hI H2 HT2
    go_wp2_with fail
    go_ret
    exact uh HF
   ·have t1:=Tr.lbR hbc lab r.fp z.rs.length
    have hI1:=(uh H2).keep t1
    have rl : ∀ k ∈ r.im,lbR w2 lab r.fp z.rs.length k = 0:=fun k hk=>by
     have hn:=rd k hk
     unfold lbR
     by_cases hlt : k < w2.heap.size
     ·rw [if_pos hlt]
      simp only [RG.im,List.mem_cons] at hk
      rcases hk with rfl | rfl | hk
      ·omega
      ·omega
      ·rw [rp] at hk; exact (uh HP2).2 k hk
     ·rw [if_neg hlt,if_neg hn]
    have rfl' : ∀ k ∈ r.fp,lbR w2 lab r.fp z.rs.length k = 9 + 3 * z.rs.length:=fun k hk=>by
     have:=rf k hk
     unfold lbR
     rw [if_neg (by omega),if_pos hk]
    obtain ⟨sa,sc',hsv,-,-⟩:=own_slc hI1.rs.row
    have c1 : wc.cell? ⟨A,1,none⟩ = some (.slice sa z.rs.length sc'):=by rw [← hsv]; exact hI1.bk.cell 1 rfl
    have HO : Hid (Own wc (lbR w2 lab r.fp z.rs.length) 114 1 z.rs.length (.slice sa z.rs.length sc') (z.rs.map (fun r=>ptrA r.E)) 3):=hide (by rw [← hsv]; exact hI1.rs)
    have HS : Hid (wc.ownsRow 0 114 1 (.slice sa z.rs.length sc') z.rs.length (z.rs.map (fun r=>ptrA r.E))):=hide (uh HO).row
    have HI1:=hide hI1
    have HQ : Hid (Rn 0 wc r ∧ (∀ k ∈ r.im,lbR w2 lab r.fp z.rs.length k = 0) ∧ ∀ k ∈ r.fp,lbR w2 lab r.fp z.rs.length k = 9 + 3 * z.rs.length):=hide ⟨rn,rl,rfl'⟩
    have HT3:=hide ((uh HT2).trans t1)
    clear hbc hI rn rE rY rf rd rp t1 hI1 rl rfl' hsv H2 HT2 HP2
    go_wp2_with (at_builtin; refine wpList_app1 _ rfl (.tmp 119) (.tmp 121) 108 rfl 0 114 i0 _ 1 8 Tryz.underlying108 hi hz0 hz1 hz2 rfl (by decide) _ z.rs.length (z.rs.map (fun r=>ptrA r.E)) rfl ((uh HS).alloc _) ⟨_,0,none⟩ 1 [.pointer (some ⟨r.E,0,none⟩)] rfl rfl (new_cells _ _ (by simp) [.pointer (some ⟨r.E,0,none⟩)] _) (by intro u hu; simp only [List.mem_singleton] at hu; subst hu; rfl) (by omega) (by omega) (Nat.zero_le _) ?_)
    intro g4 cap4 w4 hown4 hgrow4 hblk4
    obtain ⟨lab4,t4,o4⟩:=grow_own (uh HO) (below_boxQ wc _) hgrow4 hown4 (by simpa using hblk4)
    have lA3:=(uh HI1).l0
    have bk4:=(uh HI1).bk.of_eq (t4.eq A (uh HI1).bk.lt (by rw [lA3]; simp))
    have lA4 : lab4 A = 1:=(t4.lb A (uh HI1).bk.lt).trans lA3
    have d4:=bk4.cell 1 rfl
    have f4:=bk4.frz 1
    have t5 : Tr w4 (w4.setCell ⟨A,1,none⟩ (.slice (some ⟨g4,0,none⟩) (z.rs.length + 1) cap4)) lab4 lab4 [1]:=by
     have:=Tr.set w4 lab4 ⟨A,1,none⟩ (.slice (some ⟨g4,0,none⟩) (z.rs.length + 1) cap4)
     rw [lA4] at this
     exact this
    have tall:=(t4.trans t5).sub (C:=[1,3]) (by simp)
    have hq5:=(uh HQ).1.tr tall (uh HQ).2.1 (uh HQ).2.2 (by simp) (by simp <;> omega)
    have hI5 : LwI (T + 1) (w4.setCell ⟨A,1,none⟩ (.slice (some ⟨g4,0,none⟩) (z.rs.length + 1) cap4)) A { z with rs:=z.rs ++ [r],rsV:=.slice (some ⟨g4,0,none⟩) (z.rs.length + 1) cap4 } lab4 :=
     (uh HI1).addR tall (bk4.set 1 _) (o4.tr t5 (by simp)) hq5.1 hq5.2.1 hq5.2.2
    have HF : Hid (RaPost T w A lab (.returned (.bool true)) (w4.setCell ⟨A,1,none⟩ (.slice (some ⟨g4,0,none⟩) (z.rs.length + 1) cap4))):=hide ⟨rfl,StI.of hI5 ((uh HT3).trans tall) (by simp)⟩
    clear hown4 hgrow4 hblk4 t4 o4 lA3 bk4 lA4 t5 tall hq5 hI5 c1
    go_wp2_with fail
    go_ret
    exact uh HF
end
end Go.Proofs.YtciihepbeacppaaGreat
