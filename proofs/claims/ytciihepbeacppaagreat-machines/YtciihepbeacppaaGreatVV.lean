import Derived.Test.YtciihepbeacppaaGreatM33
namespace Go.Proofs.YtciihepbeacppaaGreat
open Go.RowKit
section
variable {T A : Nat} {w : World} {z : WS} {lab : Nat → Nat} {o : Opr}
def LdV (w1 : World) (p : Value) (w' : World) : Prop:=Below w1.heap.size w1 w' ∧ (p = .pointer none ∨ ∃ q : PG,p = .pointer (some ⟨q.A,0,none⟩) ∧ Pg w' q ∧ ∀ k ∈ q.im,w1.heap.size ≤ k)
set_option maxRecDepth 100000 in
set_option maxHeartbeats 4000000 in
theorem step_load (h : LwI T w A z lab) (hT : T < 16384) (hk : o.k = 1) : Calls Tryz.prog 57 #[.pointer (some ⟨A,0,none⟩),o.v] w (RaPost T w A lab):=by
 obtain ⟨i0,hi,hz0,hz1,hz2⟩:=info_parts Tryz.infoPp
 obtain ⟨w0,hw0⟩ : ∃ w0,w0 = w.alloc (opB o):=⟨_,rfl⟩
 have hb0 : Below w.heap.size w w0:=by rw [hw0]; exact below_boxQ w _
 have hbk : Bk w0 w.heap.size 61 [.int .i64 o.k,.int .i64 o.a,.int .i64 o.b,.int .i64 o.c,.string o.s,.string o.t]:=by rw [hw0]; exact Bk.new w _ [_,_,_,_,_,_]
 have HL:=hide (ls_other (A:=A) (w:=w0) (o:=o) (by omega))
 have HLD : Hid (∀ w1 w',Below w1.heap.size w1 w' → ∀ ask,Calls Tryz.prog 14 #[.string o.s,.int .i64 0,.bool ask] w' fun e w''=>∃ p,e = .returned (.tuple #[p,.bool true]) ∧ Hid (LdV w1 p w'')):=hide (fun w1 w' hb ask=>(ld_any o.s w' ask).mono (by
  rintro e w'' ⟨hb2,(rfl | ⟨q,rfl,hq,hqb⟩)⟩
  ·exact ⟨_,rfl,hide ⟨hb.trans (hb2.mono hb.size),Or.inl rfl⟩⟩
  ·exact ⟨_,rfl,hide ⟨hb.trans (hb2.mono hb.size),Or.inr ⟨q,rfl,hq,fun k hk=>Nat.le_trans hb.size (hqb k hk)⟩⟩⟩))
 have h0:=h.below hb0
 have h1':=h.b1
 have q0:=hbk.cell 0 rfl
 have q1:=hbk.cell 1 rfl
 have q2:=hbk.cell 2 rfl
 have q3:=hbk.cell 3 rfl
 have q4:=hbk.cell 4 rfl
 have q5:=hbk.cell 5 rfl
 have HBK:=hide hbk
 have H0:=hide h0
 have HB0:=hide hb0
 rw [hk] at q0 HBK
 unfold Opr.v at HL ⊢
 unfold opB at hw0
 rw [hk] at HL hw0 ⊢
 clear h hb0 hbk h0 hk
 go_enter Tryz.func57,Tryz.ntmps57
 go_upto_region 1 with fail
 rw [← hw0]
 clear hw0
 go_wp2_with fail
 refine (uh HL).mono ?_
 rintro e w1 ⟨rfl,hb1⟩
 have hbk1:=(uh HBK).below hb1
 have p0:=hbk1.cell 0 rfl
 have p3:=hbk1.cell 3 rfl
 have p4:=hbk1.cell 4 rfl
 have h1:=(uh H0).below hb1
 have c11 : w1.cell? ⟨A,11,none⟩ = some (.int .i64 0):=h1.bk.cell 11 rfl
 have H1:=hide h1
 have HT1:=hide ((Tr.bw (uh HB0) lab).trans (Tr.bw hb1 lab))
 clear hb1 hbk1 h1 HL q0 q1 q2 q3 q4 q5 HBK H0
 go_upto_region 6 with fail
 go_cut [6,7] (fun p k wx=>k = .bool true ∧ Hid (LdV w1 p wx))
 case first =>
  go_region_with (go_at_call 14; refine (uh HLD w1 _ (Below.refl _ _).drew _).mono ?_; rintro e w2 ⟨pv,rfl,hP⟩)
  all_goals
   go_wp2_with fail
   go_meet
   exact ⟨rfl,hP⟩
 case rest =>
  obtain ⟨rfl,hP⟩:=hcut
  obtain ⟨hbc,hcase⟩:=uh hP
  have hI:=(uh H1).below hbc
  clear hP HLD p0 p3 p4 c11
  rcases hcase with rfl | ⟨q,rfl,hq,hqb⟩
  ·have HF : Hid (RaPost T w A lab (.returned (.bool true)) wc):=hide ⟨rfl,StI.of (hI.up (Nat.le_succ T)) ((uh HT1).trans (Tr.bw hbc lab)) (by simp)⟩
   clear hbc hI H1 HT1
   go_wp2_with fail
   go_ret
   exact uh HF
  ·have t1:=Tr.bwN hbc lab 0
   have hI1:=(uh H1).keep t1
   have ql : ∀ k ∈ q.im,nlb w1 lab 0 k = 0:=fun k hk=>nlb_new (hqb k hk)
   obtain ⟨sa,sc,hsv,-,-⟩:=own_slc hI1.ps.row
   have c0 : wc.cell? ⟨A,0,none⟩ = some (.slice sa z.ps.length sc):=by rw [← hsv]; exact hI1.bk.cell 0 rfl
   have HO : Hid (Own wc (nlb w1 lab 0) 22 1 z.ps.length (.slice sa z.ps.length sc) (z.ps.map (fun p=>ptrA p.A)) 2):=hide (by rw [← hsv]; exact hI1.ps)
   have HS : Hid (wc.ownsRow 0 22 1 (.slice sa z.ps.length sc) z.ps.length (z.ps.map (fun p=>ptrA p.A))):=hide (uh HO).row
   have HI1:=hide hI1
   have HQ:=hide hq
   have HQL:=hide ql
   have HT2:=hide ((uh HT1).trans t1)
   clear hbc hI hq hqb t1 hI1 ql hsv H1 HT1
   go_wp2_with (at_builtin; refine wpList_app1 _ rfl (.tmp 41) (.tmp 43) 107 rfl 0 22 i0 _ 1 8 Tryz.underlying107 hi hz0 hz1 hz2 rfl (by decide) _ z.ps.length (z.ps.map (fun p=>ptrA p.A)) rfl ((uh HS).alloc _) ⟨_,0,none⟩ 1 [.pointer (some ⟨q.A,0,none⟩)] rfl rfl (new_cells _ _ (by simp) [.pointer (some ⟨q.A,0,none⟩)] _) (by intro u hu; simp only [List.mem_singleton] at hu; subst hu; rfl) (by omega) (by omega) (Nat.zero_le _) ?_)
   intro g4 cap4 w4 hown4 hgrow4 hblk4
   obtain ⟨lab4,t4,o4⟩:=grow_own (uh HO) (below_boxQ wc _) hgrow4 hown4 (by simpa using hblk4)
   have lA3:=(uh HI1).l0
   have bk4:=(uh HI1).bk.of_eq (t4.eq A (uh HI1).bk.lt (by rw [lA3]; simp))
   have lA4 : lab4 A = 1:=(t4.lb A (uh HI1).bk.lt).trans lA3
   have d4:=bk4.cell 0 rfl
   have f4:=bk4.frz 0
   have t5 : Tr w4 (w4.setCell ⟨A,0,none⟩ (.slice (some ⟨g4,0,none⟩) (z.ps.length + 1) cap4)) lab4 lab4 [1]:=by
    have:=Tr.set w4 lab4 ⟨A,0,none⟩ (.slice (some ⟨g4,0,none⟩) (z.ps.length + 1) cap4)
    rw [lA4] at this
    exact this
   have tall:=(t4.trans t5).sub (C:=[1,2]) (by simp)
   have hq5:=(uh HQ).tr tall (uh HQL) (by simp)
   have hI5 : LwI (T + 1) (w4.setCell ⟨A,0,none⟩ (.slice (some ⟨g4,0,none⟩) (z.ps.length + 1) cap4)) A { z with ps:=z.ps ++ [q],psV:=.slice (some ⟨g4,0,none⟩) (z.ps.length + 1) cap4 } lab4 :=
    (uh HI1).addP tall (bk4.set 0 _) (o4.tr t5 (by simp)) hq5.1 hq5.2
   have HF : Hid (RaPost T w A lab (.returned (.bool true)) (w4.setCell ⟨A,0,none⟩ (.slice (some ⟨g4,0,none⟩) (z.ps.length + 1) cap4))):=hide ⟨rfl,StI.of hI5 ((uh HT2).trans tall) (by simp)⟩
   clear hown4 hgrow4 hblk4 t4 o4 lA3 bk4 lA4 t5 tall hq5 hI5 c0
   go_wp2_with fail
   go_ret
   exact uh HF
end
end Go.Proofs.YtciihepbeacppaaGreat
