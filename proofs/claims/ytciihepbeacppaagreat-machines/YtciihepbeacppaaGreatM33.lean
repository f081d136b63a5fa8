import Derived.Test.YtciihepbeacppaaGreatM32
import Derived.Test.YtciihepbeacppaaGreatM27
namespace Go.Proofs.YtciihepbeacppaaGreat
open Go.RowKit
section
variable {T A : Nat} {w : World} {z : WS} {lab : Nat → Nat} {o : Opr}
theorem below_da (w : World) (k : Nat) (o : Obj) : Below w.heap.size w ((w.drewN k).alloc o):=(below_drewQ w k).trans ((below_boxQ (w.drewN k) o).mono (Nat.le_refl _))
set_option maxRecDepth 100000 in
set_option maxHeartbeats 2000000 in
theorem ls_in (h : LwI T w A z lab) (hT : T < 16384) (hk : o.k = 2) : Calls Tryz.prog 80 #[.pointer (some ⟨A,0,none⟩),o.v] w (LiPost T w A lab):=by
 obtain ⟨j0,hj,hy0,hy1,hy2⟩:=info_parts Tryz.infoInt
 obtain ⟨w0,hw0⟩ : ∃ w0,w0 = w.alloc (opB o):=⟨_,rfl⟩
 have hb0 : Below w.heap.size w w0:=by rw [hw0]; exact below_boxQ w _
 have h0:=(h.below hb0).up (Nat.le_succ T)
 have hbk : Bk w0 w.heap.size 61 [.int .i64 o.k,.int .i64 o.a,.int .i64 o.b,.int .i64 o.c,.string o.s,.string o.t]:=by rw [hw0]; exact Bk.new w _ [_,_,_,_,_,_]
 have q0 : w0.cell? ⟨w.heap.size,0,none⟩ = some (.int .i64 2):=by rw [← hk]; exact hbk.cell 0 rfl
 have q1:=hbk.cell 1 rfl
 have h3:=h.b3
 obtain ⟨ra,rc,hr,-,-⟩:=own_slc h0.rg.row
 have c2 : w0.cell? ⟨A,2,none⟩ = some (.slice ra z.reg.length rc):=by rw [← hr]; exact h0.bk.cell 2 rfl
 have f2:=h0.bk.frz 2
 have hAl : A < w0.heap.size:=h0.bk.lt
 have HO : Hid (Own w0 lab 3 1 z.reg.length (.slice ra z.reg.length rc) (ints z.reg) 4):=hide (by rw [← hr]; exact h0.rg)
 have HROW : Hid (w0.ownsRow 0 3 1 (.slice ra z.reg.length rc) z.reg.length (ints z.reg)):=hide (uh HO).row
 have HNP : Hid ((Value.slice ra z.reg.length rc).ownBlock ≠ some A):=hide (fun e=>by have h1:=(uh HO).own A e; rw [h0.l0] at h1; cases h1)
 have c2a : ∀ (j : Nat) (o : Obj),((w0.drewN j).alloc o).cell? ⟨A,2,none⟩ = some (.slice ra z.reg.length rc):=fun j o=>(World.cell?_of_block (a:=⟨A,2,none⟩) (Below.heap_alloc (w0.drewN j) o _ hAl)).trans c2
 have HR : Hid (∀ (j : Nat) (ob : Obj) (g cap : Nat) (w4 : World),w4.ownsRow 0 3 1 (.slice (some ⟨g,0,none⟩) (z.reg.length + 1) cap) (z.reg.length + 1) (ints z.reg ++ [.int .i64 o.a]) → ((w0.drewN j).alloc ob).grownBy w4 (Value.slice ra z.reg.length rc).ownBlock → (some g = (Value.slice ra z.reg.length rc).ownBlock ∨ g = ((w0.drewN j).alloc ob).heap.size) →
   LiPost T w A lab (.returned (.bool true)) (w4.setCell ⟨A,2,none⟩ (.slice (some ⟨g,0,none⟩) (z.reg.length + 1) cap))):=hide (by
  intro j ob g cap w4 hown hgrow hblk
  obtain ⟨lab1,t1,o1⟩:=grow_own (uh HO) (below_da w0 j ob) hgrow hown hblk
  have lA1 : lab1 A = 1:=(t1.lb A hAl).trans h0.l0
  have bk1:=h0.bk.of_eq (t1.eq A hAl (by rw [h0.l0]; simp))
  have t5 : Tr w4 (w4.setCell ⟨A,2,none⟩ (.slice (some ⟨g,0,none⟩) (z.reg.length + 1) cap)) lab1 lab1 [1]:=by
   have:=Tr.set w4 lab1 ⟨A,2,none⟩ (.slice (some ⟨g,0,none⟩) (z.reg.length + 1) cap)
   rw [lA1] at this
   exact this
  have tall:=t1.trans t5
  have o5:=o1.tr t5 (by simp)
  have hI : LwI (T + 1) (w4.setCell ⟨A,2,none⟩ (.slice (some ⟨g,0,none⟩) (z.reg.length + 1) cap)) A { z with reg:=z.reg ++ [o.a],regV:=.slice (some ⟨g,0,none⟩) (z.reg.length + 1) cap } lab1 :=
   h0.head (tall.sub (by simp)) (bk1.set 2 _) rfl rfl rfl rfl rfl rfl rfl (by
    show Own _ _ _ 1 (z.reg ++ [o.a]).length _ (ints (z.reg ++ [o.a])) 4
    rw [List.length_append,List.length_singleton]
    simpa [ints] using o5) h0.sto h0.i1 h0.i2 h0.i3 (by show (z.reg ++ [o.a]).length ≤ T + 1; simp; omega)
  exact ⟨rfl,StI.of hI ((Tr.bw hb0 lab).trans tall) (by simp)⟩)
 have hBs : 0 ≤ w0.heap.size:=Nat.zero_le _
 unfold Opr.v
 rw [hk]
 unfold opB at hw0
 rw [hk] at hw0
 clear h hk h0 hb0 hr hbk
 go_enter Tryz.func80,Tryz.ntmps80
 go_upto_region 1 with fail
 rw [← hw0]
 clear hw0
 go_upto_region 4 with fail
 go_region_law (refine step_app1 _ rfl (.tmp 16) (.tmp 19) 29 rfl 0 3 j0 (.int .i64 0) 1 8 Tryz.underlying29 hj hy0 hy1 hy2 rfl (by decide) (.slice ra z.reg.length rc) z.reg.length (ints z.reg) (by simp [Act.eval]) (own_da (uh HROW) _ _) ⟨w0.heap.size,0,none⟩ 1 [.int .i64 o.a] (by simp [Act.eval]) rfl (one_da _ _ _ _) (ints_one [o.a]) (by omega) (by omega) (le_da hBs _ _) ?_; intro g2 cap2 w4 hown2 hgrow2 hblk2; have c2':=grown_cell hgrow2 hAl (uh HNP) 2 c2; have f2':=grown_frozen hgrow2 hAl (uh HNP) 2 f2; have HI':=hide (uh HR _ _ _ _ _ hown2 hgrow2 hblk2); clear hown2 hgrow2 hblk2)
 all_goals
  go_wp2_with fail
  go_ret
  exact uh HI'
end
section
variable {T A : Nat} {w : World} {z : WS} {lab : Nat → Nat} {o : Opr}
set_option maxRecDepth 100000 in
set_option maxHeartbeats 4000000 in
theorem ls_put (h : LwI T w A z lab) (ho : o.Ok) (hT : T < 16384) (hk : o.k = 6) : Calls Tryz.prog 80 #[.pointer (some ⟨A,0,none⟩),o.v] w (LiPost T w A lab):=by
 obtain ⟨w0,hw0⟩ : ∃ w0,w0 = w.alloc (opB o):=⟨_,rfl⟩
 have hb0 : Below w.heap.size w w0:=by rw [hw0]; exact below_boxQ w _
 have h0:=(h.below hb0).up (Nat.le_succ T)
 have hbk : Bk w0 w.heap.size 61 [.int .i64 o.k,.int .i64 o.a,.int .i64 o.b,.int .i64 o.c,.string o.s,.string o.t]:=by rw [hw0]; exact Bk.new w _ [_,_,_,_,_,_]
 have q0 : w0.cell? ⟨w.heap.size,0,none⟩ = some (.int .i64 6):=by rw [← hk]; exact hbk.cell 0 rfl
 have q1:=hbk.cell 1 rfl
 have q2:=hbk.cell 2 rfl
 have q3:=hbk.cell 3 rfl
 have h4:=h.b4
 have HR0 : Hid (∀ n,LiPost T w A lab (.returned (.bool true)) (w0.drewN n)):=hide (fun n=>⟨rfl,StI.of (h0.below (below_drewQ w0 n)) ((Tr.bw hb0 lab).trans (Tr.bw (below_drewQ w0 n) lab)) (by simp)⟩)
 unfold Opr.v
 rw [hk]
 unfold opB at hw0
 rw [hk] at hw0
 by_cases hN0 : z.ls.length = 0
 ·obtain ⟨sa,sc,hs,-,-⟩:=own_slc h0.ls.row
  have c3 : w0.cell? ⟨A,3,none⟩ = some (.slice sa 0 sc):=by rw [← hN0,← hs]; exact h0.bk.cell 3 rfl
  clear h hk h0 hb0 hbk hs hN0 ho
  go_enter Tryz.func80,Tryz.ntmps80
  go_upto_region 1 with fail
  rw [← hw0]
  clear hw0
  go_wp2_with fail
  go_ret
  exact uh HR0 0
 ·obtain ⟨N,hN⟩ : ∃ N,N = z.ls.length:=⟨_,rfl⟩
  obtain ⟨k,hkk⟩ : ∃ k,k = pkI o.a N:=⟨_,rfl⟩
  have hkN : k < N:=by rw [hkk]; exact pkI_lt (by omega)
  obtain ⟨l,hl⟩ : ∃ l,z.ls[k]? = some l:=⟨_,List.getElem?_eq_getElem (by omega)⟩
  have hL:=h0.lc k l hl
  obtain ⟨gl,cap,e,hc1,hc2,-,x⟩:=own_cell h0.ls (u:=l.v) (j:=k) (by simp [hl])
  rw [← hN] at e hc1
  have c3 : w0.cell? ⟨A,3,none⟩ = some (.slice (some ⟨gl,0,none⟩) N cap):=by rw [← e]; exact h0.bk.cell 3 rfl
  have HPK : Hid (∀ n,Calls Tryz.prog 83 #[.int .i64 o.a,.int .i64 N] (w0.drewN n) fun e w''=>e = .returned (.int .i64 (k : Nat)) ∧ ∃ m,w'' = w0.drewN m):=hide (fun n=>by rw [hkk]; exact pick_quiet (by omega) (by omega) ho.a)
  have hle:=hL.le
  have hjl : ((k : Int)) < (N : Int):=by omega
  have hj0 : (0 : Int) ≤ (k : Int):=by omega
  have d0 : decide ((0 : Int) < (N : Int)) = true:=by simp; omega
  obtain ⟨C,hC⟩ : ∃ C,C = l.c.length:=⟨_,rfl⟩
  by_cases hC0 : C = 0
  ·obtain ⟨ao,vc,hv,-,-⟩:=own_slc hL.v.row
   rw [hv,← hC,hC0] at x
   clear h hk h0 hb0 hbk hN0 ho hL hl e hv hC hC0 hle hkk hN
   go_enter Tryz.func80,Tryz.ntmps80
   go_upto_region 1 with fail
   rw [← hw0]
   clear hw0
   go_upto_region 15 with fail
   go_quiet ((go_at_call 83; exact uh HPK _))
   go_wp2_with fail
   go_ret
   exact uh HR0 _
  ·obtain ⟨i,hii⟩ : ∃ i,i = pkI o.b C:=⟨_,rfl⟩
   have hiC : i < C:=by rw [hii]; exact pkI_lt (by omega)
   obtain ⟨g1,c1,hv,hv1,hv2,-⟩:=own_pos hL.v.row (by omega)
   obtain ⟨g2,c2,hu,hu1,hu2,-⟩:=own_pos hL.u.row (by omega)
   obtain ⟨gw,capw,ew,hw1,hw2,-,xu⟩:=own_cell h0.lw (u:=l.u) (j:=k) (by simp [hl])
   rw [← hN] at ew hw1
   have c4 : w0.cell? ⟨A,4,none⟩ = some (.slice (some ⟨gw,0,none⟩) N capw):=by rw [← ew]; exact h0.bk.cell 4 rfl
   have L1 : lab g1 = 7 + 3 * k:=hL.v.own g1 (by rw [hv]; rfl)
   have L2 : lab g2 = 8 + 3 * k:=hL.u.own g2 (by rw [hu]; rfl)
   have Lw : lab gw = 6:=h0.lw.own gw (by rw [ew]; rfl)
   have n1 : A ≠ g1:=by intro e2; have:=h0.l0; rw [e2,L1] at this; omega
   have n2 : gw ≠ g1:=by intro e2; rw [e2,L1] at Lw; omega
   have n3 : g2 ≠ g1:=by intro e2; rw [e2,L1] at L2; omega
   have g1l : g1 < w.heap.size:=((h.lc k l hl).v.row.lt g1 (by rw [hv]; rfl)).2
   have n4 : w.heap.size ≠ g1:=by omega
   have r1:=hL.v.row
   rw [hv] at r1
   have y1:=(r1.cellAt i (by omega)).trans (ints_get (l:=l.c) (k:=i) (by omega))
   have z1:=r1.frozenAt i
   have r2:=hL.u.row
   rw [hu] at r2
   have y2:=(r2.cellAt i (by omega)).trans (ints_get (l:=l.c) (k:=i) (by omega))
   have z2:=r2.frozenAt i
   have fx : ∀ (n : Nat) {p : Addr} {u : Value},p.block ≠ g1 → w0.cell? p = some u → ((w0.drewN n).setCell ⟨g1,i,none⟩ (.int .i64 o.c)).cell? p = some u:=fun n p u hp hc=>(World.cell?_of_block (Below.heap_setCell (w0.drewN n) ⟨g1,i,none⟩ (.int .i64 o.c) p.block hp)).trans hc
   rw [hv,← hC] at x
   rw [hu,← hC] at xu
   have m1:=fun n=>fx n (p:=⟨A,4,none⟩) n1 c4
   have m2:=fun n=>fx n (p:=⟨gw,k,none⟩) n2 xu
   have m3:=fun n=>fx n (p:=⟨w.heap.size,3,none⟩) n4 q3
   have m4:=fun n=>fx n (p:=⟨g2,i,none⟩) n3 y2
   have m5 : ∀ n,((w0.drewN n).setCell ⟨g1,i,none⟩ (.int .i64 o.c)).frozen? ⟨g2,i,none⟩ = false:=fun n=>(World.frozen?_of_block (a:=⟨g2,i,none⟩) (Below.heap_setCell (w0.drewN n) ⟨g1,i,none⟩ (.int .i64 o.c) g2 n3)).trans z2
   have HPI : Hid (∀ a n,Calls Tryz.prog 83 #[.int .i64 o.b,.int .i64 C] (w0.drewN (a + n)) fun e w''=>e = .returned (.int .i64 (i : Nat)) ∧ ∃ m,w'' = w0.drewN (a + m)):=hide (fun a n=>by
    rw [hii]
    exact (pick_any (w0.drewN (a + n)) o.b C (by omega) (by omega) ho.b).mono (by rintro e w' ⟨rfl,rfl⟩; exact ⟨rfl,n,rfl⟩))
   have HR : Hid (∀ n m,LiPost T w A lab (.returned (.bool true)) ((((w0.drewN n).setCell ⟨g1,i,none⟩ (.int .i64 o.c)).setCell ⟨g2,i,none⟩ (.int .i64 o.c)).drewN m)):=hide (by
    intro n m
    obtain ⟨z',hI,t⟩:=(h0.below (below_drewQ w0 n)).put (i:=i) o.c hl hv hu (by omega)
    have hd:=below_drewQ (((w0.drewN n).setCell ⟨g1,i,none⟩ (.int .i64 o.c)).setCell ⟨g2,i,none⟩ (.int .i64 o.c)) m
    exact ⟨rfl,StI.of (hI.below hd) ((((Tr.bw hb0 lab).trans (Tr.bw (below_drewQ w0 n) lab)).trans t).trans (Tr.bw hd lab)) (by simp; omega)⟩)
   have hil : ((i : Int)) < (C : Int):=by omega
   have hi0 : (0 : Int) ≤ (i : Int):=by omega
   have dC : decide ((0 : Int) < (C : Int)) = true:=by simp; omega
   clear h hk h0 hb0 hbk hN0 ho hL hl e ew hv hu hC hC0 hle hkk hN hii fx r1 r2 L1 L2 Lw n1 n2 n3 n4 HR0
   go_enter Tryz.func80,Tryz.ntmps80
   go_upto_region 1 with fail
   rw [← hw0]
   clear hw0
   go_upto_region 15 with fail
   go_quiet ((go_at_call 83; exact uh HPK _))
   go_upto_region 17 with fail
   go_quiet ((go_at_call 83; exact uh HPI _ _))
   go_upto_region 18 with fail
   go_region
   all_goals go_upto_region 19 with fail
   all_goals go_region
   all_goals
    go_wp2_with fail
    go_ret
    exact uh HR _ _
end
section
variable {T : Nat} {w : World} {r : RG}
theorem Stp.thenBw {F F' : List Nat} {w w1 w2 : World} (h : Stp F w F' w1) (hb : Below w1.heap.size w1 w2) : Stp F w F' w2 :=
 ⟨hb.os.trans h.os,hb.tape.trans h.tape,hb.output.trans h.output,Nat.le_trans h.size hb.size,fun k hk hn=>(hb.block k (Nat.lt_of_lt_of_le hk h.size)).trans (h.block k hk hn),h.foot⟩
set_option maxRecDepth 100000 in
set_option maxHeartbeats 2000000 in
theorem steps_any (h : Rn T w r) (hd : ∀ k ∈ r.im,k ∉ r.fp) (hT : T < 16384) (c : Int) (ask : Bool) : Calls Tryz.prog 136 #[.pointer (some ⟨r.E,0,none⟩),.int .i64 c,.bool ask] w fun e w'=>e = .returned (.bool true) ∧ ∃ r' : RG,r'.E = r.E ∧ r'.im = r.im ∧ Rn (T + 1) w' r' ∧ Stp r.fp w r'.fp w':=by
 have e1:=h.bk.cell 1 rfl
 unfold ptrA at e1
 have hal:=h.adl
 have hcs:=h.csl
 have HLS:=hide (lstep_any h.by' h.mc c (by have:=h.pg.ok.nl; omega) (by omega))
 have HRS : Hid (∀ w1 cv',Stp (mFp r.R r.sv r.cv) w (mFp r.R r.sv cv') w1 → Calls Tryz.prog 166 #[.pointer (some ⟨r.y.R,0,none⟩),.int .i64 c] w1 (RSt w1 r.y r.p.ns r.p.al (r.p.cl ++ [exI]) (rsM r.p.ns (r.p.cl ++ [exI]) r.r c))):=hide (fun w1 cv' s1=>by
  have hR : Rc w1 r.y r.p.ns r.p.al (r.p.cl ++ [exI]) r.r:=h.rc.of_eq (fun k hk=>s1.block k (h.lt k (by
   rcases hk with hk | hk
   ·exact Or.inr (by simp [RG.fp,hk])
   ·exact Or.inl (by simp [RG.im,h.pb k hk]))) (fun hm=>by
   rcases hk with hk | hk
   ·exact h.ds k hm hk
   ·exact hd k (by simp [RG.im,h.pb k hk]) (by simp [RG.fp,hm])))
  refine rstep_any hR c (by have:=h.pg.ns4; omega) (by have:=h.ro.le; simp; omega) (by have:=h.pg.ok.cl; simp; omega) (by omega) h.mr.cs.nd (fun h0=>?_)
  exact h.pg.ok.pg.insG (h.ro.lt h0))
 have HE2 : Hid (∀ w1 cv',Stp (mFp r.R r.sv r.cv) w (mFp r.R r.sv cv') w1 → w1.cell? ⟨r.E,2,none⟩ = some (.pointer (some ⟨r.y.R,0,none⟩))):=hide (fun w1 cv' s1=>(h.bk.stp s1 (fun hm=>hd r.E (by simp [RG.im]) (by simp [RG.fp,hm]))).cell 2 rfl)
 have HEQ:=hide (h.pg.ok.pg.step h.mr h.ro c).2
 have H:=hide h
 clear h
 obtain ⟨b,hb⟩ : ∃ b,b = (rsM r.p.ns (r.p.cl ++ [exI]) r.r c).2:=⟨_,rfl⟩
 have HB:=hide hb
 have HE : Hid ((stM (rdS r.p.l).nodes r.m c).2 = if b = true then 0 else 5):=hide (by rw [hb]; exact uh HEQ)
 clear HEQ hb
 have HG : ∀ (n : Nat),(stM (rdS r.p.l).nodes r.m c).2 = n → (b = true ∧ n = 0 ∨ b = false ∧ n = 5) → Calls Tryz.prog 136 #[.pointer (some ⟨r.E,0,none⟩),.int .i64 c,.bool ask] w fun e w'=>e = .returned (.bool true) ∧ ∃ r' : RG,r'.E = r.E ∧ r'.im = r.im ∧ Rn (T + 1) w' r' ∧ Stp r.fp w r'.fp w':=by
  intro n hn hbn
  have HN:=hide hn
  clear hn HE
  rcases hbn with ⟨rfl,rfl⟩ | ⟨rfl,rfl⟩
  all_goals
   go_enter Tryz.func136,Tryz.ntmps136
   go_wp2_with fail
   refine (uh HLS).mono ?_
   rintro e w1 ⟨rfl,cv',h1,s1⟩
   rw [uh HN]
   have e2:=uh HE2 w1 cv' s1
   have HR:=hide (uh HRS w1 cv' s1)
   have H1:=hide h1
   have S1:=hide s1
   clear h1 s1
   have HST : Hid (∀ w2,(∃ av' xv',Rc w2 { r.y with av:=av',xv:=xv' } r.p.ns r.p.al (r.p.cl ++ [exI]) (rsM r.p.ns (r.p.cl ++ [exI]) r.r c).1 ∧ Stp r.y.fp w1 (RL.fp { r.y with av:=av',xv:=xv' }) w2) → Calls Tryz.prog 59 #[.pointer (some ⟨r.E,0,none⟩),.bool ask] w2 fun e w'=>e = .returned (.bool true) ∧ ∃ r' : RG,r'.E = r.E ∧ r'.im = r.im ∧ Rn (T + 1) w' r' ∧ Stp r.fp w r'.fp w'):=hide (by
    rintro w2 ⟨av',xv',h2,s2⟩
    obtain ⟨r',hE,hi,hn,hs⟩:=(uh H).step hd (uh H1) (uh S1) h2 s2
    have:=stands_any hn (by omega) ask
    rw [hE] at this
    refine this.mono ?_
    rintro e w3 ⟨rfl,hb⟩
    exact ⟨rfl,r',hE,hi,hn.below hb,hs.thenBw hb⟩)
   go_wp2_with fail
   refine (uh HR).mono ?_
   rintro e w2 ⟨rfl,hx⟩
   have HC:=hide (uh HST w2 hx)
   clear hx HR HST
   rw [← uh HB]
   go_wp2_with fail
   refine (uh HC).mono ?_
   rintro e w3 ⟨rfl,hx⟩
   have HX:=hide hx
   clear hx HC
   go_wp2_with fail
   go_ret
   exact ⟨rfl,uh HX⟩
 cases b with
 | true=>exact HG 0 (uh HE) (Or.inl ⟨rfl,rfl⟩)
 | false=>exact HG 5 (uh HE) (Or.inr ⟨rfl,rfl⟩)
end
def SdPost (w : World) (p : PG) (e : Ending) (w' : World) : Prop :=
 Below w.heap.size w w' ∧ (e = .returned (.tuple #[.pointer none,.bool true]) ∨ ∃ r : RG,e = .returned (.tuple #[.pointer (some ⟨r.E,0,none⟩),.bool true]) ∧ r.p = p ∧ Rn 0 w' r ∧ w.heap.size ≤ r.E ∧ w.heap.size ≤ r.Y ∧ (∀ k ∈ r.fp,w.heap.size ≤ k) ∧ ∀ k ∈ r.im,k ∉ r.fp)
section
variable {w : World} {p : PG} {sv0 lv : Value} {st ls : List Int}
set_option maxRecDepth 100000 in
set_option maxHeartbeats 2000000 in
theorem started_bad (hp : Pg w p) (hst : Lst w sv0 1 st.length (ints st)) (hls : Lst w lv 1 ls.length (ints ls)) (ask : Bool) (hne : staR p.ns p.al st ls ≠ 0) :
  Calls Tryz.prog 85 #[.pointer (some ⟨p.A,0,none⟩),sv0,lv,.bool ask] w (SdPost w p):=by
 have c0 : w.cell? ⟨p.A,0,none⟩ = some (.pointer (some ⟨p.X,0,none⟩)):=hp.bk.cell 0 rfl
 have hE : staE (rdS p.l).vars.length (prA (rdW p.l) ini) st ls = staR p.ns p.al st ls:=hp.ok.sta st ls
 have HLS:=hide (lstart_any hp.bx hp.cp hp.ok.aok (by have:=hp.ok.nl; omega) hp.ok.vl hst hls)
 have HRS : Hid (∀ w',Below w.heap.size w w' → Calls Tryz.prog 134 #[.pointer (some ⟨p.P,0,none⟩),sv0,lv] w' fun e w''=>e = .returned (.int .i64 (staR p.ns p.al st ls : Nat)) ∧ Below w.heap.size w w''):=hide (fun w' hb=>(rstartable_any (hp.below hb).rp (by have:=hp.ns4; omega) hp.ok.ll (by have:=hp.ok.cl; simp; omega) (by simp) (hst.below hb) (hls.below hb)).mono (by
  rintro e w'' ⟨rfl,hb2⟩
  exact ⟨rfl,hb.trans (hb2.mono hb.size)⟩))
 have HC1 : Hid (∀ w',Below w.heap.size w w' → w'.cell? ⟨p.A,1,none⟩ = some (.pointer (some ⟨p.P,0,none⟩))):=hide (fun w' hb=>(hp.below hb).bk.cell 1 rfl)
 obtain ⟨so,sc,rfl,-,-,-⟩:=hst.sl
 obtain ⟨lo,lc,rfl,-,-,-⟩:=hls.sl
 obtain ⟨E,hEE⟩ : ∃ E,E = staR p.ns p.al st ls:=⟨_,rfl⟩
 have HE:=hide hE
 rw [← hEE] at hne HRS
 have HEE:=hide hEE
 have dE : ((E : Int) != 0) = true:=by rw [bne_iff_ne]; omega
 clear hp hst hls hE hEE
 go_enter Tryz.func85,Tryz.ntmps85
 go_wp2_with fail
 refine (uh HLS).mono ?_
 rintro e w1 ⟨hb1,(⟨_,rfl⟩ | ⟨h0,-⟩)⟩
 ·rw [uh HE,← uh HEE]
  have c1:=uh HC1 w1 hb1
  have HS:=hide (uh HRS w1 hb1)
  clear hb1 HLS HRS HC1 c0
  go_wp2_with fail
  refine (uh HS).mono ?_
  rintro e w2 ⟨rfl,hb2⟩
  have HB2:=hide hb2
  clear hb2 HS c1
  go_wp2_with fail
  go_ret2
  exact ⟨uh HB2,Or.inl rfl⟩
 ·rw [uh HE,← uh HEE] at h0
  exact absurd h0 hne
set_option maxRecDepth 100000 in
set_option maxHeartbeats 2000000 in
theorem started_good (hp : Pg w p) (hst : Lst w sv0 1 st.length (ints st)) (hls : Lst w lv 1 ls.length (ints ls)) (ask : Bool) (h0 : staR p.ns p.al st ls = 0) :
  Calls Tryz.prog 85 #[.pointer (some ⟨p.A,0,none⟩),sv0,lv,.bool ask] w (SdPost w p):=by
 obtain ⟨f1,f2,f3⟩:=sta_facts h0
 have c0 : w.cell? ⟨p.A,0,none⟩ = some (.pointer (some ⟨p.X,0,none⟩)):=hp.bk.cell 0 rfl
 have hE : staE (rdS p.l).vars.length (prA (rdW p.l) ini) st ls = 0:=(hp.ok.sta st ls).trans h0
 have HLS:=hide (lstart_any hp.bx hp.cp hp.ok.aok (by have:=hp.ok.nl; omega) hp.ok.vl hst hls)
 have HRS : Hid (∀ w',Below w.heap.size w w' → Calls Tryz.prog 134 #[.pointer (some ⟨p.P,0,none⟩),sv0,lv] w' fun e w''=>e = .returned (.int .i64 0) ∧ Below w'.heap.size w' w''):=hide (fun w' hb=>(rstartable_any (hp.below hb).rp (by have:=hp.ns4; omega) hp.ok.ll (by have:=hp.ok.cl; simp; omega) (by simp) (hst.below hb) (hls.below hb)).mono (by
  rintro e w'' ⟨rfl,hb2⟩
  exact ⟨by rw [h0]; rfl,hb2⟩))
 have HBG : Hid (∀ w',Below w.heap.size w w' → Calls Tryz.prog 135 #[.pointer (some ⟨p.P,0,none⟩),sv0,lv] w' (RPost w' p.P p.ns p.al (p.cl ++ [exI]) p.rv p.rh p.rp p.rc p.tx (seM (p.cl ++ [exI]) ⟨0,0,st,evK ls (ls.length / 2),odK ls (ls.length / 2)⟩))):=hide (fun w' hb=>rbegin_any (hp.below hb).rp (by have:=hp.ns4; omega) (by have:=hp.ok.cl; simp; omega) (by simp) (hst.below hb) f2 (hls.below hb) (f3.up.imp (fun h=>by omega)))
 have HC1 : Hid (∀ w',Below w.heap.size w w' → w'.cell? ⟨p.A,1,none⟩ = some (.pointer (some ⟨p.P,0,none⟩))):=hide (fun w' hb=>(hp.below hb).bk.cell 1 rfl)
 obtain ⟨so,sc,rfl,-,-,-⟩:=hst.sl
 obtain ⟨lo,lc,rfl,-,-,-⟩:=hls.sl
 have HE:=hide hE
 have HP:=hide hp
 have H0:=hide h0
 clear hp hst hls hE h0 f1 f2 f3
 go_enter Tryz.func85,Tryz.ntmps85
 go_wp2_with fail
 refine (uh HLS).mono ?_
 rintro e w1 ⟨hb1,(⟨hne,rfl⟩ | ⟨-,Y,R,sv,cv,rfl,hY,hYb,hYn,hM,hF⟩)⟩
 ·exact absurd (uh HE) hne
 ·have c1:=uh HC1 w1 hb1
  have HS:=hide (uh HRS w1 hb1)
  have HB1:=hide hb1
  have HY:=hide hY
  have HM:=hide hM
  have HF : Hid (w.heap.size ≤ Y ∧ (∀ k ∈ mFp R sv cv,w.heap.size ≤ k) ∧ Y ∉ mFp R sv cv):=hide ⟨hYb,hF,hYn⟩
  clear hb1 HLS HRS c0 hY hYb hYn hM hF
  go_wp2_with fail
  refine (uh HS).mono ?_
  rintro e w2 ⟨rfl,hb2⟩
  have hbw2:=(uh HB1).trans (hb2.mono (uh HB1).size)
  have c1':=uh HC1 w2 hbw2
  have HBg:=hide (uh HBG w2 hbw2)
  have HB12:=hide hb2
  have HB2:=hide hbw2
  clear hb2 hbw2 HS c1
  go_wp2_with fail
  refine (uh HBg).mono ?_
  rintro e w3 ⟨y,rfl,y1,y2,y3,y4,y5,y6,hR,hRf,hb3⟩
  have HRN : Hid (Rn 0 (w3.alloc (.cells #[ptrA p.A,ptrA Y,ptrA y.R] 156)) ⟨p,w3.heap.size,Y,R,sv,cv,y,enS (rdS p.l).nodes ⟨0,0,st,prs ls⟩ 0,seM (p.cl ++ [exI]) ⟨0,0,st,evK ls (ls.length / 2),odK ls (ls.length / 2)⟩⟩):=hide (by
   have hbw3:=(uh HB2).trans (hb3.mono (uh HB2).size)
   have hb13:=(uh HB12).trans (hb3.mono (uh HB12).size)
   have hbb:=below_boxQ w3 (.cells #[ptrA p.A,ptrA Y,ptrA y.R] 156)
   refine Rn.start (((uh HP).below hbw3).below hbb) (uh H0) (Bk.new w3 _ [_,_,_]) (((uh HY).below hb13).below hbb) (((uh HM).below hb13).below hbb) (hR.below hbb) (fun k hk=>?_) (fun k hk hm=>?_)
   ·unfold RL.pb at hk
    rw [y1,y2,y4,y5] at hk
    simp only [PG.im,List.mem_cons,List.mem_append]
    exact Or.inr (Or.inr (Or.inr hk))
   ·have h1:=(uh HM).lt k hk
    have h2:=hRf k hm
    have h3:=(uh HB12).size
    omega)
  have HPO : Hid (∀ w4,Below (w3.alloc (.cells #[ptrA p.A,ptrA Y,ptrA y.R] 156)).heap.size (w3.alloc (.cells #[ptrA p.A,ptrA Y,ptrA y.R] 156)) w4 → SdPost w p (.returned (.tuple #[.pointer (some ⟨w3.heap.size,0,none⟩),.bool true])) w4):=hide (fun w4 hb4=>by
   have hbw3:=(uh HB2).trans (hb3.mono (uh HB2).size)
   have hbb:=hbw3.alloc hbw3.size (.cells #[ptrA p.A,ptrA Y,ptrA y.R] 156)
   refine ⟨hbb.trans (hb4.mono hbb.size),Or.inr ⟨_,rfl,rfl,(uh HRN).below hb4,hbw3.size,(uh HF).1,fun k hk=>?_,fun k hk hm=>?_⟩⟩
   ·rcases List.mem_append.1 hk with hk | hk
    ·exact (uh HF).2.1 k hk
    ·exact Nat.le_trans (uh HB2).size (hRf k hk)
   ·have g1:=hb3.size
    have g2:=(uh HB12).size
    have g3:=(uh HB2).size
    simp only [RG.im,List.mem_cons] at hk
    rcases List.mem_append.1 hm with hm | hm
    ·have hl:=(uh HM).lt k hm
     rcases hk with hk | hk | hk
     ·have hk' : k = w3.heap.size:=hk
      omega
     ·have hk' : k = Y:=hk
      rw [hk'] at hm
      exact (uh HF).2.2 hm
     ·have h1:=(uh HP).lt k hk
      have h2:=(uh HF).2.1 k hm
      omega
    ·have hl:=hR.lt k hm
     have h2:=hRf k hm
     rcases hk with hk | hk | hk
     ·have hk' : k = w3.heap.size:=hk
      omega
     ·have hk' : k = Y:=hk
      have h3:=(uh HY).lt
      omega
     ·have h1:=(uh HP).lt k hk
      omega)
  have HSTD:=hide (stands_any (uh HRN) (by omega) ask)
  unfold ptrA at HSTD HPO
  clear hR hRf hb3 y1 y2 y3 y4 y5 y6 HBg HBG HRN c1'
  go_wp2_with fail
  refine (uh HSTD).mono ?_
  rintro e w4 ⟨rfl,hb4⟩
  have HB4:=hide hb4
  clear hb4 HSTD
  go_wp2_with fail
  go_ret2
  exact uh HPO w4 (uh HB4)
theorem started_any (hp : Pg w p) (hst : Lst w sv0 1 st.length (ints st)) (hls : Lst w lv 1 ls.length (ints ls)) (ask : Bool) :
  Calls Tryz.prog 85 #[.pointer (some ⟨p.A,0,none⟩),sv0,lv,.bool ask] w (SdPost w p):=by
 by_cases h0 : staR p.ns p.al st ls = 0
 ·exact started_good hp hst hls ask h0
 ·exact started_bad hp hst hls ask h0
end
section
variable {T A : Nat} {w : World} {z : WS} {lab : Nat → Nat} {o : Opr}
def RaPost (T : Nat) (w : World) (A : Nat) (lab : Nat → Nat) (e : Ending) (w' : World) : Prop:=e = .returned (.bool true) ∧ StI (T + 1) w A lab w'
set_option maxRecDepth 100000 in
set_option maxHeartbeats 2000000 in
theorem ran_none (h : LwI T w A z lab) (hN : z.rs.length = 0) : Calls Tryz.prog 86 #[.pointer (some ⟨A,0,none⟩),o.v] w (RaPost T w A lab):=by
 obtain ⟨w0,hw0⟩ : ∃ w0,w0 = w.alloc (opB o):=⟨_,rfl⟩
 have hb0 : Below w.heap.size w w0:=by rw [hw0]; exact below_boxQ w _
 have h0:=(h.below hb0).up (Nat.le_succ T)
 have HR0 : Hid (RaPost T w A lab (.returned (.bool true)) w0):=hide ⟨rfl,StI.of h0 (Tr.bw hb0 lab) (by simp)⟩
 obtain ⟨sa,sc,hs,-,-⟩:=own_slc h0.rs.row
 have c1 : w0.cell? ⟨A,1,none⟩ = some (.slice sa 0 sc):=by rw [← hN,← hs]; exact h0.bk.cell 1 rfl
 unfold Opr.v
 unfold opB at hw0
 clear h h0 hb0 hs hN
 go_enter Tryz.func86,Tryz.ntmps86
 go_upto_region 1 with fail
 rw [← hw0]
 clear hw0
 go_wp2_with fail
 go_ret
 exact uh HR0
structure RaS (T : Nat) (w w0 : World) (A : Nat) (z : WS) (lab : Nat → Nat) (o : Opr) (N j g cap : Nat) (r : RG) : Prop where
 h0 : LwI T w0 A z lab
 hb : Below w.heap.size w w0
 bk : Bk w0 w.heap.size 61 [.int .i64 o.k,.int .i64 o.a,.int .i64 o.b,.int .i64 o.c,.string o.s,.string o.t]
 eN : N = z.rs.length
 jN : j < N
 hr : z.rs[j]? = some r
 c1 : w0.cell? ⟨A,1,none⟩ = some (.slice (some ⟨g,0,none⟩) N cap)
 x : w0.cell? ⟨g,j,none⟩ = some (.pointer (some ⟨r.E,0,none⟩))
 cN : N ≤ cap
 cM : cap ≤ 9223372036854775807
 pk : ∀ n,Calls Tryz.prog 83 #[.int .i64 o.a,.int .i64 N] (w0.drewN n) fun e w''=>e = .returned (.int .i64 (j : Nat)) ∧ ∃ m,w'' = w0.drewN m
theorem ras_of (h : LwI T w A z lab) (ho : o.Ok) (hT : T < 16384) (hN : z.rs.length ≠ 0) : ∃ N j g cap r,RaS T w (w.alloc (opB o)) A z lab o N j g cap r:=by
 have hb0 : Below w.heap.size w (w.alloc (opB o)):=below_boxQ w _
 have h0:=h.below hb0
 have h2:=h.b2
 have hjN : pkI o.a z.rs.length < z.rs.length:=pkI_lt (by omega)
 obtain ⟨r,hr⟩ : ∃ r,z.rs[pkI o.a z.rs.length]? = some r:=⟨_,List.getElem?_eq_getElem hjN⟩
 obtain ⟨g,cap,e,hc1,hc2,-,x⟩:=own_cell h0.rs (u:=ptrA r.E) (j:=pkI o.a z.rs.length) (by simp [hr])
 exact ⟨_,_,g,cap,r,h0,hb0,Bk.new w _ [_,_,_,_,_,_],rfl,hjN,hr,by rw [← e]; exact h0.bk.cell 1 rfl,x,hc1,hc2,fun n=>pick_quiet (by omega) (by omega) ho.a⟩
set_option maxRecDepth 100000 in
set_option maxHeartbeats 2000000 in
theorem ran_step (h : LwI T w A z lab) (ho : o.Ok) (hT : T < 16384) (hN : z.rs.length ≠ 0) (hk : o.k = 10) : Calls Tryz.prog 86 #[.pointer (some ⟨A,0,none⟩),o.v] w (RaPost T w A lab):=by
 obtain ⟨w0,hw0⟩ : ∃ w0,w0 = w.alloc (opB o):=⟨_,rfl⟩
 obtain ⟨N,j,g,cap,r,hS⟩:=ras_of h ho hT hN
 rw [← hw0] at hS
 have hN0 : ((N : Int) == 0) = false:=by have:=hS.jN; simp; omega
 have c1:=hS.c1
 have x:=hS.x
 have hjl : (j : Int) < (N : Int):=by have:=hS.jN; omega
 have hj0 : (0 : Int) ≤ (j : Int):=by omega
 have hcN:=hS.cN
 have hcM:=hS.cM
 have HPK:=hide hS.pk
 have q0 : w0.cell? ⟨w.heap.size,0,none⟩ = some (.int .i64 10):=by rw [← hk]; exact hS.bk.cell 0 rfl
 have q1:=hS.bk.cell 1 rfl
 have q2:=hS.bk.cell 2 rfl
 have q3:=hS.bk.cell 3 rfl
 have HST : Hid (∀ n ask,Calls Tryz.prog 136 #[.pointer (some ⟨r.E,0,none⟩),.int .i64 o.b,.bool ask] (w0.drewN n) (RaPost T w A lab)):=hide (fun n ask=>by
  have hn:=hS.h0.below (below_drewQ w0 n)
  obtain ⟨hR,hI,hF⟩:=hn.rn j r hS.hr
  refine (steps_any hR (fun k hk hm=>by have h1:=hI k hk; rw [hF k hm] at h1; omega) hT o.b ask).mono ?_
  rintro e w' ⟨rfl,r',hE,hi,hn',hs⟩
  obtain ⟨z',lab',hI',t⟩:=hn.goR hS.hr hE hi hn' hs
  exact ⟨rfl,StI.of hI' (((Tr.bw hS.hb lab).trans (Tr.bw (below_drewQ w0 n) lab)).trans t) (by simp; omega)⟩)
 unfold Opr.v
 unfold opB at hw0
 rw [hk] at hw0 ⊢
 clear h ho hN hS hk
 go_enter Tryz.func86,Tryz.ntmps86
 go_upto_region 1 with fail
 rw [← hw0]
 clear hw0
 go_upto_region 3 with fail
 go_quiet ((go_at_call 83; exact uh HPK _))
 go_wp2_with fail
 refine (uh HST _ _).mono ?_
 rintro e w2 ⟨rfl,hx⟩
 have HX:=hide hx
 clear hx HST
 go_wp2_with fail
 go_ret
 exact ⟨rfl,uh HX⟩
set_option maxRecDepth 100000 in
set_option maxHeartbeats 2000000 in
theorem ran_else (h : LwI T w A z lab) (ho : o.Ok) (hT : T < 16384) (hN : z.rs.length ≠ 0) (hk : o.k ≠ 10) (hk2 : o.k ≠ 11) : Calls Tryz.prog 86 #[.pointer (some ⟨A,0,none⟩),o.v] w (RaPost T w A lab):=by
 obtain ⟨w0,hw0⟩ : ∃ w0,w0 = w.alloc (opB o):=⟨_,rfl⟩
 obtain ⟨N,j,g,cap,r,hS⟩:=ras_of h ho hT hN
 rw [← hw0] at hS
 have hN0 : ((N : Int) == 0) = false:=by have:=hS.jN; simp; omega
 have c1:=hS.c1
 have x:=hS.x
 have hjl : (j : Int) < (N : Int):=by have:=hS.jN; omega
 have hj0 : (0 : Int) ≤ (j : Int):=by omega
 have hcN:=hS.cN
 have hcM:=hS.cM
 have HPK:=hide hS.pk
 have q0:=hS.bk.cell 0 rfl
 have q1:=hS.bk.cell 1 rfl
 have HR0 : Hid (∀ n,RaPost T w A lab (.returned (.bool true)) (w0.drewN n)):=hide (fun n=>⟨rfl,StI.of ((hS.h0.below (below_drewQ w0 n)).up (Nat.le_succ T)) ((Tr.bw hS.hb lab).trans (Tr.bw (below_drewQ w0 n) lab)) (by simp)⟩)
 have d10 : (o.k == 10) = false:=by simpa using hk
 have d11 : (o.k == 11) = false:=by simpa using hk2
 unfold Opr.v
 unfold opB at hw0
 clear h ho hN hS hk hk2
 go_enter Tryz.func86,Tryz.ntmps86
 go_upto_region 1 with fail
 rw [← hw0]
 clear hw0
 go_upto_region 3 with fail
 go_quiet ((go_at_call 83; exact uh HPK _))
 go_wp2_with fail
 go_ret
 exact uh HR0 _
end
section
variable {T A : Nat} {w : World} {z : WS} {lab : Nat → Nat} {o : Opr}
def lbS (w : World) (lab : Nat → Nat) (g1 g2 J : Nat) : Nat → Nat:=fun k=>if k < w.heap.size then lab k else if k = g1 then 7 + 3 * J else if k = g2 then 7 + 3 * (J + 1) else 0
theorem Tr.lbS {w' : World} (hb : Below w.heap.size w w') (lab : Nat → Nat) (g1 g2 J : Nat) : Tr w w' lab (lbS w lab g1 g2 J) []:=⟨hb.os,hb.tape,hb.output,hb.size,fun _ hk=>if_pos hk,fun k hk _=>hb.block k hk⟩
set_option maxRecDepth 100000 in
set_option maxHeartbeats 4000000 in
theorem ran_state (h : LwI T w A z lab) (ho : o.Ok) (hT : T < 16384) (hN : z.rs.length ≠ 0) (hk : o.k = 11) : Calls Tryz.prog 86 #[.pointer (some ⟨A,0,none⟩),o.v] w (RaPost T w A lab):=by
 obtain ⟨w0,hw0⟩ : ∃ w0,w0 = w.alloc (opB o):=⟨_,rfl⟩
 obtain ⟨N,j,g,cap,r,hS⟩:=ras_of h ho hT hN
 rw [← hw0] at hS
 have hN0 : ((N : Int) == 0) = false:=by have:=hS.jN; simp; omega
 have c1:=hS.c1
 have x:=hS.x
 have hjl : (j : Int) < (N : Int):=by have:=hS.jN; omega
 have hj0 : (0 : Int) ≤ (j : Int):=by omega
 have hcN:=hS.cN
 have hcM:=hS.cM
 have HPK:=hide hS.pk
 have q0 : w0.cell? ⟨w.heap.size,0,none⟩ = some (.int .i64 11):=by rw [← hk]; exact hS.bk.cell 0 rfl
 have q1:=hS.bk.cell 1 rfl
 have h4:=h.b4
 have HS:=hide hS
 unfold Opr.v
 unfold opB at hw0
 rw [hk] at hw0 ⊢
 clear h ho hN hS hk
 go_enter Tryz.func86,Tryz.ntmps86
 go_upto_region 1 with fail
 rw [← hw0]
 clear hw0
 go_upto_region 3 with fail
 go_quiet ((go_at_call 83; exact uh HPK _))
 obtain ⟨w1,hw1⟩ : ∃ w1,w1 = w0.drewN nq:=⟨_,rfl⟩
 rw [← hw1]
 have hb1 : Below w0.heap.size w0 w1:=by rw [hw1]; exact below_drewQ w0 nq
 have h1:=((uh HS).h0.below hb1).up (Nat.le_succ T)
 have p0:=((uh HS).bk.below hb1).cell 0 rfl
 obtain ⟨hR,-,-⟩:=h1.rn j r (uh HS).hr
 have HR:=hide hR
 have H1:=hide h1
 have HT1:=hide ((Tr.bw (uh HS).hb lab).trans (Tr.bw hb1 lab))
 have e1:=hR.bk.cell 1 rfl
 unfold ptrA at e1
 have hal:=hR.adl
 have HCL:=hide hR.csl
 have HLS:=hide (lstate_any hR.by' hR.mc (by have:=uh HCL; omega))
 have q0' : w1.cell? ⟨w.heap.size,0,none⟩ = some (.int .i64 11):=by rw [hw1]; exact q0
 clear hw1 hb1 h1 hR q0 q1 c1 x HPK p0
 go_wp2_with fail
 refine (uh HLS).mono ?_
 rintro e w2 ⟨g1,g2,rfl,hst,hb2⟩
 unfold stV
 obtain ⟨W2,hW2⟩ : ∃ W2,W2 = w2.alloc (.cells #[.int .i64 (r.m.nd : Int),.int .i64 (r.m.wh : Int),.slice (some ⟨g1,0,none⟩) r.m.st.length r.m.st.length,.slice (some ⟨g2,0,none⟩) (2 * r.m.cs.length) (2 * r.m.cs.length)] 68):=⟨_,rfl⟩
 have hw2 : Below w2.heap.size w2 W2:=by rw [hW2]; exact below_boxQ w2 _
 have hb12:=hb2.trans (hw2.mono hb2.size)
 have hn2 : Bk W2 w2.heap.size 68 [.int .i64 (r.m.nd : Int),.int .i64 (r.m.wh : Int),.slice (some ⟨g1,0,none⟩) r.m.st.length r.m.st.length,.slice (some ⟨g2,0,none⟩) (2 * r.m.cs.length) (2 * r.m.cs.length)]:=by rw [hW2]; exact Bk.new w2 _ [_,_,_,_]
 have hR2:=(uh HR).below hb12
 have e2:=hR2.bk.cell 2 rfl
 unfold ptrA at e2
 have HRS:=hide (rstate_any hR2.rc (by have:=hR2.pg.ns4; omega) (by omega) hR2.hok)
 have HST:=hide (hst.below hw2)
 have HB2:=hide hb12
 have HN2:=hide hn2
 have HG : Hid (w1.heap.size ≤ g1 ∧ w1.heap.size ≤ g2 ∧ g1 < w2.heap.size ∧ g2 < w2.heap.size):=hide ⟨(hst.r1.lt g1 rfl).1,(hst.r2.lt g2 rfl).1,(hst.r1.lt g1 rfl).2,(hst.r2.lt g2 rfl).2⟩
 rw [hW2] at e2 HRS
 have HW2:=hide hW2
 have hsz : w1.heap.size ≤ w2.heap.size:=hb2.size
 clear hst hb2 hw2 hb12 hn2 hR2 hW2 HLS e1
 go_wp2_with fail
 refine (uh HRS).mono ?_
 rintro e w3 ⟨sv,xv,rfl,hr1,hr2,hb3⟩
 rw [← uh HW2] at hr1 hr2 hb3
 obtain ⟨a1,k1,rfl⟩:=slice_of_own hr1
 obtain ⟨a2,k2,rfl⟩:=slice_of_own hr2
 obtain ⟨W3,hW3⟩ : ∃ W3,W3 = w3.alloc (.cells #[.int .i64 (r.r.nd : Int),.int .i64 (r.r.wh : Int),.slice a1 r.r.st.length k1,.slice a2 (2 * r.r.ad.length) k2] 68):=⟨_,rfl⟩
 have hw3 : Below w3.heap.size w3 W3:=by rw [hW3]; exact below_boxQ w3 _
 have hb23:=hb3.trans (hw3.mono hb3.size)
 have hn3:=(uh HN2).below hb23
 have x0:=hn3.cell 0 rfl
 have x1:=hn3.cell 1 rfl
 have x2:=hn3.cell 2 rfl
 have x3:=hn3.cell 3 rfl
 have hm:=(uh HR).mr
 have hfl:=flC_len r.m.cs
 have hst3:=(uh HST).below hb23
 have l1 : Lst W3 (.slice (some ⟨g1,0,none⟩) r.m.st.length r.m.st.length) 1 r.m.st.length (ints r.m.st):=Lst.of_own hst3.r1 (by have:=(uh HR).mc.ls; omega)
 have l2 : Lst W3 (.slice (some ⟨g2,0,none⟩) (2 * r.m.cs.length) (2 * r.m.cs.length)) 1 (flC r.m.cs).length (ints (flC r.m.cs)):=by
  rw [flC_ints,hfl]
  exact Lst.of_own hst3.r2 (by have:=uh HCL; omega)
 have l3 : Lst W3 (.slice a1 r.r.st.length k1) 1 r.m.st.length (ints r.m.st):=by
  rw [hm.st]
  exact Lst.of_own (own_bw hr1 hw3) (by have:=(uh HR).rc.ls; have:=(uh HR).pg.ns4; omega)
 have l4 : Lst W3 (.slice a2 (2 * r.r.ad.length) k2) 1 (flC r.m.cs).length (ints (flC r.m.cs)):=by
  have h2:=own_bw hr2 hw3
  rw [(uh HR).so] at h2
  rw [hfl,uh HCL]
  exact Lst.of_own h2 (by omega)
 have HSM:=hide (same_any (n:=r.m.nd) (h:=r.m.wh) l1 l2 l3 l4)
 rw [hW3] at x0 x1 x2 x3 HSM
 have HB13 : Hid (Below w1.heap.size w1 W3):=hide ((uh HB2).trans (hb23.mono (uh HB2).size))
 have HST3:=hide hst3
 have HN3:=hide hn3
 have HW3:=hide hW3
 rw [hm.nd,hm.wh] at HSM
 rw [hm.nd] at x0
 rw [hm.wh] at x1
 clear hr1 hr2 hb3 hw3 hb23 hn3 hm hfl hst3 l1 l2 l3 l4 hW3 HRS e2 HST HN2
 go_wp2_with fail
 refine (uh HSM).mono ?_
 rintro e w4 ⟨rfl,hb4⟩
 rw [← uh HW3] at hb4
 have hb14:=(uh HB13).trans (hb4.mono (uh HB13).size)
 have t14:=Tr.lbS hb14 lab g1 g2 z.ls.length
 have hI4:=(uh H1).keep t14
 have hst4:=(uh HST3).below hb4
 have hn4:=(uh HN3).below hb4
 have hG:=uh HG
 have v1 : Own w4 (lbS w1 lab g1 g2 z.ls.length) 3 1 r.m.st.length (.slice (some ⟨g1,0,none⟩) r.m.st.length r.m.st.length) (ints r.m.st) (7 + 3 * z.ls.length):=⟨own_le hst4.r1 (Nat.zero_le _),fun k hk=>by
  simp only [Value.ownBlock,Option.some.injEq] at hk
  subst hk
  unfold lbS
  rw [if_neg (by omega),if_pos rfl]⟩
 have v2 : Own w4 (lbS w1 lab g1 g2 z.ls.length) 3 1 (flC r.m.cs).length (.slice (some ⟨g2,0,none⟩) (2 * r.m.cs.length) (2 * r.m.cs.length)) (ints (flC r.m.cs)) (7 + 3 * (z.ls.length + 1)):=by
  rw [flC_ints,flC_len]
  refine ⟨own_le hst4.r2 (Nat.zero_le _),fun k hk=>?_⟩
  simp only [Value.ownBlock,Option.some.injEq] at hk
  subst hk
  unfold lbS
  rw [if_neg (by omega),if_neg (fun e=>hst4.ne e.symm),if_pos rfl]
 have lN : lbS w1 lab g1 g2 z.ls.length w2.heap.size = 0:=by
  unfold lbS
  rw [if_neg (by omega),if_neg (by omega),if_neg (by omega)]
 have y2:=hn4.cell 2 rfl
 have HK:=hide (keep_any hI4 v1 (by have:=(uh HR).mc.ls; omega) (by omega) (by omega))
 have HV2:=hide v2
 have HN4:=hide hn4
 have HLN:=hide lN
 have HT4:=hide ((uh HT1).trans t14)
 clear hb4 hb14 t14 hI4 hst4 hn4 hG v1 v2 lN HSM x0 x1 x2 x3
 go_wp2_with fail
 refine (uh HK).mono ?_
 rintro e w5 ⟨rfl,z5,lab5,h5,hz5,-,t5⟩
 have v5:=(uh HV2).tr t5 (by simp <;> omega)
 have bk5:=(uh HN4).of_eq (t5.eq _ (uh HN4).lt (by rw [uh HLN]; simp))
 have l5 : lab5 w2.heap.size = 0:=(t5.lb _ (uh HN4).lt).trans (uh HLN)
 have y3:=bk5.cell 3 rfl
 rw [← hz5] at v5
 have hfl:=flC_len r.m.cs
 have HK5:=hide (keep_any h5 v5 (by have:=uh HCL; omega) (by omega) (by omega))
 have HBk5:=hide bk5
 have HL5:=hide l5
 have HT5:=hide ((uh HT4).trans t5)
 clear h5 hz5 t5 v5 bk5 l5 hfl HK y2
 go_wp2_with fail
 refine (uh HK5).mono ?_
 rintro e w6 ⟨rfl,z6,lab6,h6,-,-,t6⟩
 have bk6:=(uh HBk5).of_eq (t6.eq _ (uh HBk5).lt (by rw [uh HL5]; simp))
 have u2:=bk6.cell 2 rfl
 have u3:=bk6.cell 3 rfl
 have HF : Hid (RaPost T w A lab (.returned (.bool true)) w6):=hide ⟨rfl,StI.of h6 ((uh HT5).trans t6) (by simp)⟩
 clear h6 t6 bk6 HK5 y3
 go_wp2_with fail
 go_ret
 exact uh HF
end
section
variable {T A : Nat} {w : World} {z : WS} {lab : Nat → Nat}
set_option maxRecDepth 100000 in
set_option maxHeartbeats 2000000 in
theorem still_any (h : LwI T w A z lab) : Calls Tryz.prog 88 #[.pointer (some ⟨A,0,none⟩)] w fun e w'=>e = .returned (.bool true) ∧ w' = w:=by
 have c5 : w.cell? ⟨A,5,none⟩ = some (.slice none 0 0):=h.bk.cell 5 rfl
 have c6 : w.cell? ⟨A,6,none⟩ = some (.slice none 0 0):=h.bk.cell 6 rfl
 clear h
 go_enter Tryz.func88,Tryz.ntmps88
 go_wp2_with fail
 go_loop [3] (fun i=>i = .int .i64 0) (fun _=>0)
 case atStart=>rfl
 case round =>
  obtain rfl:=hrel
  go_wp2_with fail
  go_loop [5] (fun i=>i = .int .i64 0) (fun _=>0)
  case atStart=>rfl
  case round =>
   obtain rfl:=hrel
   go_wp2_with fail
   go_ret
   exact ⟨rfl,rfl⟩
set_option maxRecDepth 100000 in
set_option maxHeartbeats 2000000 in
theorem looks_any (h : LwI T w A z lab) (hT : T ≤ 16384) : Calls Tryz.prog 58 #[.pointer (some ⟨A,0,none⟩)] w fun e w'=>e = .returned (.bool true) ∧ ∃ n,w' = w.drewN n:=by
 have h4:=h.b4
 obtain ⟨sa,sc,hs,-,-⟩:=own_slc h.ls.row
 have c3 : w.cell? ⟨A,3,none⟩ = some (.slice sa z.ls.length sc):=by rw [← hs]; exact h.bk.cell 3 rfl
 obtain ⟨ua,uc,hu,-,-⟩:=own_slc h.lw.row
 have c4 : w.cell? ⟨A,4,none⟩ = some (.slice ua z.ls.length uc):=by rw [← hu]; exact h.bk.cell 4 rfl
 have H:=hide h
 have HS:=hide hs
 have HU:=hide hu
 have HST : Hid (∀ n,Calls Tryz.prog 88 #[.pointer (some ⟨A,0,none⟩)] (w.drewN n) fun e w'=>e = .returned (.bool true) ∧ w' = w.drewN n):=hide (fun n=>still_any (h.below (below_drewQ w n)))
 clear h hs hu
 go_enter Tryz.func58,Tryz.ntmps58
 go_wp2_with fail
 go_loopw [3] (fun i wx=>∃ (k n : Nat),k ≤ z.ls.length ∧ i = .int .i64 k ∧ wx = w.drewN n) (fun i _=>z.ls.length - (intOf i).toNat)
 case atStart=>exact ⟨0,0,Nat.zero_le _,rfl,rfl⟩
 case round =>
  obtain ⟨k,n,hk,rfl,rfl⟩:=hrel
  by_cases hlt : k < z.ls.length
  ·have hd : decide ((k : Int) < (z.ls.length : Int)) = true:=by simp; omega
   obtain ⟨l,hl⟩ : ∃ l,z.ls[k]? = some l:=⟨_,List.getElem?_eq_getElem hlt⟩
   obtain ⟨gl,cap,e,hc1,hc2,-,x⟩:=own_cell (uh H).ls (u:=l.v) (j:=k) (by simp [hl])
   obtain ⟨gw,capw,ew,hw1,hw2,-,xu⟩:=own_cell (uh H).lw (u:=l.u) (j:=k) (by simp [hl])
   rw [uh HS] at e
   rw [uh HU] at ew
   simp only [Value.slice.injEq,true_and] at e ew
   obtain ⟨rfl,rfl⟩:=e
   obtain ⟨rfl,rfl⟩:=ew
   have hL:=(uh H).lc k l hl
   obtain ⟨va,vc,hv,-,-⟩:=own_slc hL.v.row
   obtain ⟨ua',uc',hu',-,-⟩:=own_slc hL.u.row
   have hle:=hL.le
   have HSI : Hid (∀ a m,Calls Tryz.prog 87 #[.slice va l.c.length vc,.slice ua' l.c.length uc'] (w.drewN (a + m)) fun e w''=>e = .returned (.bool true) ∧ ∃ j,w'' = w.drewN (a + j)):=hide (fun a m=>by
    have l1 : Lst w (.slice va l.c.length vc) 1 l.c.length (ints l.c):=by rw [← hv]; exact hL.v.lst (by omega)
    have l2 : Lst w (.slice ua' l.c.length uc') 1 l.c.length (ints l.c):=by rw [← hu']; exact hL.u.lst (by omega)
    exact (sameInts_any (l1.below (below_drewQ w (a + m))) (l2.below (below_drewQ w (a + m)))).mono (by rintro e w'' ⟨rfl,j,rfl⟩; exact ⟨by simp,m + j,by rw [World.drewN_drewN,Nat.add_assoc]⟩))
   rw [hv] at x
   rw [hu'] at xu
   have i1 : (0 : Int) ≤ (k : Int):=by omega
   have i2 : (k : Int) < (z.ls.length : Int):=by omega
   clear hL hv hu' hl
   go_wp2_with fail
   go_quiet ((go_at_call 87; exact uh HSI _ _))
   go_wp2_with fail
   go_roundw
   case rel=>exact ⟨k + 1,_,by omega,by go_num,rfl⟩
   case measure=>simp [intOf]; omega
  ·have hd : decide ((k : Int) < (z.ls.length : Int)) = false:=by simp; omega
   have HS1:=hide (uh HST n)
   go_wp2_with fail
   refine (uh HS1).mono ?_
   rintro e w' ⟨rfl,rfl⟩
   go_wp2_with fail
   go_ret
   exact ⟨rfl,n,rfl⟩
end
set_option maxRecDepth 100000 in
theorem open_long (x : ByteArray) (w : World) (P : Nat) (hlong : 240 < x.size) : Calls Tryz.prog 68 #[.pointer (some ⟨P,0,none⟩),.string x] w fun e w'=>e = .returned (.int .i64 1) ∧ w' = w:=by
 go_enter Tryz.func68,Tryz.ntmps68
 go_wp2_with fail
 go_ret
 exact ⟨rfl,rfl⟩
set_option maxRecDepth 100000 in
theorem read_long (s : ByteArray) (w : World) (hlong : 240 < s.size) : Calls Tryz.prog 46 #[.string s] w fun e w'=>e = .returned (.tuple #[.pointer none,.int .i64 1]) ∧ Below w.heap.size w w':=by
 have HB:=hide (below_boxQ w ini0)
 have HO:=hide (fun W P=>open_long s W P hlong)
 clear hlong
 go_enter Tryz.func46,Tryz.ntmps46
 go_wp2_with fail
 refine (uh HO _ _).mono ?_
 rintro e w1 ⟨rfl,rfl⟩
 go_wp2_with fail
 go_ret2
 exact ⟨rfl,uh HB⟩
set_option maxRecDepth 100000 in
theorem load_long (s : ByteArray) (w : World) (hlong : 240 < s.size) : Calls Tryz.prog 25 #[.string s] w fun e w'=>e = .returned (.tuple #[.pointer none,.int .i64 1]) ∧ Below w.heap.size w w':=by
 have HR:=hide (read_long s w hlong)
 clear hlong
 go_enter Tryz.func25,Tryz.ntmps25
 go_wp2_with fail
 refine (uh HR).mono ?_
 rintro e w1 ⟨rfl,hb⟩
 have HB:=hide hb
 clear hb
 go_wp2_with fail
 go_ret2
 exact ⟨rfl,uh HB⟩
theorem load_all (s : ByteArray) (w : World) :
  Calls Tryz.prog 25 #[.string s] w fun e w'=>Below w.heap.size w w' ∧
   ((rdE s.data.toList ≠ 0 ∧ e = .returned (.tuple #[.pointer none,.int .i64 (rdE s.data.toList)])) ∨
    (rdE s.data.toList = 0 ∧ ∃ X,e = .returned (.tuple #[.pointer (some ⟨X,0,none⟩),.int .i64 0]) ∧ IsL w.heap.size w' X (rdW s.data.toList) (rdS s.data.toList) (prA (rdW s.data.toList) ini))):=by
 by_cases hl : 240 < s.size
 ·have hE : rdE s.data.toList = 1:=rdE_long (by rw [size_toList]; exact hl)
  refine (load_long s w hl).mono ?_
  rintro e w' ⟨rfl,hb⟩
  exact ⟨hb,Or.inl ⟨by rw [hE]; decide,by rw [hE]; rfl⟩⟩
 ·exact load_any s w (by omega)
def LdPost (w : World) (e : Ending) (w' : World) : Prop :=
 Below w.heap.size w w' ∧ (e = .returned (.tuple #[.pointer none,.bool true]) ∨ ∃ p : PG,e = .returned (.tuple #[.pointer (some ⟨p.A,0,none⟩),.bool true]) ∧ Pg w' p ∧ ∀ k ∈ p.im,w.heap.size ≤ k)
set_option maxRecDepth 100000 in
set_option maxHeartbeats 1000000 in
theorem ld_bad (s : ByteArray) (w : World) (ask : Bool) (h0 : rdE s.data.toList ≠ 0) :
  Calls Tryz.prog 14 #[.string s,.int .i64 0,.bool ask] w (LdPost w):=by
 obtain ⟨n,hn⟩ : ∃ n,n = rdE s.data.toList:=⟨_,rfl⟩
 have HE:=hide (eqv_all s.data.toList).1
 have HN:=hide hn
 have hn0 : ((n : Int) == 0) = false:=by rw [← hn] at h0; simpa using h0
 clear h0 hn
 go_enter Tryz.func14,Tryz.ntmps14
 go_wp2_with fail
 refine (load_all s w).mono ?_
 rintro e w1 ⟨hb1,(⟨_,rfl⟩ | ⟨h,_⟩)⟩
 ·rw [← uh HN]
  have HB1:=hide hb1
  clear hb1
  go_wp2_with fail
  refine (rread_any s w1).mono ?_
  rintro e w2 ⟨hb2,(⟨_,rfl⟩ | ⟨h,_⟩)⟩
  ·rw [← uh HE,← uh HN]
   have HB2:=hide hb2
   clear hb2
   go_wp2_with fail
   go_ret2
   exact ⟨(uh HB1).trans ((uh HB2).mono (uh HB1).size),Or.inl (congrArg (fun b=>Ending.returned (.tuple #[.pointer none,.bool b])) (show ((n : Int) != 0) = true by simpa [bne] using hn0))⟩
  ·rw [← uh HE,← uh HN] at h
   simp [h] at hn0
 ·rw [← uh HN] at h
  simp [h] at hn0
set_option maxRecDepth 100000 in
set_option maxHeartbeats 1000000 in
theorem ld_good (s : ByteArray) (w : World) (ask : Bool) (h0 : rdE s.data.toList = 0) :
  Calls Tryz.prog 14 #[.string s,.int .i64 0,.bool ask] w (LdPost w):=by
 have HE:=hide (eqv_all s.data.toList)
 have H0:=hide h0
 have HOK:=hide (pgOk_of h0)
 clear h0
 go_enter Tryz.func14,Tryz.ntmps14
 go_wp2_with fail
 refine (load_all s w).mono ?_
 rintro e w1 ⟨hb1,(⟨h,_⟩ | ⟨_,X,rfl,hL⟩)⟩
 ·exact absurd (uh H0) h
 ·have HL:=hide hL
  have HB1:=hide hb1
  clear hL hb1
  go_wp2_with fail
  refine (rread_any s w1).mono ?_
  rintro e w2 ⟨hb2,(⟨h,_⟩ | ⟨_,Y,al,cl,hrs,rfl,hR⟩)⟩
  ·exact absurd ((uh HE).1.symm.trans (uh H0)) h
  ·have HQ:=hide ((uh HE).2 (uh H0) al cl hrs)
   have HL2:=hide ((uh HL).below hb2)
   have HR2:=hide hR
   have HRS:=hide hrs
   obtain ⟨vv,hv,pv,cv,hY,_,r1,_,_,r4⟩:=hR
   obtain ⟨a1,k1,rfl⟩:=slice_of_own r1
   obtain ⟨a4,k4,rfl⟩:=slice_of_own r4
   have HT : Hid (∀ w',Below w2.heap.size w2 w' → Calls Tryz.prog 27 #[.pointer (some ⟨X,0,none⟩)] w' fun e w''=>e = .returned (.string ⟨(jn (rrW s.data.toList)).toArray⟩) ∧ Below w2.heap.size w2 w''):=hide (fun w' hb=>(text_any ((uh HL2).below hb)).mono (by rintro e w'' ⟨rfl,n,rfl⟩; exact ⟨rfl,hb.trans ((below_drewN w' n).mono hb.size)⟩))
   have HV : Hid (∀ w',Below w2.heap.size w2 w' → Calls Tryz.prog 28 #[.pointer (some ⟨X,0,none⟩)] w' fun e w''=>e = .returned (.int .i64 ((nmV (rrW s.data.toList) (rrW s.data.toList).length).length : Nat)) ∧ Below w2.heap.size w2 w''):=hide (fun w' hb=>(vars_any ((uh HL2).below hb)).mono (by rintro e w'' ⟨rfl,n,rfl⟩; exact ⟨by rw [(uh HQ).1],hb.trans ((below_drewN w' n).mono hb.size)⟩))
   have HNO : Hid (∀ w',Below w2.heap.size w2 w' → Calls Tryz.prog 29 #[.pointer (some ⟨X,0,none⟩)] w' fun e w''=>e = .returned (.int .i64 ((cl.length : Int) + 1)) ∧ Below w2.heap.size w2 w''):=hide (fun w' hb=>(nodes_any ((uh HL2).below hb)).mono (by rintro e w'' ⟨rfl,n,rfl⟩; exact ⟨by rw [(uh HQ).2]; rfl,hb.trans ((below_drewN w' n).mono hb.size)⟩))
   obtain ⟨⟨q0,q1,q2,q3,q4⟩,-⟩:=cells5R hY
   have hYl : Y < w2.heap.size:=(Array.getElem?_eq_some_iff.1 hY).1
   have HB2 : Hid (Below w.heap.size w w2):=hide ((uh HB1).trans (hb2.mono (uh HB1).size))
   -- what stands of both programs,behind all that is asked of them
   have HP : Hid (∀ w5,Below w2.heap.size w2 w5 → LdPost w (.returned (.tuple #[.pointer (some ⟨w5.heap.size,0,none⟩),.bool true])) (w5.alloc (.cells #[ptrA X,ptrA Y,.int .i64 0,.bool false,.int .i64 2,.slice none 0 0,.slice none 0 0,.slice none 0 0] 59))):=hide (by
    intro w5 hb5
    have hbw:=(uh HB2).trans (hb5.mono (uh HB2).size)
    refine ⟨hbw.alloc hbw.size _,Or.inr ?_⟩
    obtain ⟨Q,hX,hXb,hC⟩:=(uh HL2).below hb5
    obtain ⟨vv,pv,nv,hcp,hcb⟩:=hC.cp
    obtain ⟨rv,rh,rp,rc,tx,hrp,hrb,-⟩:=(uh HR2).rp
    have hrp5:=hrp.below hb5
    obtain ⟨al',cl',hok⟩:=uh HOK
    have he:=hok.rr
    rw [uh HRS] at he
    cases he
    have hbb : Below w5.heap.size w5 (w5.alloc (.cells #[ptrA X,ptrA Y,.int .i64 0,.bool false,.int .i64 2,.slice none 0 0,.slice none 0 0,.slice none 0 0] 59)):=(Below.refl _ _).alloc (Nat.le_refl _) _
    have hX' : Bk w5 X 88 [ptrA Q,.pointer none]:=hX
    refine ⟨⟨w5.heap.size,X,Q,Y,s.data.toList,al,cl,.pointer none,vv,pv,nv,rv,rh,rp,rc,tx⟩,rfl,⟨hok,Bk.new w5 _ [_,_,_,_,_,_,_,_],hX'.below hbb,hcp.below hbb,hrp5.below hbb⟩,fun k hk=>?_⟩
    simp only [PG.im,List.mem_cons,List.mem_append] at hk
    rcases hk with rfl | rfl | hk | hk
    ·exact hbw.size
    ·exact hXb
    ·exact hcb k hk
    ·exact Nat.le_trans (uh HB1).size (hrb k hk))
   clear HB1 hb2 hrs hY r1 r4 HL HL2 HQ HE H0 HR2 HRS HOK HB2
   generalize (nmV (rrW s.data.toList) (rrW s.data.toList).length).length = nv at *
   generalize (⟨(jn (rrW s.data.toList)).toArray⟩ : ByteArray) = tx at *
   go_wp2_with fail
   refine (uh HT w2 (Below.refl _ _)).mono ?_
   rintro e w3 ⟨rfl,hb3⟩
   have HB3:=hide hb3
   clear hb3
   go_wp2_with fail
   refine (uh HV w3 (uh HB3)).mono ?_
   rintro e w4 ⟨rfl,hb4⟩
   have HB4:=hide hb4
   clear hb4
   go_wp2_with fail
   refine (uh HNO w4 (uh HB4)).mono ?_
   rintro e w5 ⟨rfl,hb5⟩
   have m0:=(hb5.cell (p:=⟨Y,0,none⟩) hYl).trans q0
   have m3:=(hb5.cell (p:=⟨Y,3,none⟩) hYl).trans q3
   have m4:=(hb5.cell (p:=⟨Y,4,none⟩) hYl).trans q4
   have HB5:=hide hb5
   clear hb5 q0 q1 q2 q3 q4 HT HV HNO HB3 HB4
   go_wp2_with fail
   go_ret2
   exact uh HP w5 (uh HB5)
theorem ld_any (s : ByteArray) (w : World) (ask : Bool) : Calls Tryz.prog 14 #[.string s,.int .i64 0,.bool ask] w (LdPost w):=by
 by_cases h0 : rdE s.data.toList = 0
 ·exact ld_good s w ask h0
 ·exact ld_bad s w ask h0
section
variable {T A : Nat} {w : World} {z : WS} {lab : Nat → Nat} {o : Opr}
theorem lists_any (h : LwI T w A z lab) (ho : o.Ok) (hT : T < 16384) (hk : 2 ≤ o.k ∧ o.k ≤ 8) : Calls Tryz.prog 80 #[.pointer (some ⟨A,0,none⟩),o.v] w (LiPost T w A lab):=by
 have : o.k = 2 ∨ o.k = 3 ∨ o.k = 4 ∨ o.k = 5 ∨ o.k = 6 ∨ o.k = 7 ∨ o.k = 8:=by omega
 rcases this with e | e | e | e | e | e | e
 ·exact ls_in h hT e
 ·exact ls_clear h e
 ·exact ls_new h hT e
 ·exact ls_nil h hT e
 ·exact ls_put h ho hT e
 ·exact ls_win h ho e
 ·exact ls_store h ho hT e
theorem ran_any (h : LwI T w A z lab) (ho : o.Ok) (hT : T < 16384) : Calls Tryz.prog 86 #[.pointer (some ⟨A,0,none⟩),o.v] w (RaPost T w A lab):=by
 by_cases hN : z.rs.length = 0
 ·exact ran_none h hN
 ·by_cases h1 : o.k = 10
  ·exact ran_step h ho hT hN h1
  ·by_cases h2 : o.k = 11
   ·exact ran_state h ho hT hN h2
   ·exact ran_else h ho hT hN h1 h2
theorem StI.from {w0 w' : World} {lab1 : Nat → Nat} {B : List Nat} (t : Tr w w0 lab lab1 B) (hB : 0 ∉ B) (h : StI T w0 A lab1 w') : StI T w A lab w':=by
 obtain ⟨z',lab',hI,C,hC,t2⟩:=h
 exact ⟨z',lab',hI,B ++ C,by simp [hB,hC],t.trans t2⟩
set_option maxRecDepth 100000 in
set_option maxHeartbeats 2000000 in
theorem step_own (h : LwI T w A z lab) (ho : o.Ok) (hT : T < 16384) (hk : 2 ≤ o.k ∧ o.k ≤ 8) : Calls Tryz.prog 57 #[.pointer (some ⟨A,0,none⟩),o.v] w (RaPost T w A lab):=by
 obtain ⟨w0,hw0⟩ : ∃ w0,w0 = w.alloc (opB o):=⟨_,rfl⟩
 have hb0 : Below w.heap.size w w0:=by rw [hw0]; exact below_boxQ w _
 have hbk : Bk w0 w.heap.size 61 [.int .i64 o.k,.int .i64 o.a,.int .i64 o.b,.int .i64 o.c,.string o.s,.string o.t]:=by rw [hw0]; exact Bk.new w _ [_,_,_,_,_,_]
 have HL : Hid (Calls Tryz.prog 80 #[.pointer (some ⟨A,0,none⟩),o.v] w0 fun e w'=>e = .returned (.bool true) ∧ StI (T + 1) w A lab w'):=hide ((lists_any (h.below hb0) ho hT hk).mono (by
  rintro e w' ⟨rfl,hs⟩
  exact ⟨rfl,hs.from (Tr.bw hb0 lab) (by simp)⟩))
 have q0:=hbk.cell 0 rfl
 have q1:=hbk.cell 1 rfl
 have q2:=hbk.cell 2 rfl
 have q3:=hbk.cell 3 rfl
 have q4:=hbk.cell 4 rfl
 have q5:=hbk.cell 5 rfl
 unfold Opr.v at HL ⊢
 unfold opB at hw0
 clear h ho hk hb0 hbk
 go_enter Tryz.func57,Tryz.ntmps57
 go_upto_region 1 with fail
 rw [← hw0]
 clear hw0
 go_wp2_with fail
 refine (uh HL).mono ?_
 rintro e w1 ⟨rfl,hs⟩
 have HS:=hide hs
 clear hs HL
 go_wp2_with fail
 go_ret
 exact ⟨rfl,uh HS⟩
set_option maxRecDepth 100000 in
set_option maxHeartbeats 2000000 in
theorem step_ran (h : LwI T w A z lab) (ho : o.Ok) (hT : T < 16384) (hk : ¬ (2 ≤ o.k ∧ o.k ≤ 8)) (h1 : o.k ≠ 1) (h9 : o.k ≠ 9) (h12 : o.k ≠ 12) (h13 : o.k ≠ 13) : Calls Tryz.prog 57 #[.pointer (some ⟨A,0,none⟩),o.v] w (RaPost T w A lab):=by
 obtain ⟨w0,hw0⟩ : ∃ w0,w0 = w.alloc (opB o):=⟨_,rfl⟩
 have hb0 : Below w.heap.size w w0:=by rw [hw0]; exact below_boxQ w _
 have hbk : Bk w0 w.heap.size 61 [.int .i64 o.k,.int .i64 o.a,.int .i64 o.b,.int .i64 o.c,.string o.s,.string o.t]:=by rw [hw0]; exact Bk.new w _ [_,_,_,_,_,_]
 have HL:=hide (ls_other (A:=A) (w:=w0) hk)
 have HRN : Hid (∀ w1,Below w0.heap.size w0 w1 → Calls Tryz.prog 86 #[.pointer (some ⟨A,0,none⟩),o.v] w1 fun e w'=>e = .returned (.bool true) ∧ StI (T + 1) w A lab w'):=hide (fun w1 hb1=>(ran_any ((h.below hb0).below hb1) ho hT).mono (by
  rintro e w' ⟨rfl,hs⟩
  exact ⟨rfl,hs.from ((Tr.bw hb0 lab).trans (Tr.bw hb1 lab)) (by simp)⟩))
 have q0:=hbk.cell 0 rfl
 have q1:=hbk.cell 1 rfl
 have q2:=hbk.cell 2 rfl
 have q3:=hbk.cell 3 rfl
 have q4:=hbk.cell 4 rfl
 have q5:=hbk.cell 5 rfl
 have d1 : (o.k == 1) = false:=by simpa using h1
 have d9 : (o.k == 9) = false:=by simpa using h9
 have d12 : (o.k == 12) = false:=by simpa using h12
 have d13 : (o.k == 13) = false:=by simpa using h13
 have HBK:=hide hbk
 unfold Opr.v at HL HRN ⊢
 unfold opB at hw0
 clear h ho hk hb0 hbk h1 h9 h12 h13
 go_enter Tryz.func57,Tryz.ntmps57
 go_upto_region 1 with fail
 rw [← hw0]
 clear hw0
 go_wp2_with fail
 refine (uh HL).mono ?_
 rintro e w1 ⟨rfl,hb1⟩
 have hbk1:=(uh HBK).below hb1
 have p0:=hbk1.cell 0 rfl
 have p1:=hbk1.cell 1 rfl
 have p2:=hbk1.cell 2 rfl
 have p3:=hbk1.cell 3 rfl
 have p4:=hbk1.cell 4 rfl
 have p5:=hbk1.cell 5 rfl
 have HR:=hide (uh HRN w1 hb1)
 clear hb1 hbk1 HL HRN q0 q1 q2 q3 q4 q5
 go_wp2_with fail
 refine (uh HR).mono ?_
 rintro e w2 ⟨rfl,hs⟩
 have HS:=hide hs
 clear hs HR
 go_wp2_with fail
 go_ret
 exact ⟨rfl,uh HS⟩
end
end Go.Proofs.YtciihepbeacppaaGreat
