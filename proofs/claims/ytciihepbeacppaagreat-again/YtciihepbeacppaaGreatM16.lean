import Derived.Test.YtciihepbeacppaaGreatM12
import Derived.Test.YtciihepbeacppaaGreatM15
namespace Go.Proofs.YtciihepbeacppaaGreat
open Go.RowKit
set_option linter.unusedVariables false
section
variable {w:World} {v1 v2:Value} {l1 l2:List Pr}
set_option maxRecDepth 100000 in
set_option maxHeartbeats 4000000 in
theorem alike_any (h1:w.ownsRow 0 182 3 v1 l1.length (prCells l1)) (h2:w.ownsRow 0 182 3 v2 l2.length (prCells l2)) (hl:l1.length≤100000) (hl2:l2.length≤100000):Calls Tryz.prog 267 #[v1,v2] w fun e w'=>e = .returned (.bool (prE' l1 l2))∧∃ n,w' = w.drewN n:=by
 obtain ⟨a1,c1,hv1,-,-⟩:=own_slc h1
 subst hv1
 obtain ⟨a2,c2,hv2,-,-⟩:=own_slc h2
 subst hv2
 by_cases hll:l1.length = l2.length
 ·have d0:((l1.length:Int) != (l2.length:Int)) = false:=by simp [hll]
  have HLL:=hide hll
  obtain ⟨B,hB⟩:∃ B,B = prE' l1 l2:=⟨_,rfl⟩
  have HB:=hide hB
  rw [← hB]
  have H1:=hide h1
  have H2:=hide h2
  have HI0:Hid ((∃ n,w = w.drewN n)∧∀ i,i < 0→prE (l1.getD i pr0) (l2.getD i pr0) = true):=hide ⟨⟨0,rfl⟩,fun i hi=>by omega⟩
  clear h1 h2 hB hll
  go_enter Tryz.func267,Tryz.ntmps267
  go_wp2_with fail
  go_loopw [5] (fun iv wx=>∃ (k:Nat),k≤l1.length∧iv = .int .i64 k∧Hid ((∃ n,wx = w.drewN n)∧∀ i,i < k→prE (l1.getD i pr0) (l2.getD i pr0) = true)) (fun iv _=>l1.length - (intOf iv).toNat)
  case atStart=>exact ⟨0,Nat.zero_le _,rfl,HI0⟩
  case round =>
   clear HI0
   obtain ⟨k,hk,rfl,hI⟩:=hrel
   obtain ⟨n0,hn0⟩:=(uh hI).1
   subst hn0
   by_cases hlt:k < l1.length
   ·have hd:decide ((k:Int) < (l1.length:Int)) = true:=by simp;omega
    have hlt2:k < l2.length:=by have:=uh HLL;omega
    obtain ⟨g1,cap1,hg1,-,-⟩:=own_formP (uh H1) hlt
    simp only [Value.slice.injEq,true_and] at hg1
    obtain ⟨rfl,rfl⟩:=hg1
    obtain ⟨g2,cap2,hg2,-,-⟩:=own_formP (uh H2) hlt2
    simp only [Value.slice.injEq,true_and] at hg2
    obtain ⟨rfl,rfl⟩:=hg2
    obtain ⟨x0,x1,x2⟩:=own_cells (uh H1) hlt
    obtain ⟨y0,y1,y2⟩:=own_cells (uh H2) hlt2
    obtain ⟨p,hp⟩:∃ p,p = l1.getD k pr0:=⟨_,rfl⟩
    obtain ⟨q,hq⟩:∃ q,q = l2.getD k pr0:=⟨_,rfl⟩
    rw [← hp] at x0 x1 x2
    rw [← hq] at y0 y1 y2
    have hgd:=guardP
    have hneq:∀ W:World,(binOp .neq 182 (.agg #[.int .i64 (p.k:Int),.int .i64 (p.l:Int),.int .i64 (p.r:Int)]) (.agg #[.int .i64 (q.k:Int),.int .i64 (q.l:Int),.int .i64 (q.r:Int)])).run Tryz.prog W = .ok (.bool (!prE p q)) W:=fun W=>by rw [neqP,prE_int]
    have HPQ:Hid (prE p q = prE (l1.getD k pr0) (l2.getD k pr0)):=hide (by rw [hp,hq])
    have i1:(0:Int)≤(k:Int):=by omega
    have i2:(k:Int) < (l1.length:Int):=by omega
    have i3:(k:Int) < (l2.length:Int):=by omega
    clear hp hq
    cases hpq:prE p q
    ·rw [hpq] at hneq HPQ
     rw [show (!false) = true from rfl] at hneq
     have HF:Hid (B = false):=hide (by
      rw [uh HB]
      unfold prE'
      rw [Bool.and_eq_false_iff]
      right
      rw [List.all_eq_false]
      exact ⟨k,List.mem_range.2 hlt,by rw [← uh HPQ];simp⟩)
     clear hpq
     go_wp2_with fail
     go_quiet (fail)
     go_wp2_with fail
     go_ret
     exact ⟨ret_bool (uh HF).symm,_,World.drewN_drewN _ _ _⟩
    ·rw [hpq] at hneq HPQ
     rw [show (!true) = false from rfl] at hneq
     clear hpq
     go_wp2_with fail
     go_quiet (fail)
     go_wp2_with fail
     go_roundw
     case rel=>exact ⟨k + 1,by omega,by go_num,hide ⟨⟨_,rfl⟩,fun i hi=>by
      by_cases e:i = k
      ·rw [e];exact (uh HPQ).symm
      ·exact (uh hI).2 i (by omega)⟩⟩
     case measure=>simp [intOf];omega
   ·have hd:decide ((k:Int) < (l1.length:Int)) = false:=by simp;omega
    have HT:Hid (B = true):=hide (by
     rw [uh HB]
     unfold prE'
     rw [Bool.and_eq_true,List.all_eq_true]
     exact ⟨by simpa using uh HLL,fun i hi=>(uh hI).2 i (by have:=List.mem_range.1 hi;omega)⟩)
    go_wp2_with fail
    go_ret
    exact ⟨ret_bool (uh HT).symm,n0,rfl⟩
 ·have d0:((l1.length:Int) != (l2.length:Int)) = true:=by rw [bne_iff_ne];omega
  have HF:Hid (prE' l1 l2 = false):=hide (by unfold prE';simp [hll])
  clear h1 h2
  go_enter Tryz.func267,Tryz.ntmps267
  go_wp2_with fail
  go_ret
  exact ⟨ret_bool (uh HF).symm,0,rfl⟩
end
theorem eqC_in (a b c d e a' b' c' d' e':Int) (w:World):(Op.equalIn 10000 176 (.agg #[.int .i64 a,.int .i64 b,.int .i64 c,.int .i64 d,.int .i64 e]) (.agg #[.int .i64 a',.int .i64 b',.int .i64 c',.int .i64 d',.int .i64 e'])).run Tryz.prog w = .ok (a == a' && (b == b' && (c == c' && (d == d' && e == e')))) w:=by
 have u3:=Tryz.underlying3
 have a3:=Tryz.isAgg3
 have z3:=Tryz.sizeOf3
 rw [show (10000:Nat) = 9999 + 1 from rfl,Op.equalIn]
 simp only [Sem.run_bind,run_underlying Tryz.underlying176,Result.andThen_ok]
 simp only [Std.Legacy.Range.forIn_eq_forIn_range',Std.Legacy.Range.size,Nat.sub_zero,Nat.add_sub_cancel,Nat.div_one,List.range'_succ,List.range'_zero,List.forIn_cons,List.forIn_nil]
 go_simp
 by_cases h1:a = a' <;> by_cases h2:b = b' <;> by_cases h3:c = c' <;> by_cases h4:d = d' <;> by_cases h5:e = e' <;> simp [h1,h2,h3,h4,h5]
theorem eqlC (a b c d e a' b' c' d' e':Int) (w:World):(binOp .eql 176 (.agg #[.int .i64 a,.int .i64 b,.int .i64 c,.int .i64 d,.int .i64 e]) (.agg #[.int .i64 a',.int .i64 b',.int .i64 c',.int .i64 d',.int .i64 e'])).run Tryz.prog w = .ok (.bool (a == a' && (b == b' && (c == c' && (d == d' && e == e'))))) w:=by
 rw [run_eql_struct,eqC_in]
 rfl
theorem guardC:Tryz.prog.eqGuardType Tryz.prog.depth 176 = false:=by kernel_rfl
theorem clL_dec (f g:CF):((f.cl.getD 0 0:Int) == (g.cl.getD 0 0:Int) && ((f.cl.getD 1 0:Int) == (g.cl.getD 1 0:Int) && ((f.cl.getD 2 0:Int) == (g.cl.getD 2 0:Int) && ((f.cl.getD 3 0:Int) == (g.cl.getD 3 0:Int) && (f.cl.getD 4 0:Int) == (g.cl.getD 4 0:Int))))) = decide (clL f = clL g):=by
 unfold clL
 rw [nat_beq,nat_beq,nat_beq,nat_beq,nat_beq]
 simp only [List.cons.injEq,and_true,Bool.decide_and]
section
variable {w:World} {A A':Nat} {f f':CF} {av ov av' ov':Value}
set_option maxRecDepth 100000 in
set_option maxHeartbeats 4000000 in
theorem same_any (h:IsF w A f av ov) (h':IsF w A' f' av' ov') (ha:f.ap.length≤100000) (ho:f.ow.length≤100000) (ha':f'.ap.length≤100000) (ho':f'.ow.length≤100000):Calls Tryz.prog 263 #[.pointer (some ⟨A,0,none⟩),.pointer (some ⟨A',0,none⟩)] w fun e w'=>e = .returned (.bool (saB f f'))∧Below w.heap.size w w':=by
 have HA1:Hid (∀ m:Nat,Calls Tryz.prog 267 #[av,av'] (w.drewN m) fun e w'=>e = .returned (.bool (prE' f.ap f'.ap))∧∃ j,w' = w.drewN j):=hide (fun m=>(alike_any (w:=w.drewN m) h.ap h'.ap ha ha').mono (fun e w' hw=>⟨hw.1,by obtain ⟨n,rfl⟩:=hw.2;exact ⟨_,World.drewN_drewN _ _ _⟩⟩))
 have HA2:Hid (∀ m:Nat,Calls Tryz.prog 267 #[ov,ov'] (w.drewN m) fun e w'=>e = .returned (.bool (prE' f.ow f'.ow))∧∃ j,w' = w.drewN j):=hide (fun m=>(alike_any (w:=w.drewN m) h.ow h'.ow ho ho').mono (fun e w' hw=>⟨hw.1,by obtain ⟨n,rfl⟩:=hw.2;exact ⟨_,World.drewN_drewN _ _ _⟩⟩))
 obtain ⟨oa,oc,hov,-,-⟩:=own_slc h.ow
 subst hov
 obtain ⟨aa,ac,hav,-,-⟩:=own_slc h.ap
 subst hav
 obtain ⟨oa',oc',hov',-,-⟩:=own_slc h'.ow
 subst hov'
 obtain ⟨aa',ac',hav',-,-⟩:=own_slc h'.ap
 subst hav'
 have p0:=h.cls (i:=0) (by omega)
 have p1:=h.cls (i:=1) (by omega)
 have p2:=h.cls (i:=2) (by omega)
 have p3:=h.cls (i:=3) (by omega)
 have p4:=h.cls (i:=4) (by omega)
 have p5:=h'.cls (i:=0) (by omega)
 have p6:=h'.cls (i:=1) (by omega)
 have p7:=h'.cls (i:=2) (by omega)
 have p8:=h'.cls (i:=3) (by omega)
 have p9:=h'.cls (i:=4) (by omega)
 have pa:=h.c5
 have pb:=h'.c5
 have pc:=h.c6
 have pd:=h'.c6
 have hcd:=clL_dec f f'
 have hsa:saB f f' = (decide (clL f = clL f') && prE' f.ap f'.ap && prE' f.ow f'.ow):=rfl
 have HSA:=hide hsa
 have hgd:=guardC
 have heq:∀ W:World,(binOp .eql 176 (.agg #[clV f 0,clV f 1,clV f 2,clV f 3,clV f 4]) (.agg #[clV f' 0,clV f' 1,clV f' 2,clV f' 3,clV f' 4])).run Tryz.prog W = .ok (.bool (decide (clL f = clL f'))) W:=fun W=>by unfold clV;rw [eqlC,hcd]
 obtain ⟨B,hB⟩:∃ B,B = saB f f':=⟨_,rfl⟩
 rw [← hB] at HSA ⊢
 clear hsa hcd h h' hB
 obtain ⟨bc,hbc⟩:∃ b,b = decide (clL f = clL f'):=⟨_,rfl⟩
 obtain ⟨b1,hb1⟩:∃ b,b = prE' f.ap f'.ap:=⟨_,rfl⟩
 obtain ⟨b2,hb2⟩:∃ b,b = prE' f.ow f'.ow:=⟨_,rfl⟩
 rw [← hbc] at heq
 rw [← hb1] at HA1
 rw [← hb2] at HA2
 rw [← hbc,← hb1,← hb2] at HSA
 clear hbc hb1 hb2
 go_enter Tryz.func263,Tryz.ntmps263
 go_upto_region 1 with fail
 cases bc
 ·go_quiet (fail)
  go_wp2_with fail
  go_ret
  exact ⟨ret_bool (uh HSA).symm,⟨rfl,rfl,rfl,Nat.le_refl _,fun _ _=>rfl⟩⟩
 ·cases b1
  ·go_quiet ((go_at_call 267;exact uh HA1 _))
   go_wp2_with fail
   go_ret
   exact ⟨ret_bool (uh HSA).symm,⟨rfl,rfl,rfl,Nat.le_refl _,fun _ _=>rfl⟩⟩
  ·go_quiet (first | (go_at_call 267;with_reducible exact uh HA1 _) | (go_at_call 267;with_reducible exact uh HA2 _))
   go_wp2_with fail
   go_ret
   exact ⟨ret_bool (by rw [uh HSA];rfl),⟨rfl,rfl,rfl,Nat.le_refl _,fun _ _=>rfl⟩⟩
end
structure FE where
 A:Nat
 f:CF
 av:Value
 ov:Value
def FE.bs (x:FE):List Nat:=bsF x.A x.av x.ov
def FE.p (x:FE):Value:=.pointer (some ⟨x.A,0,none⟩)
def flF (v:Value) (L:List FE):List Nat:=v.ownBlock.toList ++ L.flatMap FE.bs
structure Fl (w:World) (B:Nat) (v:Value) (L:List FE):Prop where
 row:w.ownsRow B 126 1 v L.length (L.map FE.p)
 fm:∀ x∈L,Fm w x.A x.f x.av x.ov
 ge:∀ x∈L,∀ k∈x.bs,B≤k
 nd:(flF v L).Nodup
theorem Tryz.infoPF:(Tryz.prog.info? 126).map (fun i=>(i.zero,i.size,i.bytes)) = some (some (.pointer none),1,8):=by kernel_rfl
section
variable {w w' w1:World} {B:Nat} {v:Value} {L:List FE}
theorem Fl.lt (h:Fl w B v L):∀ k∈flF v L,k < w.heap.size:=by
 intro k hk
 rcases List.mem_append.1 hk with hk | hk
 ·exact (h.row.lt k (by simpa using hk)).2
 ·obtain ⟨x,hx,hk⟩:=List.mem_flatMap.1 hk
  exact (h.fm x hx).lt k hk
theorem Fl.geB (h:Fl w B v L):∀ k∈flF v L,B≤k:=by
 intro k hk
 rcases List.mem_append.1 hk with hk | hk
 ·exact (h.row.lt k (by simpa using hk)).1
 ·obtain ⟨x,hx,hk⟩:=List.mem_flatMap.1 hk
  exact h.ge x hx k hk
theorem Fl.of_eq (h:Fl w B v L) (he:∀ k∈flF v L,w'.heap[k]? = w.heap[k]?):Fl w' B v L :=
 ⟨ownsRow_of_eq h.row (fun k hk=>he k (List.mem_append_left _ (by simpa using hk))),fun x hx=>(h.fm x hx).of_eq (fun k hk=>he k (List.mem_append_right _ (List.mem_flatMap.2 ⟨x,hx,hk⟩))),h.ge,h.nd⟩
theorem Fl.stp {F F':List Nat} (h:Fl w B v L) (hs:Stp F w F' w') (hd:∀ k∈flF v L,k ∉ F):Fl w' B v L:=h.of_eq (fun k hk=>hs.block k (h.lt k hk) (hd k hk))
theorem Fl.below (h:Fl w B v L) (hb:Below w.heap.size w w'):Fl w' B v L:=h.of_eq (fun k hk=>hb.block k (h.lt k hk))
theorem Fl.nil0 (w:World) (B:Nat):Fl w B (.slice none 0 0) []:=⟨⟨rfl,.inl ⟨rfl,rfl⟩⟩,fun x hx=>by simp at hx,fun x hx=>by simp at hx,by simp [flF,Value.ownBlock]⟩
theorem Fl.app {g1 c1:Nat} {o:Obj} {x:FE} (h:Fl w B v L) (hx:Fm w x.A x.f x.av x.ov) (hB:∀ k∈x.bs,B≤k) (hd:∀ k∈x.bs,k ∉ flF v L) (hBw:B≤w.heap.size)
  (hown:w1.ownsRow B 126 1 (.slice (some ⟨g1,0,none⟩) (L.length + 1) c1) (L.length + 1) (L.map FE.p ++ [x.p])) (hg:(w.alloc o).grownBy w1 v.ownBlock) (hblk:some g1 = v.ownBlock∨g1 = (w.alloc o).heap.size) :
  Fl w1 B (.slice (some ⟨g1,0,none⟩) (L.length + 1) c1) (L ++ [x])∧Stp v.ownBlock.toList w [g1] w1∧(∀ k∈flF (.slice (some ⟨g1,0,none⟩) (L.length + 1) c1) (L ++ [x]),k∈flF v L∨k∈x.bs∨w.heap.size≤k):=by
 have hs:=stp_grow hg hblk
 have hnd:=h.nd
 unfold flF at hnd
 rw [List.nodup_append] at hnd
 have key:∀ y:FE,Fm w y.A y.f y.av y.ov→(∀ k∈y.bs,v.ownBlock≠some k)→Fm w1 y.A y.f y.av y.ov:=fun y hy hv=>hy.of_eq (fun k hk=>hs.block k (hy.lt k hk) (by simpa using hv k hk))
 have hg1:∀ k∈(L ++ [x]).flatMap FE.bs,g1≠k:=by
  intro k hk e
  subst e
  have hlt:g1 < w.heap.size:=by
   obtain ⟨y,hy,hk'⟩:=List.mem_flatMap.1 hk
   rcases List.mem_append.1 hy with hy | hy
   ·exact (h.fm y hy).lt _ hk'
   ·rw [List.mem_singleton] at hy;subst hy;exact hx.lt _ hk'
  rcases hblk with e | e
  ·rw [List.flatMap_append,List.mem_append] at hk
   rcases hk with hk | hk
   ·exact hnd.2.2 g1 (by rw [← e];simp) g1 hk rfl
   ·simp only [List.flatMap_cons,List.flatMap_nil,List.append_nil] at hk
    exact hd g1 hk (List.mem_append_left _ (by rw [← e];simp))
  ·rw [e] at hlt
   simp at hlt
   omega
 refine ⟨⟨?_,?_,?_,?_⟩,hs,?_⟩
 ·rw [List.length_append,List.length_singleton,List.map_append];exact hown
 ·intro y hy
  rcases List.mem_append.1 hy with hy | hy
  ·exact key y (h.fm y hy) (fun k hk e=>hnd.2.2 k (by rw [e];simp) k (List.mem_flatMap.2 ⟨y,hy,hk⟩) rfl)
  ·rw [List.mem_singleton] at hy;subst hy
   exact key y hx (fun k hk e=>hd k hk (List.mem_append_left _ (by rw [e];simp)))
 ·intro y hy
  rcases List.mem_append.1 hy with hy | hy
  ·exact h.ge y hy
  ·rw [List.mem_singleton] at hy;subst hy;exact hB
 ·show ([g1] ++ (L ++ [x]).flatMap FE.bs).Nodup
  rw [List.nodup_append]
  refine ⟨by simp,?_,fun a ha b hb e=>hg1 b hb (by rw [List.mem_singleton] at ha;rw [← ha];exact e)⟩
  rw [List.flatMap_append,List.nodup_append]
  refine ⟨hnd.2.1,by simpa [FE.bs] using hx.nd,?_⟩
  intro a ha b hb e
  simp only [List.flatMap_cons,List.flatMap_nil,List.append_nil] at hb
  subst e
  exact hd a hb (List.mem_append_right _ ha)
 ·intro k hk
  rcases List.mem_append.1 hk with hk | hk
  ·have e:k = g1:=by simpa [Value.ownBlock,eq_comm] using hk
   subst e
   rcases hblk with e | e
   ·exact Or.inl (List.mem_append_left _ (by rw [← e];simp))
   ·right;right;rw [e];simp
  ·rw [List.flatMap_append,List.mem_append] at hk
   rcases hk with hk | hk
   ·exact Or.inl (List.mem_append_right _ hk)
   ·simp only [List.flatMap_cons,List.flatMap_nil,List.append_nil] at hk
    exact Or.inr (Or.inl hk)
end
section
variable {w:World} {A:Nat} {f:CF} {av ov:Value}
set_option maxRecDepth 100000 in
set_option maxHeartbeats 2000000 in
theorem class_any (h:IsF w A f av ov) (k i:Nat) (hi:i < 4):Calls Tryz.prog 236 #[.pointer (some ⟨A,0,none⟩),.agg #[.int .i64 k,.int .i64 i]] w fun e w'=>e = .returned (.int .i64 (clT f k i:Nat))∧Below w.heap.size w w':=by
 obtain ⟨W1,hW1⟩:∃ W1,W1 = w.alloc (.cells #[Value.int .i64 (k:Int),.int .i64 (i:Int)] 184):=⟨_,rfl⟩
 have hbx:Below w.heap.size w W1:=by rw [hW1];exact below_boxQ w _
 have hX:Bk W1 w.heap.size 184 [Value.int .i64 (k:Int),.int .i64 (i:Int)]:=by rw [hW1];exact Bk.new w _ _
 have b0:=hX.cell 0 rfl
 have b1:=hX.cell 1 rfl
 have x0:=(h.below hbx).cls (i:=0) (by omega)
 have x1:=(h.below hbx).cls (i:=1 + i) (by omega)
 unfold clV at x0 x1
 obtain ⟨c,hc⟩:∃ c,c = clT f k i:=⟨_,rfl⟩
 rw [← hc]
 have HB:=hide hbx
 have i1:(0:Int)≤1 + (i:Int):=by omega
 have i2:1 + (i:Int) < 5:=by omega
 have i3:(1 + (i:Int)).toNat = 1 + i:=by omega
 obtain ⟨c0,hc0⟩:∃ c0,c0 = f.cl.getD 0 0:=⟨_,rfl⟩
 obtain ⟨c1,hc1⟩:∃ c1,c1 = f.cl.getD (1 + i) 0:=⟨_,rfl⟩
 rw [← hc0] at x0
 rw [← hc1] at x1
 unfold clT at hc
 rw [← hc0,← hc1] at hc
 by_cases hk:k = 1
 ·have d0:((k:Int) == 1) = true:=by simp [hk]
  rw [if_pos hk] at hc
  have HC:=hide hc
  clear h hbx hX hc hk hc0 hc1
  go_enter Tryz.func236,Tryz.ntmps236
  go_upto_region 1 with fail
  rw [← hW1]
  clear hW1
  go_wp2_with fail
  go_quiet (fail)
  go_wp2_with fail
  go_ret
  exact ⟨by rw [uh HC];rfl,⟨(uh HB).os,(uh HB).tape,(uh HB).output,(uh HB).size,(uh HB).block⟩⟩
 ·have d0:((k:Int) == 1) = false:=by simp;omega
  rw [if_neg hk] at hc
  have HC:=hide hc
  clear h hbx hX hc hk hc0 hc1
  go_enter Tryz.func236,Tryz.ntmps236
  go_upto_region 1 with fail
  rw [← hW1]
  clear hW1
  go_wp2_with fail
  go_ret
  exact ⟨by rw [uh HC];rfl,uh HB⟩
end
structure Oo (w:World) (O:Nat) (nu da fu:Bool) (nv tv:Value) (Ln Lt:List FE):Prop where
 bk:Bk w O 280 [nv,tv,.bool nu,.bool da,.bool fu]
 nx:Fl w 0 nv Ln
 ot:Fl w 0 tv Lt
 nd:(O :: (flF nv Ln ++ flF tv Lt)).Nodup
def fpO (O:Nat) (nv tv:Value) (Ln Lt:List FE):List Nat:=O :: (flF nv Ln ++ flF tv Lt)
section
variable {w w':World} {O:Nat} {nu da fu:Bool} {nv tv:Value} {Ln Lt:List FE}
theorem Oo.lt (h:Oo w O nu da fu nv tv Ln Lt):∀ k∈fpO O nv tv Ln Lt,k < w.heap.size:=by
 intro k hk
 rcases List.mem_cons.1 hk with rfl | hk
 ·exact h.bk.lt
 ·rcases List.mem_append.1 hk with hk | hk
  ·exact h.nx.lt k hk
  ·exact h.ot.lt k hk
theorem Oo.of_eq (h:Oo w O nu da fu nv tv Ln Lt) (he:∀ k∈fpO O nv tv Ln Lt,w'.heap[k]? = w.heap[k]?):Oo w' O nu da fu nv tv Ln Lt :=
 ⟨h.bk.of_eq (he O (by simp [fpO])),h.nx.of_eq (fun k hk=>he k (by simp only [fpO,List.mem_cons,List.mem_append];exact Or.inr (Or.inl hk))),h.ot.of_eq (fun k hk=>he k (by simp only [fpO,List.mem_cons,List.mem_append];exact Or.inr (Or.inr hk))),h.nd⟩
theorem Oo.stp {F F':List Nat} (h:Oo w O nu da fu nv tv Ln Lt) (hs:Stp F w F' w') (hd:∀ k∈fpO O nv tv Ln Lt,k ∉ F):Oo w' O nu da fu nv tv Ln Lt:=h.of_eq (fun k hk=>hs.block k (h.lt k hk) (hd k hk))
theorem Oo.below (h:Oo w O nu da fu nv tv Ln Lt) (hb:Below w.heap.size w w'):Oo w' O nu da fu nv tv Ln Lt:=h.of_eq (fun k hk=>hb.block k (h.lt k hk))
theorem Oo.flag (h:Oo w O nu da fu nv tv Ln Lt) {nu' da' fu':Bool} (j:Nat) (hj:2≤j∧j≤4) (he:[nv,tv,.bool nu,.bool da,.bool fu].set j (.bool true) = [nv,tv,Value.bool nu',.bool da',.bool fu']):Oo (w.setCell ⟨O,j,none⟩ (.bool true)) O nu' da' fu' nv tv Ln Lt:=by
 have hnd:=List.nodup_cons.1 h.nd
 refine ⟨?_,h.nx.of_eq (fun k hk=>Below.heap_setCell _ _ _ _ ?_),h.ot.of_eq (fun k hk=>Below.heap_setCell _ _ _ _ ?_),h.nd⟩
 ·have:=h.bk.set j (.bool true)
  rw [he] at this
  exact this
 ·rintro rfl
  exact hnd.1 (List.mem_append_left _ hk)
 ·rintro rfl
  exact hnd.1 (List.mem_append_right _ hk)
theorem Oo.addN {g1 c1:Nat} {o:Obj} {x:FE} {w1:World} (h:Oo w O nu da fu nv tv Ln Lt) (hx:Fm w x.A x.f x.av x.ov) (hd:∀ k∈x.bs,k ∉ fpO O nv tv Ln Lt)
  (hown:w1.ownsRow 0 126 1 (.slice (some ⟨g1,0,none⟩) (Ln.length + 1) c1) (Ln.length + 1) (Ln.map FE.p ++ [x.p])) (hg:(w.alloc o).grownBy w1 nv.ownBlock) (hblk:some g1 = nv.ownBlock∨g1 = (w.alloc o).heap.size) :
  Oo (w1.setCell ⟨O,0,none⟩ (.slice (some ⟨g1,0,none⟩) (Ln.length + 1) c1)) O nu da fu (.slice (some ⟨g1,0,none⟩) (Ln.length + 1) c1) tv (Ln ++ [x]) Lt ∧
  Stp (fpO O nv tv Ln Lt ++ x.bs) w (fpO O (.slice (some ⟨g1,0,none⟩) (Ln.length + 1) c1) tv (Ln ++ [x]) Lt) (w1.setCell ⟨O,0,none⟩ (.slice (some ⟨g1,0,none⟩) (Ln.length + 1) c1)) ∧
  (∃ u,w1.cell? ⟨O,0,none⟩ = some u)∧w1.frozen? ⟨O,0,none⟩ = false:=by
 have hnd:=List.nodup_cons.1 h.nd
 have hnd2:=List.nodup_append.1 hnd.2
 obtain ⟨a1,a2,a3⟩:=h.nx.app hx (fun k _=>Nat.zero_le _) (fun k hk hn=>hd k hk (by simp only [fpO,List.mem_cons,List.mem_append];exact Or.inr (Or.inl hn))) (Nat.zero_le _) hown hg hblk
 have hOv:nv.ownBlock≠some O:=fun e=>hnd.1 (List.mem_append_left _ (List.mem_append_left _ (by rw [e];simp)))
 have hb1:Bk w1 O 280 [nv,tv,.bool nu,.bool da,.bool fu]:=h.bk.of_eq (a2.block O h.bk.lt (by simpa using hOv))
 have ht1:Fl w1 0 tv Lt:=h.ot.stp a2 (fun k hk hn=>hnd2.2.2 k (List.mem_append_left _ hn) k hk rfl)
 have hOn:∀ k∈flF (.slice (some ⟨g1,0,none⟩) (Ln.length + 1) c1) (Ln ++ [x]),k≠O:=by
  intro k hk e
  subst e
  rcases a3 k hk with q | q | q
  ·exact hnd.1 (List.mem_append_left _ q)
  ·exact hd k q (by simp [fpO])
  ·have:=h.bk.lt;omega
 have hOt:∀ k∈flF tv Lt,k≠O:=fun k hk e=>hnd.1 (by subst e;exact List.mem_append_right _ hk)
 refine ⟨⟨hb1.set 0 _,a1.of_eq (fun k hk=>Below.heap_setCell _ _ _ _ (hOn k hk)),ht1.of_eq (fun k hk=>Below.heap_setCell _ _ _ _ (hOt k hk)),?_⟩,?_,⟨_,hb1.cell 0 rfl⟩,hb1.frz 0⟩
 ·rw [List.nodup_cons,List.nodup_append]
  refine ⟨fun hm=>?_,a1.nd,h.ot.nd,fun a ha b hb e=>?_⟩
  ·rcases List.mem_append.1 hm with hm | hm
   ·exact hOn O hm rfl
   ·exact hOt O hm rfl
  ·subst e
   rcases a3 a ha with q | q | q
   ·exact hnd2.2.2 a q a hb rfl
   ·exact hd a q (by simp only [fpO,List.mem_cons,List.mem_append];exact Or.inr (Or.inr hb))
   ·have:=h.ot.lt a hb;omega
 ·refine ((a2.wide (G:=fpO O nv tv Ln Lt ++ x.bs) (fun k hk=>List.mem_append_left _ (by simp only [fpO,flF,List.mem_cons,List.mem_append];exact Or.inr (Or.inl (Or.inl hk))))).setCell (p:=⟨O,0,none⟩) (Or.inl (by simp [fpO])) _).foots (fun k hk=>?_)
  rcases List.mem_cons.1 hk with rfl | hk
  ·exact Or.inl (by simp [fpO])
  ·rcases List.mem_append.1 hk with hk | hk
   ·rcases a3 k hk with q | q | q
    ·exact Or.inl (List.mem_append_left _ (by simp only [fpO,List.mem_cons,List.mem_append];exact Or.inr (Or.inl q)))
    ·exact Or.inl (List.mem_append_right _ q)
    ·exact Or.inr q
   ·exact Or.inl (List.mem_append_left _ (by simp only [fpO,List.mem_cons,List.mem_append];exact Or.inr (Or.inr hk)))
theorem Oo.addT {g1 c1:Nat} {o:Obj} {x:FE} {w1:World} (h:Oo w O nu da fu nv tv Ln Lt) (hx:Fm w x.A x.f x.av x.ov) (hd:∀ k∈x.bs,k ∉ fpO O nv tv Ln Lt)
  (hown:w1.ownsRow 0 126 1 (.slice (some ⟨g1,0,none⟩) (Lt.length + 1) c1) (Lt.length + 1) (Lt.map FE.p ++ [x.p])) (hg:(w.alloc o).grownBy w1 tv.ownBlock) (hblk:some g1 = tv.ownBlock∨g1 = (w.alloc o).heap.size) :
  Oo (w1.setCell ⟨O,1,none⟩ (.slice (some ⟨g1,0,none⟩) (Lt.length + 1) c1)) O nu da fu nv (.slice (some ⟨g1,0,none⟩) (Lt.length + 1) c1) Ln (Lt ++ [x]) ∧
  Stp (fpO O nv tv Ln Lt ++ x.bs) w (fpO O nv (.slice (some ⟨g1,0,none⟩) (Lt.length + 1) c1) Ln (Lt ++ [x])) (w1.setCell ⟨O,1,none⟩ (.slice (some ⟨g1,0,none⟩) (Lt.length + 1) c1)) ∧
  (∃ u,w1.cell? ⟨O,1,none⟩ = some u)∧w1.frozen? ⟨O,1,none⟩ = false:=by
 have hnd:=List.nodup_cons.1 h.nd
 have hnd2:=List.nodup_append.1 hnd.2
 obtain ⟨a1,a2,a3⟩:=h.ot.app hx (fun k _=>Nat.zero_le _) (fun k hk hn=>hd k hk (by simp only [fpO,List.mem_cons,List.mem_append];exact Or.inr (Or.inr hn))) (Nat.zero_le _) hown hg hblk
 have hOv:tv.ownBlock≠some O:=fun e=>hnd.1 (List.mem_append_right _ (List.mem_append_left _ (by rw [e];simp)))
 have hb1:Bk w1 O 280 [nv,tv,.bool nu,.bool da,.bool fu]:=h.bk.of_eq (a2.block O h.bk.lt (by simpa using hOv))
 have ht1:Fl w1 0 nv Ln:=h.nx.stp a2 (fun k hk hn=>hnd2.2.2 k hk k (List.mem_append_left _ hn) rfl)
 have hOn:∀ k∈flF (.slice (some ⟨g1,0,none⟩) (Lt.length + 1) c1) (Lt ++ [x]),k≠O:=by
  intro k hk e
  subst e
  rcases a3 k hk with q | q | q
  ·exact hnd.1 (List.mem_append_right _ q)
  ·exact hd k q (by simp [fpO])
  ·have:=h.bk.lt;omega
 have hOt:∀ k∈flF nv Ln,k≠O:=fun k hk e=>hnd.1 (by subst e;exact List.mem_append_left _ hk)
 refine ⟨⟨hb1.set 1 _,ht1.of_eq (fun k hk=>Below.heap_setCell _ _ _ _ (hOt k hk)),a1.of_eq (fun k hk=>Below.heap_setCell _ _ _ _ (hOn k hk)),?_⟩,?_,⟨_,hb1.cell 1 rfl⟩,hb1.frz 1⟩
 ·rw [List.nodup_cons,List.nodup_append]
  refine ⟨fun hm=>?_,h.nx.nd,a1.nd,fun a ha b hb e=>?_⟩
  ·rcases List.mem_append.1 hm with hm | hm
   ·exact hOt O hm rfl
   ·exact hOn O hm rfl
  ·subst e
   rcases a3 a hb with q | q | q
   ·exact hnd2.2.2 a ha a q rfl
   ·exact hd a q (by simp only [fpO,List.mem_cons,List.mem_append];exact Or.inr (Or.inl ha))
   ·have:=h.nx.lt a ha;omega
 ·refine ((a2.wide (G:=fpO O nv tv Ln Lt ++ x.bs) (fun k hk=>List.mem_append_left _ (by simp only [fpO,flF,List.mem_cons,List.mem_append];exact Or.inr (Or.inr (Or.inl hk))))).setCell (p:=⟨O,1,none⟩) (Or.inl (by simp [fpO])) _).foots (fun k hk=>?_)
  rcases List.mem_cons.1 hk with rfl | hk
  ·exact Or.inl (by simp [fpO])
  ·rcases List.mem_append.1 hk with hk | hk
   ·exact Or.inl (List.mem_append_left _ (by simp only [fpO,List.mem_cons,List.mem_append];exact Or.inr (Or.inl hk)))
   ·rcases a3 k hk with q | q | q
    ·exact Or.inl (List.mem_append_left _ (by simp only [fpO,List.mem_cons,List.mem_append];exact Or.inr (Or.inr q)))
    ·exact Or.inl (List.mem_append_right _ q)
    ·exact Or.inr q
set_option maxRecDepth 100000 in
set_option maxHeartbeats 2000000 in
theorem goOn_any {A:Nat} {f:CF} {av ov:Value} (h:Oo w O nu da fu nv tv Ln Lt) (hF:Fm w A f av ov) (hO:FoOk f) (ha:f.ap.length≤100000) (hd:∀ k∈bsF A av ov,k ∉ fpO O nv tv Ln Lt) (hn:Ln.length≤900000) :
  Calls Tryz.prog 242 #[.pointer (some ⟨O,0,none⟩),.pointer (some ⟨A,0,none⟩)] w fun e w'=>e = .returned (.tuple #[])∧∃ nv' x,x.A = A∧x.f = tdF f∧Oo w' O nu da fu nv' tv (Ln ++ [x]) Lt∧Stp (fpO O nv tv Ln Lt ++ bsF A av ov) w (fpO O nv' tv (Ln ++ [x]) Lt) w':=by
 obtain ⟨i0,hi,hz0,hz1,hz2⟩:=info_parts Tryz.infoPF
 have HT:=hide (tidy_any hF hO ha)
 have H:=hide h
 have HD:=hide hd
 clear h hF hO hd
 go_enter Tryz.func242,Tryz.ntmps242
 go_wp2_with fail
 refine (uh HT).mono ?_
 rintro e w1 ⟨rfl,av1,ov1,hF1,hs1⟩
 have h1:=(uh H).stp hs1 (fun k hk hn=>uh HD k hn hk)
 have hd1:∀ k∈bsF A av1 ov1,k ∉ fpO O nv tv Ln Lt:=by
  intro k hk hn
  rcases hs1.foot k hk with q | q
  ·exact uh HD k q hn
  ·have:=(uh H).lt k hn;omega
 obtain ⟨na,nc,hnv,-,-⟩:=own_slc h1.nx.row
 subst hnv
 have c0:=h1.bk.cell 0 rfl
 have HS:=hide h1.nx.row
 have H1:=hide h1
 have HF1:=hide hF1
 have HD1:=hide hd1
 have HS1:=hide hs1
 clear h1 hF1 hd1 hs1 HT
 go_wp2_with (at_builtin;refine wpList_app1 _ rfl (.tmp 10) (.tmp 12) 125 rfl 0 126 i0 _ 1 8 Tryz.underlying125 hi hz0 hz1 hz2 rfl (by decide) _ Ln.length (Ln.map FE.p) rfl ((uh HS).alloc _) ⟨_,0,none⟩ 1 [.pointer (some ⟨A,0,none⟩)] rfl rfl (new_cells _ _ (by simp) [.pointer (some ⟨A,0,none⟩)] _) (by intro u hu;simp only [List.mem_singleton] at hu;subst hu;rfl) (by omega) (by omega) (Nat.zero_le _) ?_)
 intro g1 cap1 w2 hown2 hgrow2 hblk2
 obtain ⟨q1,q2,⟨u,q3⟩,q4⟩:=(uh H1).addN (x:=⟨A,tdF f,av1,ov1⟩) (uh HF1) (uh HD1) hown2 hgrow2 (by simpa using hblk2)
 have HN:=hide q1
 have HSN:=hide q2
 clear hown2 hgrow2 hblk2 q1 q2 c0
 go_wp2_with fail
 go_end0
 refine ⟨rfl,_,⟨A,tdF f,av1,ov1⟩,rfl,rfl,uh HN,?_⟩
 have h1:=(uh HS1).wide (G:=fpO O (.slice na Ln.length nc) tv Ln Lt ++ bsF A av ov) (fun k hk=>List.mem_append_right _ hk)
 have h2:=uh HSN
 refine ⟨h2.os.trans h1.os,h2.tape.trans h1.tape,h2.output.trans h1.output,Nat.le_trans h1.size h2.size,fun k hk hn=>?_,fun k hk=>?_⟩
 ·rw [h2.block k (Nat.lt_of_lt_of_le hk h1.size) (fun hm=>?_)]
  ·exact h1.block k hk hn
  ·rcases List.mem_append.1 hm with hm | hm
   ·exact hn (List.mem_append_left _ hm)
   ·rcases (uh HS1).foot k hm with q | q
    ·exact hn (List.mem_append_right _ q)
    ·omega
 ·rcases h2.foot k hk with q | q
  ·rcases List.mem_append.1 q with q | q
   ·exact Or.inl (List.mem_append_left _ q)
   ·rcases (uh HS1).foot k q with q | q
    ·exact Or.inl (List.mem_append_right _ q)
    ·exact Or.inr q
  ·exact Or.inr (Nat.le_trans h1.size q)
set_option maxRecDepth 100000 in
set_option maxHeartbeats 2000000 in
theorem turn_any {A:Nat} {f:CF} {av ov:Value} (h:Oo w O nu da fu nv tv Ln Lt) (hF:Fm w A f av ov) (hO:FoOk f) (ha:f.ap.length≤100000) (hd:∀ k∈bsF A av ov,k ∉ fpO O nv tv Ln Lt) (hn:Lt.length≤900000) :
  Calls Tryz.prog 243 #[.pointer (some ⟨O,0,none⟩),.pointer (some ⟨A,0,none⟩)] w fun e w'=>e = .returned (.tuple #[])∧∃ tv' x,x.A = A∧x.f = tdF f∧Oo w' O nu da fu nv tv' Ln (Lt ++ [x])∧Stp (fpO O nv tv Ln Lt ++ bsF A av ov) w (fpO O nv tv' Ln (Lt ++ [x])) w':=by
 obtain ⟨i0,hi,hz0,hz1,hz2⟩:=info_parts Tryz.infoPF
 have HT:=hide (tidy_any hF hO ha)
 have H:=hide h
 have HD:=hide hd
 clear h hF hO hd
 go_enter Tryz.func243,Tryz.ntmps243
 go_wp2_with fail
 refine (uh HT).mono ?_
 rintro e w1 ⟨rfl,av1,ov1,hF1,hs1⟩
 have h1:=(uh H).stp hs1 (fun k hk hn=>uh HD k hn hk)
 have hd1:∀ k∈bsF A av1 ov1,k ∉ fpO O nv tv Ln Lt:=by
  intro k hk hn
  rcases hs1.foot k hk with q | q
  ·exact uh HD k q hn
  ·have:=(uh H).lt k hn;omega
 obtain ⟨na,nc,hnv,-,-⟩:=own_slc h1.ot.row
 subst hnv
 have c0:=h1.bk.cell 1 rfl
 have HS:=hide h1.ot.row
 have H1:=hide h1
 have HF1:=hide hF1
 have HD1:=hide hd1
 have HS1:=hide hs1
 clear h1 hF1 hd1 hs1 HT
 go_wp2_with (at_builtin;refine wpList_app1 _ rfl (.tmp 10) (.tmp 12) 125 rfl 0 126 i0 _ 1 8 Tryz.underlying125 hi hz0 hz1 hz2 rfl (by decide) _ Lt.length (Lt.map FE.p) rfl ((uh HS).alloc _) ⟨_,0,none⟩ 1 [.pointer (some ⟨A,0,none⟩)] rfl rfl (new_cells _ _ (by simp) [.pointer (some ⟨A,0,none⟩)] _) (by intro u hu;simp only [List.mem_singleton] at hu;subst hu;rfl) (by omega) (by omega) (Nat.zero_le _) ?_)
 intro g1 cap1 w2 hown2 hgrow2 hblk2
 obtain ⟨q1,q2,⟨u,q3⟩,q4⟩:=(uh H1).addT (x:=⟨A,tdF f,av1,ov1⟩) (uh HF1) (uh HD1) hown2 hgrow2 (by simpa using hblk2)
 have HN:=hide q1
 have HSN:=hide q2
 clear hown2 hgrow2 hblk2 q1 q2 c0
 go_wp2_with fail
 go_end0
 refine ⟨rfl,_,⟨A,tdF f,av1,ov1⟩,rfl,rfl,uh HN,?_⟩
 have h1:=(uh HS1).wide (G:=fpO O nv (.slice na Lt.length nc) Ln Lt ++ bsF A av ov) (fun k hk=>List.mem_append_right _ hk)
 have h2:=uh HSN
 refine ⟨h2.os.trans h1.os,h2.tape.trans h1.tape,h2.output.trans h1.output,Nat.le_trans h1.size h2.size,fun k hk hn=>?_,fun k hk=>?_⟩
 ·rw [h2.block k (Nat.lt_of_lt_of_le hk h1.size) (fun hm=>?_)]
  ·exact h1.block k hk hn
  ·rcases List.mem_append.1 hm with hm | hm
   ·exact hn (List.mem_append_left _ hm)
   ·rcases (uh HS1).foot k hm with q | q
    ·exact hn (List.mem_append_right _ q)
    ·omega
 ·rcases h2.foot k hk with q | q
  ·rcases List.mem_append.1 q with q | q
   ·exact Or.inl (List.mem_append_left _ q)
   ·rcases (uh HS1).foot k q with q | q
    ·exact Or.inl (List.mem_append_right _ q)
    ·exact Or.inr q
  ·exact Or.inr (Nat.le_trans h1.size q)
end
structure Ms (w W:World) (v:Value) (L:List FE) (X:Nat) (p:Pr):Prop where
 fl:Fl W w.heap.size v L
 bx:Bk W X 182 [.int .i64 (p.k:Int),.int .i64 (p.l:Int),.int .i64 (p.r:Int)]
 nx:∀ k∈flF v L,k≠X
 xw:w.heap.size≤X
 bw:Below w.heap.size w W
structure FrF (W W':World) (x:FE):Prop where
 fm:Fm W' x.A x.f x.av x.ov
 ge:∀ k∈x.bs,W.heap.size≤k
 bw:Below W.heap.size W W'
theorem FrF.step {W W' W'':World} {x x':FE} (h:FrF W W' x) (hf:Fm W'' x'.A x'.f x'.av x'.ov) (hs:Stp x.bs W' x'.bs W''):FrF W W'' x' :=
 ⟨hf,fun k hk=>by
  rcases hs.foot k hk with q | q
  ·exact h.ge k q
  ·exact Nat.le_trans h.bw.size q,⟨hs.os.trans h.bw.os,hs.tape.trans h.bw.tape,hs.output.trans h.bw.output,Nat.le_trans h.bw.size hs.size,fun k hk=>(hs.block k (Nat.lt_of_lt_of_le hk h.bw.size) (fun hn=>by have:=h.ge k hn;omega)).trans (h.bw.block k hk)⟩⟩
theorem FrF.below {W W' W'':World} {x:FE} (h:FrF W W' x) (hb:Below W'.heap.size W' W''):FrF W W'' x:=⟨h.fm.below hb,h.ge,h.bw.trans (hb.mono h.bw.size)⟩
theorem NewF.frf {W W':World} {f:CF} {A':Nat} (h:NewF W f A' W'):∃ av' ov',FrF W W' ⟨A',f,av',ov'⟩:=by
 obtain ⟨av',ov',h1,h2,h3⟩:=h
 exact ⟨av',ov',h1,h2,h3⟩
theorem Fm.putO {w:World} {A:Nat} {f:CF} {av:Value} {g cap i:Nat} (h:Fm w A f av (.slice (some ⟨g,0,none⟩) f.ow.length cap)) (hi:i < f.ow.length) (r:Nat) :
  Fm (w.setCell ⟨g,i * 3 + 2,none⟩ (.int .i64 (r:Int))) A (setO f i ⟨(owA f i).k,(owA f i).l,r⟩) av (.slice (some ⟨g,0,none⟩) f.ow.length cap)∧Stp (bsF A av (.slice (some ⟨g,0,none⟩) f.ow.length cap)) w (bsF A av (.slice (some ⟨g,0,none⟩) f.ow.length cap)) (w.setCell ⟨g,i * 3 + 2,none⟩ (.int .i64 (r:Int))) ∧
  (∃ u,w.cell? ⟨g,i * 3 + 2,none⟩ = some u)∧w.frozen? ⟨g,i * 3 + 2,none⟩ = false:=by
 have h1:=(h.is.ow.stored (i * 3 + 2) (.int .i64 (r:Int))).1
 rw [prCells_set2 hi] at h1
 have hs:Stp (Value.slice (some ⟨g,0,none⟩) f.ow.length cap).ownBlock.toList w (Value.slice (some ⟨g,0,none⟩) f.ow.length cap).ownBlock.toList (w.setCell ⟨g,i * 3 + 2,none⟩ (.int .i64 (r:Int))):=(Stp.refl _ _).setCell (p:=⟨g,i * 3 + 2,none⟩) (Or.inl (by simp [Value.ownBlock])) _
 obtain ⟨a1,a2⟩:=h.newRow (ow':=f.ow.set i ⟨(owA f i).k,(owA f i).l,r⟩) (by simp) h1 hs
 obtain ⟨-,-,x2⟩:=own_cells h.is.ow hi
 exact ⟨a1,a2,⟨_,x2⟩,h.is.ow.frozenAt _⟩
section
variable {w W W':World} {v:Value} {L:List FE} {X:Nat} {p:Pr}
theorem Ms.below (h:Ms w W v L X p) (hb:Below W.heap.size W W'):Ms w W' v L X p:=⟨h.fl.below hb,h.bx.below hb,h.nx,h.xw,h.bw.trans (hb.mono h.bw.size)⟩
theorem Ms.fresh (h:Ms w W v L X p) {x:FE} (hx:∀ k∈x.bs,W.heap.size≤k):∀ k∈x.bs,k ∉ flF v L∧k≠X∧w.heap.size≤k:=fun k hk=>by
 have h1:=hx k hk
 exact ⟨fun hn=>by have:=h.fl.lt k hn;omega,fun e=>by have:=h.bx.lt;omega,Nat.le_trans h.bw.size h1⟩
theorem Ms.app {g1 c1:Nat} {o:Obj} {x:FE} {W1:World} (h:Ms w W v L X p) (hx:Fm W x.A x.f x.av x.ov) (hd:∀ k∈x.bs,k ∉ flF v L∧k≠X∧w.heap.size≤k)
  (hown:W1.ownsRow w.heap.size 126 1 (.slice (some ⟨g1,0,none⟩) (L.length + 1) c1) (L.length + 1) (L.map FE.p ++ [x.p])) (hg:(W.alloc o).grownBy W1 v.ownBlock) (hblk:some g1 = v.ownBlock∨g1 = (W.alloc o).heap.size) :
  Ms w W1 (.slice (some ⟨g1,0,none⟩) (L.length + 1) c1) (L ++ [x]) X p:=by
 obtain ⟨a1,a2,a3⟩:=h.fl.app hx (fun k hk=>(hd k hk).2.2) (fun k hk=>(hd k hk).1) h.bw.size hown hg hblk
 have hv:∀ k∈v.ownBlock.toList,k≠X∧w.heap.size≤k:=fun k hk=>⟨h.nx k (List.mem_append_left _ hk),h.fl.geB k (List.mem_append_left _ hk)⟩
 exact ⟨a1,h.bx.stp a2 (fun hn=>(hv X hn).1 rfl),fun k hk e=>by
  rcases a3 k hk with q | q | q
  ·exact h.nx k q e
  ·exact (hd k q).2.1 e
  ·have:=h.bx.lt;omega,h.xw,⟨a2.os.trans h.bw.os,a2.tape.trans h.bw.tape,a2.output.trans h.bw.output,Nat.le_trans h.bw.size a2.size,fun k hk=>(a2.block k (Nat.lt_of_lt_of_le hk h.bw.size) (fun hn=>by have:=(hv k hn).2;omega)).trans (h.bw.block k hk)⟩⟩
set_option maxRecDepth 100000 in
set_option maxHeartbeats 8000000 in
theorem meet_f {A:Nat} {f:CF} {av ov:Value} (h:IsF w A f av ov) (hO:FoOk f) (ha:f.ap.length≤40000) {c i:Nat} (hc:c < 24) (hi:i < f.ow.length) :
  Calls Tryz.prog 255 #[.pointer (some ⟨A,0,none⟩),.int .i64 c,.int .i64 i] w fun e w'=>∃ v L,e = .returned v∧Fl w' w.heap.size v L∧L.map (·.f) = meF f c i∧Below w.heap.size w w':=by
 obtain ⟨i0,hi0,hz0,hz1,hz2⟩:=info_parts Tryz.infoPF
 have hol:=hO.owLen
 obtain ⟨oa,oc,hov,-,-⟩:=own_slc h.ow
 subst hov
 obtain ⟨p,hp⟩:∃ p,p = f.ow.getD i pr0:=⟨_,rfl⟩
 obtain ⟨W2,hW2⟩:∃ W2,W2 = (w.alloc (.cells #[] 126)).alloc (.cells #[Value.int .i64 p.k,.int .i64 p.l,.int .i64 p.r] 182):=⟨_,rfl⟩
 have hM2:Ms w W2 (.slice (some ⟨w.heap.size,0,none⟩) 0 0) [] (w.heap.size + 1) p:=by
  have hb1:=below_boxQ w (.cells #[] 126)
  have hb2:=below_boxQ (w.alloc (.cells #[] 126)) (.cells #[Value.int .i64 p.k,.int .i64 p.l,.int .i64 p.r] 182)
  refine ⟨⟨?_,fun x hx=>by simp at hx,fun x hx=>by simp at hx,by simp [flF,Value.ownBlock]⟩,?_,fun k hk=>?_,Nat.le_succ _,?_⟩
  ·rw [hW2]
   exact (World.ownsRow_lit (base:=w.heap.size) (e:=126) (size:=1) w #[] 0 (Nat.le_refl _) (by simp [maxLen]) rfl).alloc _
  ·rw [hW2]
   have:=Bk.new (w.alloc (.cells #[] 126)) 182 [Value.int .i64 p.k,.int .i64 p.l,.int .i64 p.r]
   simpa using this
  ·have e:k = w.heap.size:=by simpa [flF,Value.ownBlock,eq_comm] using hk
   omega
  ·rw [hW2];exact hb1.trans (hb2.mono hb1.size)
 have h1:IsF (w.alloc (.cells #[] 126)) A f av (.slice oa f.ow.length oc):=h.below (below_boxQ w _)
 have c6:=h1.c6
 obtain ⟨g,cap,hgv,-,-⟩:=own_formP h1.ow hi
 simp only [Value.slice.injEq,true_and] at hgv
 obtain ⟨rfl,rfl⟩:=hgv
 obtain ⟨x0,x1,x2⟩:=own_cells h1.ow hi
 rw [← hp] at x0 x1 x2
 obtain ⟨X,hX⟩:∃ X,X = w.heap.size + 1:=⟨_,rfl⟩
 rw [← hX] at hM2
 have h2:=h.below hM2.bw
 have HDF:=hide (differ_any c p.l h2)
 have hpl:=(hO.ow _ (mem_getD hi))
 rw [← hp] at hpl
 have HP:=hide hp
 have H:=hide h
 have HO:=hide hO
 have HM2:=hide hM2
 have b1:=hM2.bx.cell 1 rfl
 have i1:(0:Int)≤(i:Int):=by omega
 have i2:(i:Int) < (f.ow.length:Int):=by omega
 clear h hO h1 h2 hM2 hp
 go_enter Tryz.func255,Tryz.ntmps255
 go_upto_region 3 with fail
 rw [show w.heap.size + 1 = X from hX.symm,← hW2]
 clear hW2 hX x0 x1 x2 c6
 go_wp2_with fail
 refine (uh HDF).mono ?_
 rintro e w3 ⟨rfl,hb3⟩
 have hM3:=(uh HM2).below hb3
 have HDD:Hid (difB f c (owA f i).l = difB f c p.l):=hide (by rw [uh HP];rfl)
 have HM3:=hide hM3
 clear hM3 hb3 HDF b1
 cases hdf:difB f c p.l
 ·have HDE:Hid (difB f c (owA f i).l = false):=hide ((uh HDD).trans hdf)
  have HI3:=hide ((uh H).below (uh HM3).bw)
  have HCP1:=hide (copy_any (uh HI3) (uh HO).c5 ha (Nat.le_trans hol (by omega)))
  clear hdf
  go_wp2_with fail
  refine (uh HCP1).mono ?_
  rintro e w4 ⟨A4,rfl,hN4⟩
  obtain ⟨av4,ov4,hf4⟩:=hN4.frf
  have b1:=((uh HM3).below hf4.bw).bx.cell 1 rfl
  have HJO:=hide (fjoin_any hf4.fm (Nat.le_trans ha (by omega)) (Nat.le_trans hol (by omega)) p.l c)
  have HF4:=hide hf4
  clear hN4 hf4 HCP1
  go_wp2_with fail
  refine (uh HJO).mono ?_
  rintro e w5 ⟨rfl,hF5,hS5⟩
  have hf5:=(uh HF4).step (x':=⟨A4,meF1 f c i,av4,ov4⟩) (by
   have e9:meF1 f c i = joF f p.l c:=by rw [uh HP];rfl
   rw [e9];exact hF5) hS5
  have hM5:=(uh HM3).below hf5.bw
  have hfr:=(uh HM3).fresh hf5.ge
  have HR5:=hide hM5.fl.row
  have HM5:=hide hM5
  have HF5:=hide hf5.fm
  have HFR5:=hide hfr
  have hsz5:=hM5.bw.size
  clear hF5 hS5 hf5 hM5 hfr HJO b1
  go_wp2_with (at_builtin;refine wpList_app1 _ rfl (.tmp 32) (.tmp 34) 125 rfl w.heap.size 126 i0 _ 1 8 Tryz.underlying125 hi0 hz0 hz1 hz2 rfl (by decide) _ 0 [] rfl ((uh HR5).alloc _) ⟨_,0,none⟩ 1 [.pointer (some ⟨A4,0,none⟩)] rfl rfl (new_cells _ _ (by simp) [.pointer (some ⟨A4,0,none⟩)] _) (by intro u hu;simp only [List.mem_singleton] at hu;subst hu;rfl) (by omega) (by omega) (by simp;omega) ?_)
  intro g6 cap6 w6 hown6 hgrow6 hblk6
  have HM6:=hide ((uh HM5).app (uh HF5) (uh HFR5) hown6 hgrow6 (by simpa using hblk6))
  rw [List.nil_append,show ([]:List FE).length + 1 = 1 from rfl] at HM6
  clear hown6 hgrow6 hblk6 HR5 HM5
  have b0:=(uh HM6).bx.cell 0 rfl
  have HI6:=hide ((uh H).below (uh HM6).bw)
  by_cases hk4:p.k = 4
  ·have d4:((p.k:Int) == 4) = true:=by simp [hk4]
   have HCP:=hide (copy_any (uh HI6) (uh HO).c5 ha (Nat.le_trans hol (by omega)))
   have HE4:Hid (meF f c i = [meF1 f c i] ++ [meF2 f c i]):=hide (by unfold meF;rw [if_neg (by rw [uh HDE];decide),if_pos (show (owA f i).k = 4 by show (f.ow.getD i pr0).k = 4;rw [← uh HP];exact hk4)])
   clear hk4
   go_wp2_with fail
   refine (uh HCP).mono ?_
   rintro e w7 ⟨A7,rfl,hN7⟩
   obtain ⟨av7,ov7,hf7⟩:=hN7.frf
   have hM7:=(uh HM6).below hf7.bw
   have hi7:i < f.ow.length:=by omega
   obtain ⟨g7,cap7,hgv7,-,-⟩:=own_formP hf7.fm.is.ow hi7
   have hgv7':ov7 = .slice (some ⟨g7,0,none⟩) f.ow.length cap7:=hgv7
   subst hgv7'
   have e6:=hf7.fm.is.c6
   obtain ⟨hF8,hS8,⟨u8,e8⟩,z8⟩:=Fm.putO hf7.fm hi7 c
   obtain ⟨w8,hw8⟩:∃ w8,w8 = w7.setCell ⟨g7,i * 3 + 2,none⟩ (.int .i64 (c:Int)):=⟨_,rfl⟩
   rw [← hw8] at hF8 hS8
   have hf8:=hf7.step (x':=⟨A7,setO f i ⟨(owA f i).k,(owA f i).l,c⟩,av7,.slice (some ⟨g7,0,none⟩) f.ow.length cap7⟩) hF8 hS8
   have b2:=((uh HM6).below hf8.bw).bx.cell 2 rfl
   have HLY:=hide (lay_any hf8.fm 4 c p.r (by
    show (f.ow.set i _).length≤100000
    rw [List.length_set]
    exact Nat.le_trans hol (by omega)))
   have HF8:=hide hf8
   clear hN7 hf7 hM7 hgv7 hF8 hS8 hf8 HCP
   go_upto_region 10 with fail
   rw [← hw8]
   clear hw8 e6 e8 z8 u8
   go_wp2_with fail
   refine (uh HLY).mono ?_
   rintro e w9 ⟨rfl,ov9,hF9,hS9⟩
   have hf9:=(uh HF8).step (x':=⟨A7,meF2 f c i,av7,ov9⟩) (by
    have e9:meF2 f c i = { setO f i ⟨(owA f i).k,(owA f i).l,c⟩ with ow:=(setO f i ⟨(owA f i).k,(owA f i).l,c⟩).ow ++ [⟨4,c,p.r⟩] }:=by rw [uh HP];rfl
    rw [e9];exact hF9) hS9
   have hM9:=(uh HM6).below hf9.bw
   have hfr:=(uh HM6).fresh hf9.ge
   have HR9:=hide hM9.fl.row
   have HM9:=hide hM9
   have HF9:=hide hf9.fm
   have HFR:=hide hfr
   have hsz:=hM9.bw.size
   clear hF9 hS9 hf9 hM9 hfr HLY
   go_wp2_with (at_builtin;refine wpList_app1 _ rfl (.tmp 54) (.tmp 56) 125 rfl w.heap.size 126 i0 _ 1 8 Tryz.underlying125 hi0 hz0 hz1 hz2 rfl (by decide) _ [(⟨A4,meF1 f c i,av4,ov4⟩:FE)].length ([(⟨A4,meF1 f c i,av4,ov4⟩:FE)].map FE.p) rfl ((uh HR9).alloc _) ⟨_,0,none⟩ 1 [.pointer (some ⟨A7,0,none⟩)] rfl rfl (new_cells _ _ (by simp) [.pointer (some ⟨A7,0,none⟩)] _) (by intro u hu;simp only [List.mem_singleton] at hu;subst hu;rfl) (by simp) (by omega) (by simp;omega) ?_)
   intro g1 cap1 wa hown1 hgrow1 hblk1
   have HMA:=hide ((uh HM9).app (uh HF9) (uh HFR) hown1 hgrow1 (by simpa using hblk1))
   clear hown1 hgrow1 hblk1
   go_wp2_with fail
   go_ret
   exact ⟨_,_,rfl,(uh HMA).fl,by rw [uh HE4];rfl,(uh HMA).bw⟩
  ·have d4:((p.k:Int) == 4) = false:=by simp;omega
   have HE4:Hid (meF f c i = [meF1 f c i]):=hide (by unfold meF;rw [if_neg (by rw [uh HDE];decide),if_neg (show ¬ ((owA f i).k = 4) by show ¬ ((f.ow.getD i pr0).k = 4);rw [← uh HP];exact hk4),List.append_nil])
   clear hk4
   go_wp2_with fail
   go_ret
   exact ⟨_,_,rfl,(uh HM6).fl,by rw [uh HE4];rfl,(uh HM6).bw⟩
 ·have HDE:Hid (difB f c (owA f i).l = true):=hide ((uh HDD).trans hdf)
  clear hdf
  have b0:=(uh HM3).bx.cell 0 rfl
  have HI3:=hide ((uh H).below (uh HM3).bw)
  by_cases hk4:p.k = 4
  ·have d4:((p.k:Int) == 4) = true:=by simp [hk4]
   have HCP:=hide (copy_any (uh HI3) (uh HO).c5 ha (Nat.le_trans hol (by omega)))
   have HE4:Hid (meF f c i = ([]:List CF) ++ [meF2 f c i]):=hide (by unfold meF;rw [if_pos (uh HDE),if_pos (show (owA f i).k = 4 by show (f.ow.getD i pr0).k = 4;rw [← uh HP];exact hk4)])
   clear hk4
   go_wp2_with fail
   refine (uh HCP).mono ?_
   rintro e w7 ⟨A7,rfl,hN7⟩
   obtain ⟨av7,ov7,hf7⟩:=hN7.frf
   have hM7:=(uh HM3).below hf7.bw
   have hi7:i < f.ow.length:=by omega
   obtain ⟨g7,cap7,hgv7,-,-⟩:=own_formP hf7.fm.is.ow hi7
   have hgv7':ov7 = .slice (some ⟨g7,0,none⟩) f.ow.length cap7:=hgv7
   subst hgv7'
   have e6:=hf7.fm.is.c6
   obtain ⟨hF8,hS8,⟨u8,e8⟩,z8⟩:=Fm.putO hf7.fm hi7 c
   obtain ⟨w8,hw8⟩:∃ w8,w8 = w7.setCell ⟨g7,i * 3 + 2,none⟩ (.int .i64 (c:Int)):=⟨_,rfl⟩
   rw [← hw8] at hF8 hS8
   have hf8:=hf7.step (x':=⟨A7,setO f i ⟨(owA f i).k,(owA f i).l,c⟩,av7,.slice (some ⟨g7,0,none⟩) f.ow.length cap7⟩) hF8 hS8
   have b2:=((uh HM3).below hf8.bw).bx.cell 2 rfl
   have HLY:=hide (lay_any hf8.fm 4 c p.r (by
    show (f.ow.set i _).length≤100000
    rw [List.length_set]
    exact Nat.le_trans hol (by omega)))
   have HF8:=hide hf8
   clear hN7 hf7 hM7 hgv7 hF8 hS8 hf8 HCP
   go_upto_region 10 with fail
   rw [← hw8]
   clear hw8 e6 e8 z8 u8
   go_wp2_with fail
   refine (uh HLY).mono ?_
   rintro e w9 ⟨rfl,ov9,hF9,hS9⟩
   have hf9:=(uh HF8).step (x':=⟨A7,meF2 f c i,av7,ov9⟩) (by
    have e9:meF2 f c i = { setO f i ⟨(owA f i).k,(owA f i).l,c⟩ with ow:=(setO f i ⟨(owA f i).k,(owA f i).l,c⟩).ow ++ [⟨4,c,p.r⟩] }:=by rw [uh HP];rfl
    rw [e9];exact hF9) hS9
   have hM9:=(uh HM3).below hf9.bw
   have hfr:=(uh HM3).fresh hf9.ge
   have HR9:=hide hM9.fl.row
   have HM9:=hide hM9
   have HF9:=hide hf9.fm
   have HFR:=hide hfr
   have hsz:=hM9.bw.size
   clear hF9 hS9 hf9 hM9 hfr HLY
   go_wp2_with (at_builtin;refine wpList_app1 _ rfl (.tmp 54) (.tmp 56) 125 rfl w.heap.size 126 i0 _ 1 8 Tryz.underlying125 hi0 hz0 hz1 hz2 rfl (by decide) _ ([]:List FE).length (([]:List FE).map FE.p) rfl ((uh HR9).alloc _) ⟨_,0,none⟩ 1 [.pointer (some ⟨A7,0,none⟩)] rfl rfl (new_cells _ _ (by simp) [.pointer (some ⟨A7,0,none⟩)] _) (by intro u hu;simp only [List.mem_singleton] at hu;subst hu;rfl) (by simp) (by omega) (by simp;omega) ?_)
   intro g1 cap1 wa hown1 hgrow1 hblk1
   have HMA:=hide ((uh HM9).app (uh HF9) (uh HFR) hown1 hgrow1 (by simpa using hblk1))
   clear hown1 hgrow1 hblk1
   go_wp2_with fail
   go_ret
   exact ⟨_,_,rfl,(uh HMA).fl,by rw [uh HE4];rfl,(uh HMA).bw⟩
  ·have d4:((p.k:Int) == 4) = false:=by simp;omega
   have HE4:Hid (meF f c i = ([]:List CF)):=hide (by unfold meF;rw [if_pos (uh HDE),if_neg (show ¬ ((owA f i).k = 4) by show ¬ ((f.ow.getD i pr0).k = 4);rw [← uh HP];exact hk4),List.append_nil])
   clear hk4
   go_wp2_with fail
   go_ret
   exact ⟨_,_,rfl,(uh HM3).fl,by rw [uh HE4];rfl,(uh HM3).bw⟩
end
end Go.Proofs.YtciihepbeacppaaGreat
