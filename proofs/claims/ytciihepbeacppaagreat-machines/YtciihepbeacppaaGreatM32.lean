import Derived.Test.YtciihepbeacppaaGreatM31
import Derived.Carry
import Derived.Deep.Slices
import Derived.OpenShut
import Derived.ProofKit
import Derived.Test.YtciihepbeacppaaGreatRows
import Derived.WalkKit
namespace Go.Proofs.YtciihepbeacppaaGreat
open Go.RowKit
section
variable {T A : Nat} {w w' : World} {z : WS} {lab lab' : Nat → Nat}
theorem get_app {α : Type} {l : List α} {x y : α} {j : Nat} (h : (l ++ [x])[j]? = some y) : l[j]? = some y ∨ (j = l.length ∧ y = x):=by
 rcases Nat.lt_trichotomy j l.length with hj | hj | hj
 ·rw [List.getElem?_append_left hj] at h; exact Or.inl h
 ·subst hj; simp at h; exact Or.inr ⟨rfl,h.symm⟩
 ·rw [List.getElem?_append_right (by omega),List.getElem?_eq_none (by simp <;> omega)] at h; cases h
theorem get_set {α : Type} {l : List α} {x y : α} {i j : Nat} (h : (l.set i x)[j]? = some y) : (j = i ∧ y = x) ∨ (j ≠ i ∧ l[j]? = some y):=by
 rw [List.getElem?_set] at h
 split at h
 ·rename_i e
  split at h
  ·exact Or.inl ⟨e.symm,(Option.some.inj h).symm⟩
  ·cases h
 ·rename_i e
  exact Or.inr ⟨fun c=>e c.symm,h⟩
theorem map_set_same {α β : Type} {l : List α} {f : α → β} {i : Nat} {x y : α} (h : l[i]? = some x) (he : f y = f x) : (l.set i y).map f = l.map f:=by
 rw [List.map_set,he]
 apply List.ext_getElem?
 intro j
 rw [List.getElem?_set]
 split
 ·rename_i e
  subst e
  have hl:=(List.getElem?_eq_some_iff.1 h).1
  rw [if_pos (by simpa using hl)]
  simp [h]
 ·rfl
theorem LwI.head (h : LwI T w A z lab) (t : Tr w w' lab lab' [1,4]) {z' : WS} (hA : Bk w' A 112 z'.cells) (e1 : z'.ps = z.ps) (e2 : z'.rs = z.rs) (e3 : z'.ls = z.ls) (e4 : z'.psV = z.psV) (e5 : z'.rsV = z.rsV) (e6 : z'.lsV = z.lsV) (e7 : z'.lwV = z.lwV)
  (rg : Own w' lab' 3 1 z'.reg.length z'.regV (ints z'.reg) 4) (sto : z'.stV = .slice none 0 0 ∨ ∃ (j : Nat) (l : LQ) (off n : Nat),z.ls[j]? = some l ∧ Win l.v l.c.length z'.stV off n) (i1 : I64 z'.at') (i2 : I64 z'.n) (i3 : I64 z'.ex) (b3 : z'.reg.length ≤ T) : LwI T w' A z' lab' where
 bk:=hA
 l0:=(t.lb A h.bk.lt).trans h.l0
 ps:=by rw [e1,e4]; exact h.ps.tr t (by simp)
 pg:=by rw [e1]; exact fun p hp=>(h.pg p hp).1.tr t (h.pg p hp).2 (by simp <;> omega)
 rs:=by rw [e2,e5]; exact h.rs.tr t (by simp)
 rn:=by rw [e2]; exact fun j r hr=>(h.rn j r hr).1.tr t (h.rn j r hr).2.1 (h.rn j r hr).2.2 (by simp <;> omega) (by simp <;> omega)
 rg:=rg
 ls:=by rw [e3,e6]; exact h.ls.tr t (by simp)
 lw:=by rw [e3,e7]; exact h.lw.tr t (by simp)
 lc:=by rw [e3]; exact fun j l hl=>(h.lc j l hl).tr t (by simp <;> omega) (by simp <;> omega)
 sto:=by rw [e3]; exact sto
 i1:=i1
 i2:=i2
 i3:=i3
 b1:=by rw [e1]; exact h.b1
 b2:=by rw [e2]; exact h.b2
 b3:=b3
 b4:=by rw [e3]; exact h.b4
theorem LwI.addP (h : LwI T w A z lab) (t : Tr w w' lab lab' [1,2]) {p : PG} {v' : Value} (hA : Bk w' A 112 { z with ps:=z.ps ++ [p],psV:=v' }.cells) (hr : Own w' lab' 22 1 (z.ps.length + 1) v' (z.ps.map (fun p=>ptrA p.A) ++ [ptrA p.A]) 2) (hp : Pg w' p) (hl : ∀ k ∈ p.im,lab' k = 0) : LwI (T + 1) w' A { z with ps:=z.ps ++ [p],psV:=v' } lab' where
 bk:=hA
 l0:=(t.lb A h.bk.lt).trans h.l0
 ps:=by
  show Own w' lab' _ 1 (z.ps ++ [p]).length v' ((z.ps ++ [p]).map (fun p=>ptrA p.A)) 2
  rw [List.length_append,List.length_singleton,List.map_append]; exact hr
 pg:=fun q hq=>by
  rcases List.mem_append.1 hq with hq | hq
  ·exact (h.pg q hq).1.tr t (h.pg q hq).2 (by simp)
  ·rw [List.mem_singleton] at hq; subst hq; exact ⟨hp,hl⟩
 rs:=h.rs.tr t (by simp)
 rn:=fun j r hr=>by
  obtain ⟨a,b⟩:=(h.rn j r hr).1.tr t (h.rn j r hr).2.1 (h.rn j r hr).2.2 (by simp <;> omega) (by simp <;> omega)
  exact ⟨a.up (by omega),b⟩
 rg:=h.rg.tr t (by simp)
 ls:=h.ls.tr t (by simp)
 lw:=h.lw.tr t (by simp)
 lc:=fun j l hl=>((h.lc j l hl).tr t (by simp <;> omega) (by simp <;> omega)).up (by omega)
 sto:=h.sto
 i1:=h.i1
 i2:=h.i2
 i3:=h.i3
 b1:=by show (z.ps ++ [p]).length ≤ T + 1; have:=h.b1; simp; omega
 b2:=by have:=h.b2; exact Nat.le_succ_of_le this
 b3:=by have:=h.b3; exact Nat.le_succ_of_le this
 b4:=by have:=h.b4; show z.ls.length ≤ 2 * (T + 1); omega
theorem LwI.addR (h : LwI T w A z lab) (t : Tr w w' lab lab' [1,3]) {r : RG} {v' : Value} (hA : Bk w' A 112 { z with rs:=z.rs ++ [r],rsV:=v' }.cells) (hr : Own w' lab' 114 1 (z.rs.length + 1) v' (z.rs.map (fun r=>ptrA r.E) ++ [ptrA r.E]) 3) (hn : Rn 0 w' r) (hl : ∀ k ∈ r.im,lab' k = 0) (hf : ∀ k ∈ r.fp,lab' k = 9 + 3 * z.rs.length) : LwI (T + 1) w' A { z with rs:=z.rs ++ [r],rsV:=v' } lab' where
 bk:=hA
 l0:=(t.lb A h.bk.lt).trans h.l0
 ps:=h.ps.tr t (by simp)
 pg:=fun p hp=>(h.pg p hp).1.tr t (h.pg p hp).2 (by simp <;> omega)
 rs:=by
  show Own w' lab' _ 1 (z.rs ++ [r]).length v' ((z.rs ++ [r]).map (fun r=>ptrA r.E)) 3
  rw [List.length_append,List.length_singleton,List.map_append]; exact hr
 rn:=fun j q hq=>by
  rcases get_app hq with hq | ⟨rfl,rfl⟩
  ·obtain ⟨a,b⟩:=(h.rn j q hq).1.tr t (h.rn j q hq).2.1 (h.rn j q hq).2.2 (by simp <;> omega) (by simp <;> omega)
   exact ⟨a.up (by omega),b⟩
  ·exact ⟨hn.up (by omega),hl,hf⟩
 rg:=h.rg.tr t (by simp)
 ls:=h.ls.tr t (by simp)
 lw:=h.lw.tr t (by simp)
 lc:=fun j l hl=>((h.lc j l hl).tr t (by simp <;> omega) (by simp <;> omega)).up (by omega)
 sto:=h.sto
 i1:=h.i1
 i2:=h.i2
 i3:=h.i3
 b1:=by have:=h.b1; exact Nat.le_succ_of_le this
 b2:=by show (z.rs ++ [r]).length ≤ T + 1; have:=h.b2; simp; omega
 b3:=by have:=h.b3; exact Nat.le_succ_of_le this
 b4:=by have:=h.b4; show z.ls.length ≤ 2 * (T + 1); omega
theorem LwI.addL (h : LwI T w A z lab) (t : Tr w w' lab lab' [1,5,6]) {l : LQ} {v1 v2 : Value} (hA : Bk w' A 112 { z with ls:=z.ls ++ [l],lsV:=v1,lwV:=v2 }.cells) (h1 : Own w' lab' 29 1 (z.ls.length + 1) v1 (z.ls.map LQ.v ++ [l.v]) 5) (h2 : Own w' lab' 29 1 (z.ls.length + 1) v2 (z.ls.map LQ.u ++ [l.u]) 6)
  (hl : Li w' lab' T z.ls.length l) (hb : z.ls.length + 1 ≤ 2 * T) : LwI T w' A { z with ls:=z.ls ++ [l],lsV:=v1,lwV:=v2 } lab' where
 bk:=hA
 l0:=(t.lb A h.bk.lt).trans h.l0
 ps:=h.ps.tr t (by simp)
 pg:=fun p hp=>(h.pg p hp).1.tr t (h.pg p hp).2 (by simp <;> omega)
 rs:=h.rs.tr t (by simp)
 rn:=fun j q hq=>(h.rn j q hq).1.tr t (h.rn j q hq).2.1 (h.rn j q hq).2.2 (by simp <;> omega) (by simp <;> omega)
 rg:=h.rg.tr t (by simp)
 ls:=by
  show Own w' lab' _ 1 (z.ls ++ [l]).length v1 ((z.ls ++ [l]).map LQ.v) 5
  rw [List.length_append,List.length_singleton,List.map_append]; exact h1
 lw:=by
  show Own w' lab' _ 1 (z.ls ++ [l]).length v2 ((z.ls ++ [l]).map LQ.u) 6
  rw [List.length_append,List.length_singleton,List.map_append]; exact h2
 lc:=fun j q hq=>by
  rcases get_app hq with hq | ⟨rfl,rfl⟩
  ·exact (h.lc j q hq).tr t (by simp <;> omega) (by simp <;> omega)
  ·exact hl
 sto:=by
  rcases h.sto with hs | ⟨j,q,off,n,hq,hw⟩
  ·exact Or.inl hs
  ·exact Or.inr ⟨j,q,off,n,by
    show (z.ls ++ [l])[j]? = some q
    rw [List.getElem?_append_left (List.getElem?_eq_some_iff.1 hq).1]; exact hq,hw⟩
 i1:=h.i1
 i2:=h.i2
 i3:=h.i3
 b1:=h.b1
 b2:=h.b2
 b3:=h.b3
 b4:=by show (z.ls ++ [l]).length ≤ 2 * T; simp; omega
theorem LwI.goR (h : LwI T w A z lab) {j : Nat} {r r' : RG} (hr : z.rs[j]? = some r) (hE : r'.E = r.E) (hi : r'.im = r.im) (hn : Rn (T + 1) w' r') (hs : Stp r.fp w r'.fp w') : ∃ z' lab',LwI (T + 1) w' A z' lab' ∧ Tr w w' lab lab' [9 + 3 * j]:=by
 obtain ⟨hR,hI,hF⟩:=h.rn j r hr
 have t:=Tr.stp hs hF
 refine ⟨{ z with rs:=z.rs.set j r' },nlb w lab (9 + 3 * j),?_,t⟩
 exact {
  bk:=h.bk.of_eq (t.eq A h.bk.lt (by rw [h.l0]; simp; omega))
  l0:=(t.lb A h.bk.lt).trans h.l0
  ps:=h.ps.tr t (by simp <;> omega)
  pg:=fun p hp=>(h.pg p hp).1.tr t (h.pg p hp).2 (by simp <;> omega)
  rs:=by
   show Own w' _ _ 1 (z.rs.set j r').length z.rsV ((z.rs.set j r').map (fun r=>ptrA r.E)) 3
   rw [List.length_set,map_set_same hr (by rw [hE])]
   exact h.rs.tr t (by simp <;> omega)
  rn:=fun i q hq=>by
   rcases get_set hq with ⟨rfl,rfl⟩ | ⟨hne,hq⟩
   ·refine ⟨hn,fun k hk=>?_,fun k hk=>nlb_foot hs hF hk⟩
    rw [hi] at hk
    exact (t.lb k (hR.lt k (Or.inl hk))).trans (hI k hk)
   ·obtain ⟨a,b⟩:=(h.rn i q hq).1.tr t (h.rn i q hq).2.1 (h.rn i q hq).2.2 (by simp <;> omega) (by simp <;> omega)
    exact ⟨a.up (by omega),b⟩
  rg:=h.rg.tr t (by simp <;> omega)
  ls:=h.ls.tr t (by simp <;> omega)
  lw:=h.lw.tr t (by simp <;> omega)
  lc:=fun i l hl=>((h.lc i l hl).tr t (by simp <;> omega) (by simp <;> omega)).up (by omega)
  sto:=h.sto
  i1:=h.i1
  i2:=h.i2
  i3:=h.i3
  b1:=by have:=h.b1; exact Nat.le_succ_of_le this
  b2:=by show (z.rs.set j r').length ≤ T + 1; have:=h.b2; rw [List.length_set]; omega
  b3:=by have:=h.b3; exact Nat.le_succ_of_le this
  b4:=by have:=h.b4; show z.ls.length ≤ 2 * (T + 1); omega }
theorem LwI.put (h : LwI T w A z lab) {k i : Nat} {l : LQ} (x : Int) (hl : z.ls[k]? = some l) {g1 g2 c1 c2 : Nat} (hv : l.v = .slice (some ⟨g1,0,none⟩) l.c.length c1) (hu : l.u = .slice (some ⟨g2,0,none⟩) l.c.length c2) (_hi : i < l.c.length) :
  ∃ z',LwI T ((w.setCell ⟨g1,i,none⟩ (.int .i64 x)).setCell ⟨g2,i,none⟩ (.int .i64 x)) A z' lab ∧ Tr w ((w.setCell ⟨g1,i,none⟩ (.int .i64 x)).setCell ⟨g2,i,none⟩ (.int .i64 x)) lab lab [7 + 3 * k,8 + 3 * k]:=by
 have hL:=h.lc k l hl
 have o1 : lab g1 = 7 + 3 * k:=hL.v.own g1 (by rw [hv]; rfl)
 have o2 : lab g2 = 8 + 3 * k:=hL.u.own g2 (by rw [hu]; rfl)
 have t : Tr w ((w.setCell ⟨g1,i,none⟩ (.int .i64 x)).setCell ⟨g2,i,none⟩ (.int .i64 x)) lab lab [7 + 3 * k,8 + 3 * k]:=by
  have:=(Tr.set w lab ⟨g1,i,none⟩ (.int .i64 x)).trans (Tr.set _ lab ⟨g2,i,none⟩ (.int .i64 x))
  rw [o1,o2] at this
  exact this
 refine ⟨{ z with ls:=z.ls.set k { l with c:=l.c.set i x } },?_,t⟩
 have n12 : g1 ≠ g2:=by intro e; rw [e,o2] at o1; omega
 have hN : Li ((w.setCell ⟨g1,i,none⟩ (.int .i64 x)).setCell ⟨g2,i,none⟩ (.int .i64 x)) lab T k { l with c:=l.c.set i x }:=by
  refine ⟨⟨?_,fun q hq=>hL.v.own q hq⟩,⟨?_,fun q hq=>hL.u.own q hq⟩,by show (l.c.set i x).length ≤ _; rw [List.length_set]; exact hL.le⟩
  ·have r1:=hL.v.row
   show World.ownsRow _ 0 3 1 l.v (l.c.set i x).length (ints (l.c.set i x))
   rw [hv] at r1 ⊢
   have r2:=(r1.stored i (.int .i64 x)).1
   rw [ints_set] at r2
   rw [List.length_set]
   exact own_setO r2 (by simpa [Value.ownBlock] using n12) _
  ·have r1:=hL.u.row
   show World.ownsRow _ 0 3 1 l.u (l.c.set i x).length (ints (l.c.set i x))
   rw [hu] at r1 ⊢
   have r1':=own_setO r1 (p:=⟨g1,i,none⟩) (by simpa [Value.ownBlock] using fun e=>n12 e.symm) (.int .i64 x)
   have r2:=(r1'.stored i (.int .i64 x)).1
   rw [ints_set] at r2
   rw [List.length_set]
   exact r2
 exact {
  bk:=h.bk.of_eq (t.eq A h.bk.lt (by rw [h.l0]; simp; omega))
  l0:=(t.lb A h.bk.lt).trans h.l0
  ps:=h.ps.tr t (by simp <;> omega)
  pg:=fun p hp=>(h.pg p hp).1.tr t (h.pg p hp).2 (by simp <;> omega)
  rs:=h.rs.tr t (by simp <;> omega)
  rn:=fun j q hq=>(h.rn j q hq).1.tr t (h.rn j q hq).2.1 (h.rn j q hq).2.2 (by simp <;> omega) (by simp <;> omega)
  rg:=h.rg.tr t (by simp <;> omega)
  ls:=by
   show Own _ _ _ 1 (z.ls.set k { l with c:=l.c.set i x }).length z.lsV ((z.ls.set k { l with c:=l.c.set i x }).map LQ.v) 5
   rw [List.length_set,map_set_same (f:=LQ.v) (y:={ l with c:=l.c.set i x }) hl rfl]
   exact h.ls.tr t (by simp <;> omega)
  lw:=by
   show Own _ _ _ 1 (z.ls.set k { l with c:=l.c.set i x }).length z.lwV ((z.ls.set k { l with c:=l.c.set i x }).map LQ.u) 6
   rw [List.length_set,map_set_same (f:=LQ.u) (y:={ l with c:=l.c.set i x }) hl rfl]
   exact h.lw.tr t (by simp <;> omega)
  lc:=fun j q hq=>by
   rcases get_set hq with ⟨rfl,rfl⟩ | ⟨hne,hq⟩
   ·exact hN
   ·exact (h.lc j q hq).tr t (by simp <;> omega) (by simp <;> omega)
  sto:=by
   rcases h.sto with hs | ⟨j,q,off,n,hq,hw⟩
   ·exact Or.inl hs
   ·right
    by_cases e : j = k
    ·subst e
     rw [hl] at hq
     cases hq
     refine ⟨j,{ l with c:=l.c.set i x },off,n,?_,by show Win l.v (l.c.set i x).length z.stV off n; rw [List.length_set]; exact hw⟩
     show (z.ls.set j _)[j]? = _
     rw [List.getElem?_set_self (List.getElem?_eq_some_iff.1 hl).1]
    ·exact ⟨j,q,off,n,by show (z.ls.set k _)[j]? = _; rw [List.getElem?_set_ne (fun c=>e c.symm)]; exact hq,hw⟩
  i1:=h.i1
  i2:=h.i2
  i3:=h.i3
  b1:=h.b1
  b2:=h.b2
  b3:=h.b3
  b4:=by show (z.ls.set k _).length ≤ 2 * T; rw [List.length_set]; exact h.b4 }
end
set_option maxRecDepth 100000 in
set_option maxHeartbeats 1000000 in
theorem copyInts_any {w : World} {v : Value} {l : List Int} (hF : Lst w v 1 l.length (ints l)) :
  Calls Tryz.prog 128 #[v] w fun e w'=>∃ g,e = .returned (.slice (some ⟨g,0,none⟩) l.length l.length) ∧ w'.ownsRow w.heap.size 3 1 (.slice (some ⟨g,0,none⟩) l.length l.length) l.length (ints l) ∧ Below w.heap.size w w':=by
 obtain ⟨i0,hi,hz0,hz1,hz2⟩:=info_parts Tryz.infoInt
 have HF:=hide hF
 obtain ⟨n,hn⟩ : ∃ n,n = l.length:=⟨_,rfl⟩
 obtain ⟨ao,cap,rfl,hnc,hm,hle⟩:=hF.sl
 rw [← hn] at hle hnc ⊢
 have HN:=hide hn
 clear hF hn
 go_enter Tryz.func128,Tryz.ntmps128
 go_wp2_with (at_make; refine wpList_make_full _ rfl _ _ 29 rfl w.heap.size 3 i0 (.int .i64 0) 1 Tryz.underlying29 hi hz0 hz1 .i64 .i64 _ _ n rfl rfl rfl rfl ?b2 ?b3 ?b4 ?_)
 case b2=>first | omega | (rw [hz2]; omega)
 case b3=>unfold maxLen; omega
 try (case b4=>simp)
 intro w1 hown1 hgrow1
 have hb1 : Below w.heap.size w w1:=(Below.refl _ _).grown hgrow1 (Nat.le_refl _) (fun k h=>by cases h)
 obtain ⟨hg1,hl1⟩:=own_heap hown1
 have HG1:=hide hg1
 have HL1:=hide hl1
 have HB1:=hide hb1
 have HC : Hid (0 < (ints l).length → (some ⟨w.heap.size,0,none⟩ : Option Addr) = some ⟨w.heap.size,0,none⟩ ∧ ∃ ad,ao = some ad ∧ ∀ j v,(ints l)[j]? = some v → w1.cell? (ad.add j) = some v):=hide (fun hp=>by
  refine ⟨rfl,?_⟩
  rw [ints_len] at hp
  obtain ⟨g,off,cap',hv,-,-,hc⟩:=(uh HF).get (by omega)
  simp only [Value.slice.injEq] at hv
  refine ⟨_,hv.1,fun j v hj=>?_⟩
  rw [addr_add,hb1.cell (World.block_lt_of_cell? w _ (hc j v hj))]; exact hc j v hj)
 clear hown1 hgrow1 hg1 hl1 hb1
 go_wp2_with (refine wpList_copy_splice rfl (.tmp 7) (.tmp 8) 29 29 rfl 3 Tryz.underlying29 Tryz.sizeInt (some ⟨w.heap.size,0,none⟩) ao n n n cap rfl rfl w.heap.size 0 _ 3 (uh HG1) (ints l) ?c1 (uh HC) ?c3 (ints_one l) w.heap.size w (uh HB1) (Nat.le_refl _) ?_)
 case c1=>rw [ints_len,← uh HN]
 case c3 =>
  have h1:=uh HL1
  simp only [Array.length_toList] at h1
  rw [ints_len,← uh HN]; omega
 intro w2 hg2 hb2
 have e2 : splice (madeCells #[Value.int .i64 0] n).toList 0 (ints l) = ints l:=by
  have h1:=uh HL1
  unfold splice
  rw [List.take_zero,List.nil_append,List.drop_eq_nil_of_le (by rw [h1,ints_len,← uh HN]; omega),List.append_nil]
 have HO2 : Hid (w2.ownsRow w.heap.size 3 1 (.slice (some ⟨w.heap.size,0,none⟩) n n) n (ints l)):=hide (heap_own (by have:=uh hg2; rwa [e2] at this) (by rw [ints_len,← uh HN]) (Nat.le_refl _) (by unfold maxLen; omega))
 have HB2:=hide hb2
 clear hg2 hb2 e2
 go_wp2_with fail
 go_ret
 exact ⟨_,rfl,uh HO2,uh HB2⟩
set_option maxRecDepth 100000 in
set_option maxHeartbeats 2000000 in
theorem same_any {w : World} {n h : Nat} {a c : List Int} {v1 v2 u1 u2 : Value} (h1 : Lst w v1 1 a.length (ints a)) (h2 : Lst w v2 1 c.length (ints c)) (k1 : Lst w u1 1 a.length (ints a)) (k2 : Lst w u2 1 c.length (ints c)) :
  Calls Tryz.prog 90 #[.agg #[.int .i64 (n : Int),.int .i64 (h : Int),v1,v2],.agg #[.int .i64 (n : Int),.int .i64 (h : Int),u1,u2]] w fun e w'=>e = .returned (.bool true) ∧ Below w.heap.size w w':=by
 obtain ⟨o1,c1,rfl,-,-,-⟩:=h1.sl
 obtain ⟨o2,c2,rfl,-,-,-⟩:=h2.sl
 obtain ⟨p1,d1,rfl,-,-,-⟩:=k1.sl
 obtain ⟨p2,d2,rfl,-,-,-⟩:=k2.sl
 obtain ⟨w0,hw0⟩ : ∃ w0,w0 = (w.alloc (.cells #[.int .i64 (n : Int),.int .i64 (h : Int),.slice o1 a.length c1,.slice o2 c.length c2] 68)).alloc (.cells #[.int .i64 (n : Int),.int .i64 (h : Int),.slice p1 a.length d1,.slice p2 c.length d2] 68):=⟨_,rfl⟩
 have hb0 : Below w.heap.size w w0:=by rw [hw0]; exact ((Below.refl _ _).alloc (Nat.le_refl _) _).alloc (by simp) _
 have hA : Bk w0 w.heap.size 68 [.int .i64 (n : Int),.int .i64 (h : Int),.slice o1 a.length c1,.slice o2 c.length c2]:=by rw [hw0]; exact (Bk.new w _ [_,_,_,_]).alloc _
 have hB : Bk w0 (w.heap.size + 1) 68 [.int .i64 (n : Int),.int .i64 (h : Int),.slice p1 a.length d1,.slice p2 c.length d2]:=by
  rw [hw0]
  have:=Bk.new (w.alloc (.cells #[.int .i64 (n : Int),.int .i64 (h : Int),.slice o1 a.length c1,.slice o2 c.length c2] 68)) 68 [.int .i64 (n : Int),.int .i64 (h : Int),.slice p1 a.length d1,.slice p2 c.length d2]
  simpa using this
 have HS1 : Hid (∀ w',Below w0.heap.size w0 w' → Calls Tryz.prog 87 #[.slice o1 a.length c1,.slice p1 a.length d1] w' fun e w''=>e = .returned (.bool true) ∧ Below w0.heap.size w0 w''):=hide (fun w' hb=>(sameInts_any ((h1.below hb0).below hb) ((k1.below hb0).below hb)).mono (by
  rintro e w'' ⟨rfl,n,rfl⟩
  exact ⟨by simp,hb.trans ((below_drewQ w' n).mono hb.size)⟩))
 have HS2 : Hid (∀ w',Below w0.heap.size w0 w' → Calls Tryz.prog 87 #[.slice o2 c.length c2,.slice p2 c.length d2] w' fun e w''=>e = .returned (.bool true) ∧ Below w0.heap.size w0 w''):=hide (fun w' hb=>(sameInts_any ((h2.below hb0).below hb) ((k2.below hb0).below hb)).mono (by
  rintro e w'' ⟨rfl,n,rfl⟩
  exact ⟨by simp,hb.trans ((below_drewQ w' n).mono hb.size)⟩))
 have x2:=hA.cell 2 rfl
 have y2:=hB.cell 2 rfl
 have HA:=hide hA
 have HB:=hide hB
 have HB0:=hide hb0
 clear h1 h2 k1 k2 hA hB hb0
 go_enter Tryz.func90,Tryz.ntmps90
 go_wp2_with fail
 rw [← hw0]
 refine (uh HS1 w0 (Below.refl _ _)).mono ?_
 rintro e w1 ⟨rfl,hb1⟩
 have x3:=((uh HA).below hb1).cell 3 rfl
 have y3:=((uh HB).below hb1).cell 3 rfl
 have HB1:=hide hb1
 clear hb1 x2 y2
 go_wp2_with fail
 refine (uh HS2 w1 (uh HB1)).mono ?_
 rintro e w2 ⟨rfl,hb2⟩
 have x0:=((uh HA).below hb2).cell 0 rfl
 have y0:=((uh HB).below hb2).cell 0 rfl
 have x1:=((uh HA).below hb2).cell 1 rfl
 have y1:=((uh HB).below hb2).cell 1 rfl
 have HB2:=hide hb2
 clear hb2 x3 y3
 go_wp2_with fail
 go_ret
 exact ⟨rfl,(uh HB0).trans ((uh HB2).mono (uh HB0).size)⟩
section
variable {T : Nat} {w : World} {r : RG}
set_option maxRecDepth 100000 in
set_option maxHeartbeats 2000000 in
theorem stands_any (h : Rn T w r) (hT : T ≤ 16384) (ask : Bool) : Calls Tryz.prog 59 #[.pointer (some ⟨r.E,0,none⟩),.bool ask] w fun e w'=>e = .returned (.bool true) ∧ Below w.heap.size w w':=by
 have e2 : w.cell? ⟨r.E,2,none⟩ = some (.pointer (some ⟨r.y.R,0,none⟩)):=h.bk.cell 2 rfl
 have H:=hide h
 have hal:=h.adl
 have HRS:=hide (rstate_any h.rc (by have:=h.pg.ns4; omega) (by omega) h.hok)
 clear h
 cases ask with
 | false =>
  go_enter Tryz.func59,Tryz.ntmps59
  go_wp2_with fail
  refine (uh HRS).mono ?_
  rintro e w1 ⟨sv,xv,rfl,hr1,hr2,hb1⟩
  obtain ⟨a1,k1,rfl⟩:=slice_of_own hr1
  obtain ⟨a2,k2,rfl⟩:=slice_of_own hr2
  have hbx:=hb1.trans ((below_boxQ w1 (.cells #[.int .i64 (r.r.nd : Int),.int .i64 (r.r.wh : Int),.slice a1 r.r.st.length k1,.slice a2 (2 * r.r.ad.length) k2] 68)).mono hb1.size)
  have q0:=((uh H).bk.below hbx).cell 0 rfl
  have q4:=((uh H).pg.bk.below hbx).cell 4 rfl
  have HB:=hide hbx
  unfold ptrA at q0
  clear hbx hr1 hr2 hb1
  go_wp2_with fail
  go_ret
  exact ⟨rfl,uh HB⟩
 | true =>
  go_enter Tryz.func59,Tryz.ntmps59
  go_wp2_with fail
  refine (uh HRS).mono ?_
  rintro e w1 ⟨sv,xv,rfl,hr1,hr2,hb1⟩
  obtain ⟨a1,k1,rfl⟩:=slice_of_own hr1
  obtain ⟨a2,k2,rfl⟩:=slice_of_own hr2
  obtain ⟨W1,hW1⟩ : ∃ W1,W1 = w1.alloc (.cells #[.int .i64 (r.r.nd : Int),.int .i64 (r.r.wh : Int),.slice a1 r.r.st.length k1,.slice a2 (2 * r.r.ad.length) k2] 68):=⟨_,rfl⟩
  have hw1 : Below w1.heap.size w1 W1:=by rw [hW1]; exact below_boxQ w1 _
  have hbx:=hb1.trans (hw1.mono hb1.size)
  have hn1 : Bk W1 w1.heap.size 68 [.int .i64 (r.r.nd : Int),.int .i64 (r.r.wh : Int),.slice a1 r.r.st.length k1,.slice a2 (2 * r.r.ad.length) k2]:=by rw [hW1]; exact Bk.new w1 _ [_,_,_,_]
  have e1:=((uh H).bk.below hbx).cell 1 rfl
  unfold ptrA at e1
  have HLS:=hide (lstate_any ((uh H).by'.below hbx) ((uh H).mc.below hbx) (by have:=(uh H).csl; omega))
  have HN1:=hide hn1
  have HB1:=hide hbx
  have HR1:=hide (own_bw hr1 hw1)
  have HR2:=hide (own_bw hr2 hw1)
  rw [hW1] at e1 HLS
  have HW1:=hide hW1
  clear hr1 hr2 hb1 hw1 hbx hn1 HRS hW1
  go_wp2_with fail
  refine (uh HLS).mono ?_
  rintro e w2 ⟨g1,g2,rfl,hst,hb2⟩
  rw [← uh HW1] at hst hb2
  unfold stV
  obtain ⟨W2,hW2⟩ : ∃ W2,W2 = w2.alloc (.cells #[.int .i64 (r.m.nd : Int),.int .i64 (r.m.wh : Int),.slice (some ⟨g1,0,none⟩) r.m.st.length r.m.st.length,.slice (some ⟨g2,0,none⟩) (2 * r.m.cs.length) (2 * r.m.cs.length)] 68):=⟨_,rfl⟩
  have hw2 : Below w2.heap.size w2 W2:=by rw [hW2]; exact below_boxQ w2 _
  have hb12:=hb2.trans (hw2.mono hb2.size)
  have hn1:=(uh HN1).below hb12
  have x0:=hn1.cell 0 rfl
  have x1:=hn1.cell 1 rfl
  have x2:=hn1.cell 2 rfl
  have x3:=hn1.cell 3 rfl
  have hbw:=(uh HB1).trans (hb12.mono (uh HB1).size)
  have hR:=(uh H).below hbw
  have hm:=(uh H).mr
  have hcl : r.m.cs.length = r.r.ad.length:=(uh H).csl
  have hfl:=flC_len r.m.cs
  have l1 : Lst W2 (.slice a1 r.r.st.length k1) 1 r.r.st.length (ints r.r.st):=(Lst.of_own (uh HR1) (by have:=(uh H).rc.ls; have:=(uh H).pg.ns4; omega)).below hb12
  have l2 : Lst W2 (.slice a2 (2 * r.r.ad.length) k2) 1 (flC r.m.cs).length (ints (flC r.m.cs)):=by
   have h2:=own_bw (uh HR2) hb12
   rw [(uh H).so] at h2
   rw [hfl,hcl]
   exact Lst.of_own h2 (by omega)
  have l3 : Lst W2 (.slice (some ⟨g1,0,none⟩) r.m.st.length r.m.st.length) 1 r.r.st.length (ints r.r.st):=by
   have h3:=own_bw hst.r1 hw2
   rw [hm.st] at h3 ⊢
   exact Lst.of_own h3 (by have:=(uh H).rc.ls; have:=(uh H).pg.ns4; omega)
  have l4 : Lst W2 (.slice (some ⟨g2,0,none⟩) (2 * r.m.cs.length) (2 * r.m.cs.length)) 1 (flC r.m.cs).length (ints (flC r.m.cs)):=by
   have h3:=own_bw hst.r2 hw2
   rw [flC_ints,hfl]
   exact Lst.of_own h3 (by omega)
  have HSM:=hide (same_any (n:=r.r.nd) (h:=r.r.wh) l1 l2 l3 l4)
  rw [← hm.nd,← hm.wh] at HSM
  rw [hW2] at x0 x1 x2 x3 HSM
  rw [← hm.nd] at x0
  rw [← hm.wh] at x1
  have HBW:=hide hbw
  have HW2:=hide hW2
  clear hst hb2 hw2 hb12 hn1 hbw hR hm hcl hfl l1 l2 l3 l4 hW2 HLS e1 e2
  go_wp2_with fail
  refine (uh HSM).mono ?_
  rintro e w3 ⟨rfl,hb3⟩
  rw [← uh HW2] at hb3
  have hb:=(uh HBW).trans (hb3.mono (uh HBW).size)
  have q0:=((uh H).bk.below hb).cell 0 rfl
  have q4:=((uh H).pg.bk.below hb).cell 4 rfl
  unfold ptrA at q0
  have HB:=hide hb
  clear hb hb3 HSM x0 x1 x2 x3
  go_wp2_with fail
  go_ret
  exact ⟨rfl,uh HB⟩
end
theorem Tryz.infoSl : (Tryz.prog.info? 29).map (fun i=>(i.zero,i.size,i.bytes)) = some (some (.slice none 0 0),1,24):=by kernel_rfl
theorem Tryz.infoPp : (Tryz.prog.info? 22).map (fun i=>(i.zero,i.size,i.bytes)) = some (some (.pointer none),1,8):=by kernel_rfl
theorem Tryz.infoPr : (Tryz.prog.info? 114).map (fun i=>(i.zero,i.size,i.bytes)) = some (some (.pointer none),1,8):=by kernel_rfl
section
variable {T A : Nat} {w w0 w1 w' : World} {z : WS} {lab lab' : Nat → Nat}
theorem grow_own {e sz n a g cap : Nat} {v : Value} {xs ys : List Value} (h : Own w lab e sz n v xs a) (hb : Below w.heap.size w w0) (hg : w0.grownBy w1 v.ownBlock) (hown : w1.ownsRow 0 e sz (.slice (some ⟨g,0,none⟩) (n + 1) cap) (n + 1) ys) (hblk : some g = v.ownBlock ∨ g = w0.heap.size) :
  ∃ lab1,Tr w w1 lab lab1 [a] ∧ Own w1 lab1 e sz (n + 1) (.slice (some ⟨g,0,none⟩) (n + 1) cap) ys a:=by
 have t0:=Tr.bw hb lab
 have t1:=Tr.grown (b:=a) (lab:=lab) hg (fun k hk=>h.own k hk)
 refine ⟨nlb w0 lab a,(t0.trans t1).sub (by simp),hown,fun k hk=>?_⟩
 simp only [Value.ownBlock,Option.some.injEq] at hk
 subst hk
 rcases hblk with e | e
 ·have:=(h.row.lt g e.symm).2
  rw [nlb_old (Nat.lt_of_lt_of_le this hb.size)]
  exact h.own g e.symm
 ·exact nlb_new (by omega)
theorem Own.lst {a : Nat} {v : Value} {c : List Int} (h : Own w lab 3 1 c.length v (ints c) a) (hn : c.length ≤ 40000) : Lst w v 1 c.length (ints c):=Lst.of_own h.row hn
set_option maxRecDepth 100000 in
set_option maxHeartbeats 2000000 in
theorem keep_any (h : LwI T w A z lab) {v : Value} {c : List Int} (hv : Own w lab 3 1 c.length v (ints c) (7 + 3 * z.ls.length)) (hc : c.length ≤ 2 * (8 + T)) (hb : z.ls.length + 1 ≤ 2 * T) (hT : T ≤ 16384) :
  Calls Tryz.prog 129 #[.pointer (some ⟨A,0,none⟩),v] w fun e w'=>e = .returned (.tuple #[]) ∧ ∃ z' lab',LwI T w' A z' lab' ∧ z'.ls.length = z.ls.length + 1 ∧ z'.rs = z.rs ∧ Tr w w' lab lab' [1,5,6]:=by
 obtain ⟨i0,hi,hz0,hz1,hz2⟩:=info_parts Tryz.infoSl
 obtain ⟨va,vc,rfl,-,-⟩:=own_slc hv.row
 have HV:=hide hv
 have H:=hide h
 obtain ⟨sa,sc,hs,-,-⟩:=own_slc h.ls.row
 obtain ⟨ua,uc,hu,-,-⟩:=own_slc h.lw.row
 have c3 : w.cell? ⟨A,3,none⟩ = some (.slice sa z.ls.length sc):=by rw [← hs]; exact h.bk.cell 3 rfl
 have HS : Hid (w.ownsRow 0 29 1 (.slice sa z.ls.length sc) z.ls.length (z.ls.map LQ.v)):=hide (by rw [← hs]; exact h.ls.row)
 have HSV:=hide hs
 have HUV:=hide hu
 clear h hv hs hu
 go_enter Tryz.func129,Tryz.ntmps129
 go_wp2_with (at_builtin; refine wpList_app1 _ rfl (.tmp 9) (.tmp 11) 109 rfl 0 29 i0 _ 1 24 Tryz.underlying109 hi hz0 hz1 hz2 rfl (by decide) _ z.ls.length (z.ls.map LQ.v) rfl ((uh HS).alloc _) ⟨_,0,none⟩ 1 [.slice va c.length vc] rfl rfl (new_cells _ _ (by simp) [.slice va c.length vc] _) (by intro u hu; simp only [List.mem_singleton] at hu; subst hu; rfl) (by omega) (by omega) (Nat.zero_le _) ?_)
 intro g1 cap1 w1 hown1 hgrow1 hblk1
 obtain ⟨lab1,t1,o1⟩:=grow_own (v:=.slice sa z.ls.length sc) (lab:=lab) (a:=5) ⟨uh HS,fun k hk=>(uh H).ls.own k (by rw [uh HSV]; exact hk)⟩ (below_boxQ w _) hgrow1 hown1 (by simpa using hblk1)
 have bk1 : Bk w1 A 112 z.cells:=(uh H).bk.of_eq (t1.eq A (uh H).bk.lt (by rw [(uh H).l0]; simp))
 have lA1 : lab1 A = 1:=(t1.lb A (uh H).bk.lt).trans (uh H).l0
 have d3:=bk1.cell 3 rfl
 have f3:=bk1.frz 3
 obtain ⟨w2,hw2⟩ : ∃ w2,w2 = w1.setCell ⟨A,3,none⟩ (.slice (some ⟨g1,0,none⟩) (z.ls.length + 1) cap1):=⟨_,rfl⟩
 have t2 : Tr w w2 lab lab1 [5,1]:=by
  have:=t1.trans (Tr.set w1 lab1 ⟨A,3,none⟩ (.slice (some ⟨g1,0,none⟩) (z.ls.length + 1) cap1))
  rw [← hw2,lA1] at this
  exact this
 have t12 : Tr w1 w2 lab1 lab1 [1]:=by
  have:=Tr.set w1 lab1 ⟨A,3,none⟩ (.slice (some ⟨g1,0,none⟩) (z.ls.length + 1) cap1)
  rw [← hw2,lA1] at this
  exact this
 have o2:=o1.tr t12 (by simp)
 have v2:=(uh HV).tr t2 (by simp; omega)
 have bk2 : Bk w2 A 112 (z.cells.set 3 (.slice (some ⟨g1,0,none⟩) (z.ls.length + 1) cap1)):=by rw [hw2]; exact bk1.set 3 _
 have HCI:=hide (copyInts_any (v2.lst (by omega)))
 rw [hw2] at HCI
 have HW2:=hide hw2
 have HT2:=hide t2
 have HO2:=hide o2
 have HV2:=hide v2
 have HBk2:=hide bk2
 clear hown1 hgrow1 hblk1 t1 o1 bk1 lA1 hw2 t2 t12 o2 v2 bk2 HS c3
 go_wp2_with fail
 refine (uh HCI).mono ?_
 rintro e w3 ⟨g2,rfl,r3,b3⟩
 rw [← uh HW2] at r3 b3
 have t3:=Tr.bwN b3 lab1 (8 + 3 * z.ls.length)
 have t03:=(uh HT2).trans t3
 have o3:=(uh HO2).tr t3 (by simp)
 have v3:=(uh HV2).tr t3 (by simp)
 have u3 : Own w3 (nlb w2 lab1 (8 + 3 * z.ls.length)) 3 1 c.length (.slice (some ⟨g2,0,none⟩) c.length c.length) (ints c) (8 + 3 * z.ls.length):=⟨own_le r3 (Nat.zero_le _),fun k hk=>nlb_new (r3.lt k hk).1⟩
 have bk3:=(uh HBk2).below b3
 have lw3 : Own w3 (nlb w2 lab1 (8 + 3 * z.ls.length)) 29 1 z.ls.length (.slice ua z.ls.length uc) (z.ls.map LQ.u) 6:=by
  have:=(uh H).lw.tr t03 (by simp)
  rwa [uh HUV] at this
 have c4 : w3.cell? ⟨A,4,none⟩ = some (.slice ua z.ls.length uc):=by
  rw [← uh HUV]; exact bk3.cell 4 rfl
 have HL3 : Hid (w3.ownsRow 0 29 1 (.slice ua z.ls.length uc) z.ls.length (z.ls.map LQ.u)):=hide lw3.row
 have HLW3:=hide lw3
 have HT3:=hide t03
 have HO3:=hide o3
 have HV3:=hide v3
 have HU3:=hide u3
 have HBk3:=hide bk3
 clear r3 b3 t3 t03 o3 v3 u3 bk3 lw3 d3 f3 HCI
 go_wp2_with (at_builtin; refine wpList_app1 _ rfl (.tmp 21) (.tmp 23) 109 rfl 0 29 i0 _ 1 24 Tryz.underlying109 hi hz0 hz1 hz2 rfl (by decide) _ z.ls.length (z.ls.map LQ.u) rfl ((uh HL3).alloc _) ⟨_,0,none⟩ 1 [.slice (some ⟨g2,0,none⟩) c.length c.length] rfl rfl (new_cells _ _ (by simp) [.slice (some ⟨g2,0,none⟩) c.length c.length] _) (by intro u hu; simp only [List.mem_singleton] at hu; subst hu; rfl) (by omega) (by omega) (Nat.zero_le _) ?_)
 intro g4 cap4 w4 hown4 hgrow4 hblk4
 obtain ⟨lab4,t4,o4⟩:=grow_own (uh HLW3) (below_boxQ w3 _) hgrow4 hown4 (by simpa using hblk4)
 have lA3 : nlb w2 lab1 (8 + 3 * z.ls.length) A = 1:=((uh HT3).lb A (uh H).bk.lt).trans (uh H).l0
 have bk4:=(uh HBk3).of_eq (t4.eq A (uh HBk3).lt (by rw [lA3]; simp))
 have lA4 : lab4 A = 1:=(t4.lb A (uh HBk3).lt).trans lA3
 have d4:=bk4.cell 4 rfl
 have f4:=bk4.frz 4
 have t5 : Tr w4 (w4.setCell ⟨A,4,none⟩ (.slice (some ⟨g4,0,none⟩) (z.ls.length + 1) cap4)) lab4 lab4 [1]:=by
  have:=Tr.set w4 lab4 ⟨A,4,none⟩ (.slice (some ⟨g4,0,none⟩) (z.ls.length + 1) cap4)
  rw [lA4] at this
  exact this
 have tall:=((uh HT3).trans (t4.trans t5)).sub (C:=[1,5,6]) (by simp)
 have hI : LwI T (w4.setCell ⟨A,4,none⟩ (.slice (some ⟨g4,0,none⟩) (z.ls.length + 1) cap4)) A { z with ls:=z.ls ++ [⟨.slice va c.length vc,.slice (some ⟨g2,0,none⟩) c.length c.length,c⟩],lsV:=.slice (some ⟨g1,0,none⟩) (z.ls.length + 1) cap1,lwV:=.slice (some ⟨g4,0,none⟩) (z.ls.length + 1) cap4 } lab4 :=
  (uh H).addL tall (bk4.set 4 _) (((uh HO3).tr t4 (by simp)).tr t5 (by simp)) (o4.tr t5 (by simp)) ⟨((uh HV3).tr t4 (by simp; omega)).tr t5 (by simp; omega),((uh HU3).tr t4 (by simp; omega)).tr t5 (by simp; omega),hc⟩ hb
 have HI:=hide hI
 have HT:=hide tall
 clear hown4 hgrow4 hblk4 t4 o4 lA3 bk4 lA4 t5 tall hI c4
 go_wp2_with fail
 go_end0
 exact ⟨rfl,_,_,uh HI,by simp,rfl,uh HT⟩
end
theorem pick_quiet {w : World} {m : Nat} {c : Int} {n : Nat} (hn : 0 < n) (hn2 : n ≤ 1000000) (hc : I64 c) :
  Calls Tryz.prog 83 #[.int .i64 c,.int .i64 n] (w.drewN m) fun e w''=>e = .returned (.int .i64 (pkI c n : Nat)) ∧ ∃ m,w'' = w.drewN m :=
 Calls.quiet_of_same (pick_any (w.drewN m) c n hn hn2 hc)
theorem pick_at {w : World} {c : Int} {N : Nat} (n : Int) (hn : n = (N : Int)) (h0 : 0 < N) (hn2 : N ≤ 1000000) (hc : I64 c) :
  Calls Tryz.prog 83 #[.int .i64 c,.int .i64 n] w fun e w'=>e = .returned (.int .i64 (pkI c N : Nat)) ∧ w' = w:=by subst hn; exact pick_any w c N h0 hn2 hc
def WinOf (z : WS) (u : Value) : Prop:=u = .slice none 0 0 ∨ ∃ (j : Nat) (l : LQ) (off n : Nat),z.ls[j]? = some l ∧ Win l.v l.c.length u off n
theorem win_all {ao : Option Addr} {C vc a n cp : Nat} (h1 : ao = none → vc = 0 ∧ C = 0) (h2 : ∀ ad,ao = some ad → ∃ g',ad = ⟨g',0,none⟩) (hs : a + n ≤ C) (hn : n ≤ cp) (hc : cp ≤ C) (hm : C ≤ 40000) : Win (.slice ao C vc) C (.slice (ao.map (fun x=>x.add a)) n cp) a n:=by
 cases ao with
 | none =>
  obtain ⟨-,rfl⟩:=h1 rfl
  obtain rfl : cp = 0:=by omega
  obtain rfl : n = 0:=by omega
  exact Or.inl ⟨rfl,rfl⟩
 | some ad =>
  obtain ⟨g',rfl⟩:=h2 ad rfl
  exact Or.inr ⟨g',vc,0 + a,cp,rfl,by rw [Option.map_some,addr_add],hn,by unfold maxLen; omega,hs,fun _=>Nat.zero_add a⟩
theorem win_zero {ao : Option Addr} {C vc a n : Nat} (h1 : ao = none → vc = 0 ∧ C = 0) (h2 : ∀ ad,ao = some ad → ∃ g',ad = ⟨g',0,none⟩) (hs : a + n ≤ C) (hn : n = 0) : Win (.slice ao C vc) C (.slice ao n 0) a n:=by
 subst hn
 cases ao with
 | none=>exact Or.inl ⟨rfl,rfl⟩
 | some ad =>
  obtain ⟨g',rfl⟩:=h2 ad rfl
  exact Or.inr ⟨g',vc,0,0,rfl,rfl,Nat.le_refl _,Nat.zero_le _,hs,fun h=>absurd h (Nat.lt_irrefl _)⟩
section
variable {T A : Nat} {w : World} {z : WS} {lab : Nat → Nat}
theorem own_cell {e n a : Nat} {v : Value} {xs : List Value} (h : Own w lab e 1 n v xs a) {j : Nat} {u : Value} (hu : xs[j]? = some u) : ∃ g cap,v = .slice (some ⟨g,0,none⟩) n cap ∧ n ≤ cap ∧ cap ≤ 9223372036854775807 ∧ j < n ∧ w.cell? ⟨g,j,none⟩ = some u:=by
 have hj : j < n:=by
  have:=(List.getElem?_eq_some_iff.1 hu).1
  rw [h.row.1] at this; omega
 obtain ⟨g,cap,rfl,h1,h2,-⟩:=own_pos h.row (by omega)
 exact ⟨g,cap,rfl,h1,h2,hj,(h.row.cellAt j (by omega)).trans hu⟩
set_option maxRecDepth 100000 in
set_option maxHeartbeats 4000000 in
theorem window_any (h : LwI T w A z lab) (hT : T ≤ 16384) (k : Int) (hk : I64 k) : Calls Tryz.prog 81 #[.pointer (some ⟨A,0,none⟩),.int .i64 k] w fun e w'=>∃ u,e = .returned u ∧ WinOf z u ∧ ∃ n,w' = w.drewN n:=by
 have c3:=h.bk.cell 3 rfl
 have h4:=h.b4
 by_cases h0 : z.ls.length = 0
 ·have hl : z.lsV = .slice none 0 0 ∨ ∃ g cap,z.lsV = .slice (some ⟨g,0,none⟩) 0 cap:=by
   have:=h.ls.row.2
   rw [h0] at this
   rcases this with ⟨e,-⟩ | ⟨g,cap,_,e,_⟩
   ·exact Or.inl e
   ·exact Or.inr ⟨g,cap,e⟩
  rcases hl with e | ⟨g,cap,e⟩
  ·rw [e] at c3
   clear h h0 e
   go_enter Tryz.func81,Tryz.ntmps81
   go_wp2_with fail
   go_ret
   exact ⟨_,rfl,Or.inl rfl,0,rfl⟩
  ·rw [e] at c3
   clear h h0 e
   go_enter Tryz.func81,Tryz.ntmps81
   go_wp2_with fail
   go_ret
   exact ⟨_,rfl,Or.inl rfl,0,rfl⟩
 ·obtain ⟨N,hN⟩ : ∃ N,N = z.ls.length:=⟨_,rfl⟩
  obtain ⟨j,hj⟩ : ∃ j,j = pkI k N:=⟨_,rfl⟩
  have hjN : j < N:=by rw [hj]; exact pkI_lt (by omega)
  obtain ⟨l,hl⟩ : ∃ l,z.ls[j]? = some l:=⟨_,List.getElem?_eq_getElem (by omega)⟩
  have hL:=h.lc j l hl
  obtain ⟨g,cap,e,hc1,hc2,-,x⟩:=own_cell h.ls (u:=l.v) (j:=j) (by simp [hl])
  rw [← hN] at e hc1
  rw [e] at c3
  have c8 : w.cell? ⟨A,8,none⟩ = some (.int .i64 z.at'):=h.bk.cell 8 rfl
  have c9 : w.cell? ⟨A,9,none⟩ = some (.int .i64 z.n):=h.bk.cell 9 rfl
  have c10 : w.cell? ⟨A,10,none⟩ = some (.int .i64 z.ex):=h.bk.cell 10 rfl
  have hle:=hL.le
  have d0 : ((N : Int) == 0) = false:=by simp; omega
  have HPK : Hid (∀ n,Calls Tryz.prog 83 #[.int .i64 k,.int .i64 N] (w.drewN n) fun e w''=>e = .returned (.int .i64 (j : Nat)) ∧ ∃ m,w'' = w.drewN m):=hide (fun n=>by rw [hj]; exact pick_quiet (by omega) (by omega) hk)
  have HI:=hide (⟨h.i1,h.i2,h.i3⟩ : I64 z.at' ∧ I64 z.n ∧ I64 z.ex)
  obtain ⟨ao,vc,hv,hvc,hvm⟩:=own_slc hL.v.row
  rw [hv] at x
  have HW : Hid (∀ u off n,Win (.slice ao l.c.length vc) l.c.length u off n → WinOf z u):=hide (fun u off n hw=>Or.inr ⟨j,l,off,n,hl,by rw [hv]; exact hw⟩)
  have hjl : ((j : Int)) < (N : Int):=by omega
  have hj0 : (0 : Int) ≤ (j : Int):=by omega
  have HAO : Hid (ao = none → vc = 0 ∧ l.c.length = 0):=hide (fun hn=>by
   subst hn
   rcases hL.v.row.2 with ⟨e2,e3⟩ | ⟨_,_,_,e2,_⟩
   ·rw [hv] at e2
    simp only [Value.slice.injEq,true_and] at e2
    exact ⟨e2.2,e3⟩
   ·rw [hv] at e2; simp at e2)
  have HG : Hid (∀ ad,ao = some ad → ∃ g',ad = ⟨g',0,none⟩):=hide (fun ad hn=>by
   subst hn
   rcases hL.v.row.2 with ⟨e2,e3⟩ | ⟨g',_,_,e2,_⟩
   ·rw [hv] at e2; simp at e2
   ·rw [hv] at e2
    simp only [Value.slice.injEq,Option.some.injEq] at e2
    exact ⟨g',e2.1⟩)
  obtain ⟨C,hC⟩ : ∃ C,C = l.c.length:=⟨_,rfl⟩
  rw [← hC] at hle hvc x HW HAO
  clear h h0 e hL hv hl hN hj hC
  go_enter Tryz.func81,Tryz.ntmps81
  go_wp2_with fail
  go_quiet ((go_at_call 83; exact uh HPK _))
  go_wp2_with fail
  refine (pick_at _ (N:=C + 1) (by omega) (by omega) (by omega) (uh HI).1).mono ?_
  rintro e w1 ⟨rfl,rfl⟩
  obtain ⟨a,ha⟩ : ∃ a,a = pkI z.at' (C + 1):=⟨_,rfl⟩
  have haC : a ≤ C:=by have:=pkI_lt (c:=z.at') (n:=C + 1) (by omega); omega
  rw [← ha]
  clear ha
  go_wp2_with fail
  refine (pick_at _ (N:=C - a + 1) (by omega) (by omega) (by omega) (uh HI).2.1).mono ?_
  rintro e w1 ⟨rfl,rfl⟩
  obtain ⟨n,hn⟩ : ∃ n,n = pkI z.n (C - a + 1):=⟨_,rfl⟩
  have hnC : a + n ≤ C:=by have:=pkI_lt (c:=z.n) (n:=C - a + 1) (by omega); omega
  rw [← hn]
  clear hn
  go_wp2_with fail
  refine (pick_at _ (N:=C - a - n + 1) (by omega) (by omega) (by omega) (uh HI).2.2).mono ?_
  rintro e w1 ⟨rfl,rfl⟩
  obtain ⟨ex,hex⟩ : ∃ ex,ex = pkI z.ex (C - a - n + 1):=⟨_,rfl⟩
  have hexC : a + n + ex ≤ C:=by have:=pkI_lt (c:=z.ex) (n:=C - a - n + 1) (by omega); omega
  rw [← hex]
  clear hex
  go_wp2_with fail
  all_goals
   go_ret
   refine ⟨_,rfl,uh HW _ a n ?_,nq,rfl⟩
   first
    | exact win_all (uh HAO) (uh HG) (by omega) (by omega) (by omega) (by omega)
    | exact win_zero (uh HAO) (uh HG) (by omega) (by omega)
end
structure Opr where
 k : Int
 a : Int
 b : Int
 c : Int
 s : ByteArray
 t : ByteArray
def Opr.cells (o : Opr) : List Value:=[.int .i64 o.k,.int .i64 o.a,.int .i64 o.b,.int .i64 o.c,.string o.s,.string o.t]
def opC (l : List Opr) : List Value:=l.flatMap Opr.cells
theorem opC_len (l : List Opr) : (opC l).length = l.length * 6:=by
 induction l with
 | nil=>rfl
 | cons o r ih =>
  have e : opC (o :: r) = o.cells ++ opC r:=rfl
  rw [e,List.length_append,ih]
  simp [Opr.cells]; omega
theorem opC_app (l m : List Opr) : opC (l ++ m) = opC l ++ opC m:=by simp [opC]
theorem opC_get {l : List Opr} {i j : Nat} {o : Opr} (h : l[i]? = some o) (hj : j < 6) : (opC l)[i * 6 + j]? = o.cells[j]?:=by
 induction l generalizing i with
 | nil=>cases h
 | cons x r ih =>
  have e : opC (x :: r) = x.cells ++ opC r:=rfl
  have hx : x.cells.length = 6:=rfl
  cases i with
  | zero =>
   simp at h
   subst h
   rw [e,List.getElem?_append_left (by rw [hx]; omega)]
   simp
  | succ i =>
   rw [e,List.getElem?_append_right (by rw [hx]; omega),hx,show (i + 1) * 6 + j - 6 = i * 6 + j by omega]
   exact ih (by simpa using h)
structure Opr.Ok (o : Opr) : Prop where
 a : I64 o.a
 b : I64 o.b
 c : I64 o.c
theorem wf_i64 {n : Int} (h : (Lit.int .i64 n).wf = true) : I64 n:=by
 unfold I64
 have e1 : IntKind.i64.min = -9223372036854775808:=by decide
 have e2 : IntKind.i64.max = 9223372036854775807:=by decide
 simp only [Lit.wf,e1,e2,Bool.and_eq_true,decide_eq_true_eq] at h
 exact h
theorem cellsOp : Tryz.prog.cellsOf 61 = 6:=by kernel_rfl
theorem cellsI : Tryz.prog.cellsOf 3 = 1:=by kernel_rfl
theorem cellsS : Tryz.prog.cellsOf 9 = 1:=by kernel_rfl
set_option maxRecDepth 100000 in
theorem op_arg {H : Type} {enc : TypeId × Value → H} {W : World} {cs : List Value} {x : DataW H × List MemPlace} {n : Nat} (hl : cs.length = 6) (h : DataW.trod enc Tryz.prog W 0 (fun _=>true) true n 61 cs = some x) : ∃ o : Opr,o.Ok ∧ cs = o.cells:=by
 obtain ⟨xs,k,hk,hxy,_,hxl,hf⟩:=DataW.trod_struct Tryz.underlying61 h
 match cs,hl,xs,hxl with
 | [v0,v1,v2,v3,v4,v5],_,[y0,y1,y2,y3,y4,y5],_ =>
  have g0:=hf 0 _ rfl
  have g1:=hf 1 _ rfl
  have g2:=hf 2 _ rfl
  have g3:=hf 3 _ rfl
  have g4:=hf 4 _ rfl
  have g5:=hf 5 _ rfl
  simp [cellsI,cellsS] at g0 g1 g2 g3 g4 g5
  obtain ⟨n0,e0,-,f0⟩:=DataW.trod_int Tryz.underlying3 g0
  obtain ⟨n1,e1,-,f1⟩:=DataW.trod_int Tryz.underlying3 g1
  obtain ⟨n2,e2,-,f2⟩:=DataW.trod_int Tryz.underlying3 g2
  obtain ⟨n3,e3,-,f3⟩:=DataW.trod_int Tryz.underlying3 g3
  obtain ⟨s4,e4,-,-⟩:=DataW.trod_string Tryz.underlying9 g4
  obtain ⟨s5,e5,-,-⟩:=DataW.trod_string Tryz.underlying9 g5
  cases e0
  cases e1
  cases e2
  cases e3
  cases e4
  cases e5
  exact ⟨⟨n0,n1,n2,n3,s4,s5⟩,⟨wf_i64 f1,wf_i64 f2,wf_i64 f3⟩,rfl⟩
set_option maxRecDepth 100000 in
theorem ops_arg {H : Type} {enc : TypeId × Value → H} {W : World} {b0 : Nat} {v : Value} {d : DataW H} {p : List MemPlace} (hv : Value.okWide Tryz.prog W .any b0 26 v) (h : DataW.Trod enc Tryz.prog W 0 (fun _=>true) true 26 v d p) :
  ∃ l : List Opr,(∃ ao cap,v = .slice ao l.length cap) ∧ (∀ o ∈ l,o.Ok) ∧ (l.length ≤ 40000 → 0 < l.length → Lst W v 6 l.length (opC l)):=by
 obtain ⟨a0,len,cap,rfl⟩:=Go.WideShapes.okWide_slice Tryz.underlying26 hv
 obtain ⟨fuel,hf⟩:=h
 rcases Deep.open_slice Tryz.underlying26 hf with ⟨hcs,hx⟩ | ⟨a,len',cap',m,n,D,Pl,hcs,hb,hl,hm,hmm,hx,hall⟩
 ·simp [Value.cells] at hcs
  obtain ⟨rfl,rfl,rfl⟩:=hcs
  exact ⟨[],⟨none,0,rfl⟩,fun o ho=>(by cases ho),fun _ h=>absurd h (by simp)⟩
 ·simp [Value.cells] at hcs
  obtain ⟨rfl,rfl,rfl⟩:=hcs
  simp only [if_true] at hmm
  subst hmm
  have each : ∀ i,i < len → ∃ o : Opr,o.Ok ∧ ∀ j,j < 6 → W.cell? (a.add (i * 6 + j)) = o.cells[j]?:=by
   intro i hi
   obtain ⟨cs',h1,h2⟩:=hall i (by omega)
   rw [cellsOp] at h1
   obtain ⟨_,hlen,hcell⟩:=World.cells?_some h1
   obtain ⟨o,ho,rfl⟩:=op_arg hlen h2
   exact ⟨o,ho,fun j hj=>by rw [← Deep.add_add]; exact hcell j hj⟩
  have : Inhabited Opr:=⟨⟨0,0,0,0,⟨#[]⟩,⟨#[]⟩⟩⟩
  obtain ⟨q,hq⟩:=Deep.choose_lt each
  have hL : ((List.range len).map q).length = len:=by simp
  refine ⟨(List.range len).map q,⟨some a,_,by rw [hL]⟩,fun o ho=>?_,fun h4 h0=>⟨by rw [opC_len],h4,?_⟩⟩
  ·obtain ⟨i,hi,rfl⟩:=List.mem_map.1 ho
   exact (hq i (List.mem_range.1 hi)).1
  ·rw [hL] at h0 ⊢
   obtain ⟨b,off,spot⟩:=a
   have hspot : spot = none:=by
    have h1 : W.cell? ((⟨b,off,spot⟩ : Addr).add 0) = some (.int .i64 (q 0).k):=(hq 0 h0).2 0 (by omega)
    simpa [Addr.add] using World.cell?_spot h1
   subst hspot
   refine Or.inr ⟨b,off,_,rfl,hl,hm,fun j u hj=>?_⟩
   have hj' : j < len * 6:=by
    have:=(List.getElem?_eq_some_iff.1 hj).1
    rw [opC_len,hL] at this; exact this
   have hi : j / 6 < len:=by omega
   have h1:=(hq (j / 6) hi).2 (j % 6) (by omega)
   rw [show j / 6 * 6 + j % 6 = j by omega,Go.WideShapes.add_plain] at h1
   rw [h1,← hj,← opC_get (l:=(List.range len).map q) (i:=j / 6) (o:=q (j / 6)) (by simp [hi]) (by omega),show j / 6 * 6 + j % 6 = j by omega]
section
variable {T A : Nat} {w : World} {z : WS} {lab : Nat → Nat} {o : Opr}
def Opr.v (o : Opr) : Value:=.agg #[.int .i64 o.k,.int .i64 o.a,.int .i64 o.b,.int .i64 o.c,.string o.s,.string o.t]
def opB (o : Opr) : Obj:=.cells #[.int .i64 o.k,.int .i64 o.a,.int .i64 o.b,.int .i64 o.c,.string o.s,.string o.t] 61
theorem StI.of {w' : World} {z' : WS} {lab' : Nat → Nat} {B : List Nat} (hi : LwI (T + 1) w' A z' lab') (t : Tr w w' lab lab' B) (hB : 0 ∉ B) : StI (T + 1) w A lab w':=⟨z',lab',hi,B,hB,t⟩
def LiPost (T : Nat) (w : World) (A : Nat) (lab : Nat → Nat) (e : Ending) (w' : World) : Prop:=e = .returned (.bool true) ∧ StI (T + 1) w A lab w'
set_option maxRecDepth 100000 in
set_option maxHeartbeats 2000000 in
theorem ls_clear (h : LwI T w A z lab) (hk : o.k = 3) : Calls Tryz.prog 80 #[.pointer (some ⟨A,0,none⟩),o.v] w (LiPost T w A lab):=by
 obtain ⟨w0,hw0⟩ : ∃ w0,w0 = w.alloc (opB o):=⟨_,rfl⟩
 have hb0 : Below w.heap.size w w0:=by rw [hw0]; exact below_boxQ w _
 have h0:=h.below hb0
 have q0 : w0.cell? ⟨w.heap.size,0,none⟩ = some (.int .i64 3):=by rw [hw0,← hk]; exact (Bk.new w _ [_,_,_,_,_,_]).cell 0 rfl
 have c2:=h0.bk.cell 2 rfl
 have f2:=h0.bk.frz 2
 have t : Tr w0 (w0.setCell ⟨A,2,none⟩ (.slice none 0 0)) lab lab [1]:=by
  have:=Tr.set w0 lab ⟨A,2,none⟩ (.slice none 0 0)
  rw [h0.l0] at this
  exact this
 have hI : LwI T (w0.setCell ⟨A,2,none⟩ (.slice none 0 0)) A { z with reg:=[],regV:=.slice none 0 0 } lab :=
  h0.head (t.sub (by simp)) (h0.bk.set 2 _) rfl rfl rfl rfl rfl rfl rfl (Own.nil _ _ _ _ _) h0.sto h0.i1 h0.i2 h0.i3 (Nat.zero_le _)
 have HR : Hid (LiPost T w A lab (.returned (.bool true)) (w0.setCell ⟨A,2,none⟩ (.slice none 0 0))):=hide ⟨rfl,StI.of (hI.up (Nat.le_succ T)) ((Tr.bw hb0 lab).trans t) (by simp)⟩
 unfold Opr.v
 rw [hk]
 unfold opB at hw0
 rw [hk] at hw0
 clear h hk h0 hb0 t hI
 go_enter Tryz.func80,Tryz.ntmps80
 go_upto_region 1 with fail
 rw [← hw0]
 clear hw0
 go_wp2_with fail
 go_ret
 exact uh HR
set_option maxRecDepth 100000 in
set_option maxHeartbeats 2000000 in
theorem ls_win (h : LwI T w A z lab) (ho : o.Ok) (hk : o.k = 7) : Calls Tryz.prog 80 #[.pointer (some ⟨A,0,none⟩),o.v] w (LiPost T w A lab):=by
 obtain ⟨w0,hw0⟩ : ∃ w0,w0 = w.alloc (opB o):=⟨_,rfl⟩
 have hb0 : Below w.heap.size w w0:=by rw [hw0]; exact below_boxQ w _
 have h0:=h.below hb0
 have hbk : Bk w0 w.heap.size 61 [.int .i64 o.k,.int .i64 o.a,.int .i64 o.b,.int .i64 o.c,.string o.s,.string o.t]:=by rw [hw0]; exact Bk.new w _ [_,_,_,_,_,_]
 have hne : A ≠ w.heap.size:=by have:=h.bk.lt; omega
 have q0 : w0.cell? ⟨w.heap.size,0,none⟩ = some (.int .i64 7):=by rw [← hk]; exact hbk.cell 0 rfl
 have q1:=hbk.cell 1 rfl
 have hbk1:=hbk.setO (p:=⟨A,8,none⟩) hne (.int .i64 o.a)
 have q2:=hbk1.cell 2 rfl
 have hbk2:=hbk1.setO (p:=⟨A,9,none⟩) hne (.int .i64 o.b)
 have q3:=hbk2.cell 3 rfl
 have c8:=h0.bk.cell 8 rfl
 have f8:=h0.bk.frz 8
 have a1:=h0.bk.set 8 (.int .i64 o.a)
 have c9:=a1.cell 9 rfl
 have f9:=a1.frz 9
 have a2:=a1.set 9 (.int .i64 o.b)
 have c10:=a2.cell 10 rfl
 have f10:=a2.frz 10
 have a3:=a2.set 10 (.int .i64 o.c)
 have t : Tr w0 (((w0.setCell ⟨A,8,none⟩ (.int .i64 o.a)).setCell ⟨A,9,none⟩ (.int .i64 o.b)).setCell ⟨A,10,none⟩ (.int .i64 o.c)) lab lab [1,1,1]:=by
  have:=((Tr.set w0 lab ⟨A,8,none⟩ (.int .i64 o.a)).trans (Tr.set _ lab ⟨A,9,none⟩ (.int .i64 o.b))).trans (Tr.set _ lab ⟨A,10,none⟩ (.int .i64 o.c))
  rw [h0.l0] at this
  exact this
 have hI : LwI T (((w0.setCell ⟨A,8,none⟩ (.int .i64 o.a)).setCell ⟨A,9,none⟩ (.int .i64 o.b)).setCell ⟨A,10,none⟩ (.int .i64 o.c)) A { z with at':=o.a,n:=o.b,ex:=o.c } lab :=
  h0.head (t.sub (by simp)) a3 rfl rfl rfl rfl rfl rfl rfl (h0.rg.tr t (by simp)) h0.sto ho.a ho.b ho.c h0.b3
 have HR : Hid (LiPost T w A lab (.returned (.bool true)) (((w0.setCell ⟨A,8,none⟩ (.int .i64 o.a)).setCell ⟨A,9,none⟩ (.int .i64 o.b)).setCell ⟨A,10,none⟩ (.int .i64 o.c))):=hide ⟨rfl,StI.of (hI.up (Nat.le_succ T)) ((Tr.bw hb0 lab).trans t) (by simp)⟩
 unfold Opr.v
 rw [hk]
 unfold opB at hw0
 rw [hk] at hw0
 clear h hk h0 hb0 t hI a1 a2 a3 hbk hbk1 hbk2 ho
 go_enter Tryz.func80,Tryz.ntmps80
 go_upto_region 1 with fail
 rw [← hw0]
 clear hw0
 go_wp2_with fail
 go_ret
 exact uh HR
set_option maxRecDepth 100000 in
set_option maxHeartbeats 2000000 in
theorem ls_store (h : LwI T w A z lab) (ho : o.Ok) (hT : T < 16384) (hk : o.k = 8) : Calls Tryz.prog 80 #[.pointer (some ⟨A,0,none⟩),o.v] w (LiPost T w A lab):=by
 obtain ⟨w0,hw0⟩ : ∃ w0,w0 = w.alloc (opB o):=⟨_,rfl⟩
 have hb0 : Below w.heap.size w w0:=by rw [hw0]; exact below_boxQ w _
 have h0:=h.below hb0
 have hbk : Bk w0 w.heap.size 61 [.int .i64 o.k,.int .i64 o.a,.int .i64 o.b,.int .i64 o.c,.string o.s,.string o.t]:=by rw [hw0]; exact Bk.new w _ [_,_,_,_,_,_]
 have q0 : w0.cell? ⟨w.heap.size,0,none⟩ = some (.int .i64 8):=by rw [← hk]; exact hbk.cell 0 rfl
 have q1:=hbk.cell 1 rfl
 have HW:=hide (window_any h0 (by omega) o.a ho.a)
 have HR : Hid (∀ n ao k cap,WinOf z (.slice ao k cap) → LiPost T w A lab (.returned (.bool true)) ((w0.drewN n).setCell ⟨A,7,none⟩ (.slice ao k cap))):=hide (by
  intro n ao k cap hw
  have hbn:=below_drewQ w0 n
  have h1:=h0.below hbn
  have t : Tr (w0.drewN n) ((w0.drewN n).setCell ⟨A,7,none⟩ (.slice ao k cap)) lab lab [1]:=by
   have:=Tr.set (w0.drewN n) lab ⟨A,7,none⟩ (.slice ao k cap)
   rw [h1.l0] at this
   exact this
  have hI : LwI T ((w0.drewN n).setCell ⟨A,7,none⟩ (.slice ao k cap)) A { z with stV:=.slice ao k cap } lab :=
   h1.head (t.sub (by simp)) (h1.bk.set 7 _) rfl rfl rfl rfl rfl rfl rfl (h1.rg.tr t (by simp)) hw h1.i1 h1.i2 h1.i3 h1.b3
  exact ⟨rfl,StI.of (hI.up (Nat.le_succ T)) (((Tr.bw hb0 lab).trans (Tr.bw hbn lab)).trans t) (by simp)⟩)
 have c7:=h0.bk.cell 7 rfl
 have f7:=h0.bk.frz 7
 unfold Opr.v
 rw [hk]
 unfold opB at hw0
 rw [hk] at hw0
 clear h hk h0 hb0 hbk ho
 go_enter Tryz.func80,Tryz.ntmps80
 go_upto_region 1 with fail
 rw [← hw0]
 clear hw0
 go_wp2_with fail
 refine (uh HW).mono ?_
 rintro e w1 ⟨u,rfl,hu,n,rfl⟩
 obtain ⟨ao,k,cap,rfl⟩ : ∃ ao k cap,u = .slice ao k cap:=by
  rcases hu with rfl | ⟨_,_,_,_,_,(⟨rfl,_⟩ | ⟨_,_,_,_,_,rfl,_⟩)⟩
  ·exact ⟨_,_,_,rfl⟩
  ·exact ⟨_,_,_,rfl⟩
  ·exact ⟨_,_,_,rfl⟩
 have HU:=hide hu
 clear hu HW
 have c7' : (w0.drewN n).cell? ⟨A,7,none⟩ = some z.stV:=c7
 have f7' : (w0.drewN n).frozen? ⟨A,7,none⟩ = false:=f7
 go_wp2_with fail
 go_ret
 exact uh HR n ao k cap (uh HU)
set_option maxRecDepth 100000 in
set_option maxHeartbeats 2000000 in
theorem ls_new (h : LwI T w A z lab) (hT : T < 16384) (hk : o.k = 4) : Calls Tryz.prog 80 #[.pointer (some ⟨A,0,none⟩),o.v] w (LiPost T w A lab):=by
 obtain ⟨w0,hw0⟩ : ∃ w0,w0 = w.alloc (opB o):=⟨_,rfl⟩
 have hb0 : Below w.heap.size w w0:=by rw [hw0]; exact below_boxQ w _
 have h0:=h.below hb0
 have q0 : w0.cell? ⟨w.heap.size,0,none⟩ = some (.int .i64 4):=by rw [hw0,← hk]; exact (Bk.new w _ [_,_,_,_,_,_]).cell 0 rfl
 have h3:=h0.b3
 have h4:=h0.b4
 obtain ⟨ra,rc,hr,-,-⟩:=own_slc h0.rg.row
 have c2 : w0.cell? ⟨A,2,none⟩ = some (.slice ra z.reg.length rc):=by rw [← hr]; exact h0.bk.cell 2 rfl
 have HCI:=hide (copyInts_any (h0.rg.lst (by omega)))
 rw [hr] at HCI
 have H0:=hide h0
 have HT0:=hide (Tr.bw hb0 lab)
 unfold Opr.v
 rw [hk]
 unfold opB at hw0
 rw [hk] at hw0
 clear hk h0 hb0 hr
 go_enter Tryz.func80,Tryz.ntmps80
 go_upto_region 1 with fail
 rw [← hw0]
 clear hw0
 go_wp2_with fail
 refine (uh HCI).mono ?_
 rintro e w1 ⟨g,rfl,r1,b1⟩
 have t1:=Tr.bwN b1 lab (7 + 3 * z.ls.length)
 have h1:=((uh H0).keep t1).up (Nat.le_succ T)
 have v1 : Own w1 (nlb w0 lab (7 + 3 * z.ls.length)) 3 1 z.reg.length (.slice (some ⟨g,0,none⟩) z.reg.length z.reg.length) (ints z.reg) (7 + 3 * z.ls.length):=⟨own_le r1 (Nat.zero_le _),fun k hk=>nlb_new (r1.lt k hk).1⟩
 have HK:=hide (keep_any h1 v1 (by omega) (by omega) (by omega))
 have HT1:=hide ((uh HT0).trans t1)
 clear t1 h1 v1 r1 b1 HCI
 go_wp2_with fail
 refine (uh HK).mono ?_
 rintro e w2 ⟨rfl,z2,lab2,h2,-,-,t2⟩
 have HR : Hid (LiPost T w A lab (.returned (.bool true)) w2):=hide ⟨rfl,StI.of h2 ((uh HT1).trans t2) (by simp)⟩
 clear h2 t2 HK
 go_wp2_with fail
 go_ret
 exact uh HR
end
section
variable {T A : Nat} {w : World} {z : WS} {lab : Nat → Nat} {o : Opr}
set_option maxRecDepth 100000 in
set_option maxHeartbeats 2000000 in
theorem ls_nil (h : LwI T w A z lab) (hT : T < 16384) (hk : o.k = 5) : Calls Tryz.prog 80 #[.pointer (some ⟨A,0,none⟩),o.v] w (LiPost T w A lab):=by
 obtain ⟨i0,hi,hz0,hz1,hz2⟩:=info_parts Tryz.infoSl
 obtain ⟨w0,hw0⟩ : ∃ w0,w0 = w.alloc (opB o):=⟨_,rfl⟩
 have hb0 : Below w.heap.size w w0:=by rw [hw0]; exact below_boxQ w _
 have h0:=(h.below hb0).up (Nat.le_succ T)
 have q0 : w0.cell? ⟨w.heap.size,0,none⟩ = some (.int .i64 5):=by rw [hw0,← hk]; exact (Bk.new w _ [_,_,_,_,_,_]).cell 0 rfl
 have h4:=h.b4
 obtain ⟨sa,sc,hs,-,-⟩:=own_slc h0.ls.row
 obtain ⟨ua,uc,hu,-,-⟩:=own_slc h0.lw.row
 have c3 : w0.cell? ⟨A,3,none⟩ = some (.slice sa z.ls.length sc):=by rw [← hs]; exact h0.bk.cell 3 rfl
 have HS : Hid (w0.ownsRow 0 29 1 (.slice sa z.ls.length sc) z.ls.length (z.ls.map LQ.v)):=hide (by rw [← hs]; exact h0.ls.row)
 have HSV:=hide hs
 have HUV:=hide hu
 have H:=hide h0
 have HT0:=hide (Tr.bw hb0 lab)
 unfold Opr.v
 rw [hk]
 unfold opB at hw0
 rw [hk] at hw0
 clear h hk h0 hb0 hs hu
 go_enter Tryz.func80,Tryz.ntmps80
 go_upto_region 1 with fail
 rw [← hw0]
 clear hw0
 go_wp2_with (at_builtin; refine wpList_app1 _ rfl (.tmp 44) (.tmp 45) 109 rfl 0 29 i0 _ 1 24 Tryz.underlying109 hi hz0 hz1 hz2 rfl (by decide) _ z.ls.length (z.ls.map LQ.v) rfl ((uh HS).alloc _) ⟨_,0,none⟩ 1 [.slice none 0 0] rfl rfl (new_cells _ _ (by simp) [.slice none 0 0] _) (by intro u hu; simp only [List.mem_singleton] at hu; subst hu; rfl) (by omega) (by omega) (Nat.zero_le _) ?_)
 intro g1 cap1 w1 hown1 hgrow1 hblk1
 obtain ⟨lab1,t1,o1⟩:=grow_own (v:=.slice sa z.ls.length sc) (lab:=lab) (a:=5) ⟨uh HS,fun k hk=>(uh H).ls.own k (by rw [uh HSV]; exact hk)⟩ (below_boxQ w0 _) hgrow1 hown1 (by simpa using hblk1)
 have bk1 : Bk w1 A 112 z.cells:=(uh H).bk.of_eq (t1.eq A (uh H).bk.lt (by rw [(uh H).l0]; simp))
 have lA1 : lab1 A = 1:=(t1.lb A (uh H).bk.lt).trans (uh H).l0
 have d3:=bk1.cell 3 rfl
 have f3:=bk1.frz 3
 obtain ⟨w2,hw2⟩ : ∃ w2,w2 = w1.setCell ⟨A,3,none⟩ (.slice (some ⟨g1,0,none⟩) (z.ls.length + 1) cap1):=⟨_,rfl⟩
 have t12 : Tr w1 w2 lab1 lab1 [1]:=by
  have:=Tr.set w1 lab1 ⟨A,3,none⟩ (.slice (some ⟨g1,0,none⟩) (z.ls.length + 1) cap1)
  rw [← hw2,lA1] at this
  exact this
 have t2 : Tr w0 w2 lab lab1 [5,1]:=t1.trans t12
 have o2:=o1.tr t12 (by simp)
 have bk2 : Bk w2 A 112 (z.cells.set 3 (.slice (some ⟨g1,0,none⟩) (z.ls.length + 1) cap1)):=by rw [hw2]; exact bk1.set 3 _
 have lw2 : Own w2 lab1 29 1 z.ls.length (.slice ua z.ls.length uc) (z.ls.map LQ.u) 6:=by
  have:=(uh H).lw.tr t2 (by simp)
  rwa [uh HUV] at this
 have c4 : w2.cell? ⟨A,4,none⟩ = some (.slice ua z.ls.length uc):=by rw [← uh HUV]; exact bk2.cell 4 rfl
 have HL2 : Hid (w2.ownsRow 0 29 1 (.slice ua z.ls.length uc) z.ls.length (z.ls.map LQ.u)):=hide lw2.row
 have HLW2:=hide lw2
 have HT2:=hide t2
 have HO2:=hide o2
 have HBk2:=hide bk2
 rw [hw2] at c4
 have HW2:=hide hw2
 clear hown1 hgrow1 hblk1 t1 o1 bk1 lA1 t12 t2 o2 bk2 lw2 c3 HS q0 hw2
 go_upto_region 12 with fail
 rw [← uh HW2]
 rw [← uh HW2] at c4
 clear d3 f3
 go_wp2_with (at_builtin; refine wpList_app1 _ rfl (.tmp 53) (.tmp 54) 109 rfl 0 29 i0 _ 1 24 Tryz.underlying109 hi hz0 hz1 hz2 rfl (by decide) _ z.ls.length (z.ls.map LQ.u) rfl ((uh HL2).alloc _) ⟨_,0,none⟩ 1 [.slice none 0 0] rfl rfl (new_cells _ _ (by simp) [.slice none 0 0] _) (by intro u hu; simp only [List.mem_singleton] at hu; subst hu; rfl) (by omega) (by omega) (Nat.zero_le _) ?_)
 intro g4 cap4 w4 hown4 hgrow4 hblk4
 obtain ⟨lab4,t4,o4⟩:=grow_own (uh HLW2) (below_boxQ w2 _) hgrow4 hown4 (by simpa using hblk4)
 have lA3 : lab1 A = 1:=((uh HT2).lb A (uh H).bk.lt).trans (uh H).l0
 have bk4:=(uh HBk2).of_eq (t4.eq A (uh HBk2).lt (by rw [lA3]; simp))
 have lA4 : lab4 A = 1:=(t4.lb A (uh HBk2).lt).trans lA3
 have d4:=bk4.cell 4 rfl
 have f4:=bk4.frz 4
 have t5 : Tr w4 (w4.setCell ⟨A,4,none⟩ (.slice (some ⟨g4,0,none⟩) (z.ls.length + 1) cap4)) lab4 lab4 [1]:=by
  have:=Tr.set w4 lab4 ⟨A,4,none⟩ (.slice (some ⟨g4,0,none⟩) (z.ls.length + 1) cap4)
  rw [lA4] at this
  exact this
 have tall:=((uh HT2).trans (t4.trans t5)).sub (C:=[1,5,6]) (by simp)
 have hI : LwI (T + 1) (w4.setCell ⟨A,4,none⟩ (.slice (some ⟨g4,0,none⟩) (z.ls.length + 1) cap4)) A { z with ls:=z.ls ++ [⟨.slice none 0 0,.slice none 0 0,[]⟩],lsV:=.slice (some ⟨g1,0,none⟩) (z.ls.length + 1) cap1,lwV:=.slice (some ⟨g4,0,none⟩) (z.ls.length + 1) cap4 } lab4 :=
  (uh H).addL tall (bk4.set 4 _) (((uh HO2).tr t4 (by simp)).tr t5 (by simp)) (o4.tr t5 (by simp)) ⟨Own.nil _ _ _ _ _,Own.nil _ _ _ _ _,Nat.zero_le _⟩ (by omega)
 have HR : Hid (LiPost T w A lab (.returned (.bool true)) (w4.setCell ⟨A,4,none⟩ (.slice (some ⟨g4,0,none⟩) (z.ls.length + 1) cap4))):=hide ⟨rfl,StI.of hI ((uh HT0).trans tall) (by simp)⟩
 clear hown4 hgrow4 hblk4 t4 o4 lA3 bk4 lA4 t5 tall hI c4
 go_wp2_with fail
 go_ret
 exact uh HR
set_option maxRecDepth 100000 in
set_option maxHeartbeats 2000000 in
theorem ls_other (hk : ¬ (2 ≤ o.k ∧ o.k ≤ 8)) : Calls Tryz.prog 80 #[.pointer (some ⟨A,0,none⟩),o.v] w fun e w'=>e = .returned (.bool false) ∧ Below w.heap.size w w':=by
 have hb0:=below_boxQ w (opB o)
 unfold opB at hb0
 have HB:=hide hb0
 have d2 : (o.k == 2) = false:=by simp; omega
 have d3 : (o.k == 3) = false:=by simp; omega
 have d4 : (o.k == 4) = false:=by simp; omega
 have d5 : (o.k == 5) = false:=by simp; omega
 have d6 : (o.k == 6) = false:=by simp; omega
 have d7 : (o.k == 7) = false:=by simp; omega
 have d8 : (o.k == 8) = false:=by simp; omega
 unfold Opr.v
 clear hk hb0
 go_enter Tryz.func80,Tryz.ntmps80
 go_wp2_with fail
 go_ret
 exact ⟨rfl,uh HB⟩
end
end Go.Proofs.YtciihepbeacppaaGreat
