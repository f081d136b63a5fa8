import Derived.Test.YtciihepbeacppaaHB
namespace Go.Proofs.Ytciihepbeacppaa
open Go.RowKit

section
variable {P : Program} {w : World}
/-- append of a list that is only read -/
theorem wpList_app_lst {ops : Array Oper} {rest : List Oper} {o : Oper} {a : Act} {Q : Exit → Act → World → Prop}
    (hg : o.guard = none) (s x : Operand) (t : TypeId) (hop : o.op = Op.call { callee := Callee.builtin Builtin.append, args := #[s, x], argTypes := #[t, t] })
    (base : Nat) (e : TypeId) (i : TypeInfo) (z : Value) (size bytes : Nat) (ht : P.underlying t = some (.slice e)) (hi : P.info? e = some i) (hz : i.zero = some z)
    (hsize : i.size = size) (hby : i.bytes = bytes) (hzs : z.cells.size = size) (hsz : 0 < size)
    (v : Value) (n : Nat) (xs : List Value) (hs : a.eval s = v) (hown : w.ownsRow base e size v n xs)
    (xv : Value) (m : Nat) (news : List Value) (hx : a.eval x = xv) (hL : Lst w xv size m news) (h1 : ∀ u ∈ news, u.oneCell' = true)
    (h63 : n + m ≤ 1000000) (hb : bytes ≤ 1000) (hbase : base ≤ w.heap.size)
    (hK : ∀ v' w', w'.ownsRow base e size v' (n + m) (xs ++ news) → w.grownBy w' v.ownBlock → wpList P ops Q rest (a.put o.dst v') w') :
    wpList P ops Q (o :: rest) a w := by
  have hbytes : (n + m) * bytes ≤ 140737488355328 := Nat.le_trans (Nat.mul_le_mul h63 hb) (by decide)
  obtain ⟨hl, _, (⟨rfl, rfl⟩ | ⟨g, off, cap, rfl, hn, hm, hc⟩)⟩ := hL
  · have : news = [] := List.eq_nil_of_length_eq_zero (by omega)
    subst this
    refine wpList_append_own_none hg s x t hop base e i size ht hi v n xs hs hown hx ?_
    exact hK v w (by simpa using hown) ⟨rfl, rfl, rfl, Nat.le_refl _, fun _ _ _ => rfl⟩
  · refine wpList_append_own w hg s x t hop base e i z size bytes ht hi hz hsize hby hzs hsz v n xs hs hown ⟨g, off, none⟩ m cap news hx hl (fun j u hj => ?_) h1 (by unfold maxLen; omega) hbytes hbase (fun v' w' r1 r2 _ => hK v' w' r1 r2)
    rw [show (⟨g, off, none⟩ : Addr).add j = ⟨g, off + j, none⟩ by unfold Addr.add; split <;> simp_all]
    exact hc j u hj
end
theorem strs_one (l : List ByteArray) : ∀ u ∈ l.map Value.string, u.oneCell' = true := by
  intro u hu; simp only [List.mem_map] at hu; obtain ⟨b, _, rfl⟩ := hu; rfl
theorem ints_one (l : List Int) : ∀ u ∈ ints l, u.oneCell' = true := by
  intro u hu; simp only [ints, List.mem_map] at hu; obtain ⟨b, _, rfl⟩ := hu; rfl
theorem Try.infoInt : (Try.prog.info? 3).map (fun i => (i.zero, i.size, i.bytes)) = some (some (.int .i64 0), 1, 8) := by kernel_rfl
theorem below_box3 (w : World) (a b c : Obj) : Below w.heap.size w (((w.alloc a).alloc b).alloc c) := (((Below.refl _ _).alloc (Nat.le_refl _) a).alloc (by simp) b).alloc (by simp; omega) c
theorem box3_size (w : World) (a b c : Obj) : (((w.alloc a).alloc b).alloc c).heap.size = w.heap.size + 3 := by simp

theorem cellsE2 {w : World} {r : Nat} {a b : Value} {T : TypeId} (h : w.heap[r]? = some (.cells #[a, b] T (0, 0))) : w.cell? ⟨r, 0, none⟩ = some a ∧ w.cell? ⟨r, 1, none⟩ = some b ∧ w.frozen? ⟨r, 0, none⟩ = false ∧ w.frozen? ⟨r, 1, none⟩ = false := by
  refine ⟨?_, ?_, ?_, ?_⟩ <;> simp [World.cell?, World.frozen?, h]
theorem own_setH {w : World} {B : Nat} {e : TypeId} {sz n r j : Nat} {v : Value} {xs : List Value} (h : w.ownsRow B e sz v n xs) (hr : r < B) (u : Value) : (w.setCell ⟨r, j, none⟩ u).ownsRow B e sz v n xs :=
  ownsRow_of_eq h (fun k hk => Below.heap_setCell _ _ _ _ (by have := (h.lt k hk).1; show k ≠ r; omega))
theorem own_keptH {w w' : World} {B : Nat} {e : TypeId} {sz n : Nat} {v : Value} {xs : List Value} {row : Option Nat} (h : w.ownsRow B e sz v n xs) (hg : w.grownBy w' row) (hr : ∀ k, v.ownBlock = some k → row ≠ some k) : w'.ownsRow B e sz v n xs :=
  h.kept hg (by cases hv : v.ownBlock with
    | none => exact Or.inl rfl
    | some k => exact Or.inr (fun e => hr k hv e.symm))
theorem one_newS (w : World) (p : Addr) (y x : Value) (T : TypeId) : ∀ (j : Nat) (u : Value), [x][j]? = some u → ((w.setCell p y).alloc (.cells #[x] T)).cell? ((⟨w.heap.size, 0, none⟩ : Addr).add j) = some u := by
  have h := one_new (w.setCell p y) x T
  have e : (w.setCell p y).heap.size = w.heap.size := by simp [World.setCell]
  rwa [e] at h
theorem own_lowH {w : World} {B B' : Nat} {e : TypeId} {sz n : Nat} {v : Value} {xs : List Value} (h : w.ownsRow B e sz v n xs) (hb : B' ≤ B) : w.ownsRow B' e sz v n xs := by
  refine ⟨h.1, ?_⟩
  rcases h.2 with h0 | ⟨g, cap, cur, hv, hB, hr⟩
  · exact .inl h0
  · exact .inr ⟨g, cap, cur, hv, Nat.le_trans hb hB, hr⟩
/-- the three structs of with -/
structure WI (w wr : World) (nv vv x y : Value) : Prop where
  b0 : wr.heap[w.heap.size]? = some (.cells #[nv, vv] 44 (0, 0))
  b1 : wr.heap[w.heap.size + 1]? = some (.cells #[.slice none 0 0, .slice none 0 0] 44 (0, 0))
  b2 : wr.heap[w.heap.size + 2]? = some (.cells #[x, y] 44 (0, 0))
  bl : Below w.heap.size w wr
  sz : w.heap.size + 3 ≤ wr.heap.size
theorem WI.start (w : World) (nv vv : Value) : WI w (((w.alloc (.cells #[nv, vv] 44)).alloc (.cells #[.slice none 0 0, .slice none 0 0] 44)).alloc (.cells #[.slice none 0 0, .slice none 0 0] 44)) nv vv (.slice none 0 0) (.slice none 0 0) := by
  refine ⟨?_, ?_, ?_, below_box3 _ _ _ _, by rw [box3_size]; exact Nat.le_refl _⟩
  · rw [Below.heap_alloc _ _ _ (by simp; omega), Below.heap_alloc _ _ _ (by simp)]; exact heap_alloc_new w _
  · rw [Below.heap_alloc _ _ _ (by simp)]
    have := heap_alloc_new (w.alloc (.cells #[nv, vv] 44)) (.cells #[.slice none 0 0, .slice none 0 0] 44)
    simpa using this
  · have := heap_alloc_new ((w.alloc (.cells #[nv, vv] 44)).alloc (.cells #[.slice none 0 0, .slice none 0 0] 44)) (.cells #[.slice none 0 0, .slice none 0 0] 44)
    simpa using this
theorem WI.grown {w wr wr' : World} {nv vv x y : Value} {row : Option Nat} (h : WI w wr nv vv x y) (hg : wr.grownBy wr' row) (hr : ∀ k, row = some k → w.heap.size + 3 ≤ k) : WI w wr' nv vv x y := by
  have hs := h.sz
  have hk : ∀ k, k < w.heap.size + 3 → wr'.heap[k]? = wr.heap[k]? := fun k hk => hg.block k (by omega) (fun e => by have := hr k e.symm; omega)
  exact ⟨by rw [hk _ (by omega)]; exact h.b0, by rw [hk _ (by omega)]; exact h.b1, by rw [hk _ (by omega)]; exact h.b2, h.bl.grown hg (by omega) (fun k e => by have := hr k e; omega), by have := hg.size; omega⟩
theorem WI.alloc {w wr : World} {nv vv x y : Value} (h : WI w wr nv vv x y) (o : Obj) : WI w (wr.alloc o) nv vv x y := by
  have hs := h.sz
  exact ⟨by rw [Below.heap_alloc _ _ _ (by omega)]; exact h.b0, by rw [Below.heap_alloc _ _ _ (by omega)]; exact h.b1, by rw [Below.heap_alloc _ _ _ (by omega)]; exact h.b2, h.bl.alloc (by omega) _, by simp; omega⟩
theorem WI.set0 {w wr : World} {nv vv x y : Value} (h : WI w wr nv vv x y) (u : Value) : WI w (wr.setCell ⟨w.heap.size + 2, 0, none⟩ u) nv vv u y :=
  ⟨by rw [Below.heap_setCell _ _ _ _ (by simp)]; exact h.b0, by rw [Below.heap_setCell _ _ _ _ (by simp)]; exact h.b1, set6 h.b2 _, h.bl.setCell (p := ⟨w.heap.size + 2, 0, none⟩) (by simp) _, by simpa [World.setCell] using h.sz⟩
theorem WI.set1 {w wr : World} {nv vv x y : Value} (h : WI w wr nv vv x y) (u : Value) : WI w (wr.setCell ⟨w.heap.size + 2, 1, none⟩ u) nv vv x u :=
  ⟨by rw [Below.heap_setCell _ _ _ _ (by simp)]; exact h.b0, by rw [Below.heap_setCell _ _ _ _ (by simp)]; exact h.b1, set6 h.b2 _, h.bl.setCell (p := ⟨w.heap.size + 2, 1, none⟩) (by simp) _, by simpa [World.setCell] using h.sz⟩

set_option maxRecDepth 100000 in
set_option maxHeartbeats 4000000 in
theorem with_any {w : World} {nv vv : Value} {ns : List ByteArray} {vs : List Int} (n : ByteArray) (v : Int) (h1 : Lst w nv 1 ns.length (ns.map Value.string)) (h2 : Lst w vv 1 vs.length (ints vs)) (hl : ns.length < 19000) (hv : vs.length < 19000) :
    Calls Try.prog 26 #[.agg #[nv, vv], .string n, .int .i64 v] w fun e w' => ∃ nv' vv', e = .returned (.agg #[nv', vv']) ∧ w'.ownsRow w.heap.size 9 1 nv' (ns ++ [n]).length ((ns ++ [n]).map Value.string) ∧ w'.ownsRow w.heap.size 3 1 vv' (vs ++ [v]).length (ints (vs ++ [v])) ∧ Below w.heap.size w w' := by
  obtain ⟨i0, hi, hz0, hz1, hz2⟩ := info_parts Try.infoStr
  obtain ⟨j0, hj, hy0, hy1, hy2⟩ := info_parts Try.infoInt
  have H1 := hide h1
  have H2 := hide h2
  obtain ⟨na, nc, rfl⟩ := h1.slice
  obtain ⟨va, vc, rfl⟩ := h2.slice
  clear h1 h2
  go_enter Try.func26, Try.ntmps26
  go_wp2_with (at_builtin; refine wpList_app_lst rfl (.tmp 9) (.tmp 11) 28 rfl (w.heap.size + 3) 9 i0 _ 1 16 Try.underlying28 hi hz0 hz1 hz2 rfl (by decide) _ 0 [] rfl (World.ownsRow_nil _ _ _ _) _ _ _ rfl ((unhide H1).below (below_box3 _ _ _ _)) (strs_one ns) (by omega) (by decide) (by simp) ?_)
  intro v1 w1 hown1 hgrow1
  have hw1 := (WI.start w _ _).grown hgrow1 (fun k e => by cases e)
  obtain ⟨a1, c1, hv1⟩ := slice_of_own hown1
  subst hv1
  have HO1 := hide hown1
  have HW1 := hide hw1
  obtain ⟨x0, x1, -, -⟩ := cellsE2 hw1.b0
  obtain ⟨y0, y1, g0, g1⟩ := cellsE2 hw1.b2
  have hz1s := hw1.sz
  clear hown1 hgrow1 hw1
  go_wp2_with (at_builtin; refine wpList_app_lst rfl (.tmp 15) (.tmp 17) 22 rfl w1.heap.size 3 j0 _ 1 8 Try.underlying22 hj hy0 hy1 hy2 rfl (by decide) _ 0 [] rfl (World.ownsRow_nil _ _ _ _) _ _ _ rfl ((unhide H2).below ((unhide HW1).set0 _).bl) (ints_one vs) (by omega) (by decide) (by simp) ?_)
  intro v2 w2 hown2 hgrow2
  have hw2 := ((unhide HW1).set0 _).grown hgrow2 (fun k e => by cases e)
  have ho1 := own_keptH (own_setH (r := w.heap.size + 2) (j := 0) (unhide HO1) (by omega) _) hgrow2 (fun k _ e => by cases e)
  obtain ⟨a2, c2, hv2⟩ := slice_of_own hown2
  subst hv2
  have hap : ∀ k, (Value.slice a1 ns.length c1).ownBlock = some k → k < w1.heap.size := fun k e => ((unhide HO1).lt k e).2
  have hz2s : w1.heap.size ≤ w2.heap.size := by simpa [World.setCell] using hgrow2.size
  have HO1b := hide ho1
  have HO2 := hide hown2
  have HW2 := hide hw2
  have HAP := hide hap
  clear x0 x1 y0 y1 g0 g1
  obtain ⟨x0, x1, -, -⟩ := cellsE2 hw2.b0
  obtain ⟨y0, y1, g0, g1⟩ := cellsE2 hw2.b2
  clear ho1 hown2 hw2 hap hgrow2
  go_wp2_with (at_builtin; refine wpList_app1 _ rfl (.tmp 21) (.tmp 23) 28 rfl (w.heap.size + 3) 9 i0 (.string ⟨#[]⟩) 1 16 Try.underlying28 hi hz0 hz1 hz2 rfl (by decide) _ ns.length (ns.map Value.string) rfl ((own_setH (r := w.heap.size + 2) (j := 1) (unhide HO1b) (by omega) _).alloc _) ⟨_, 0, none⟩ 1 [.string n] rfl rfl (one_newS _ _ _ _ _) (oneCell_strJ _) (by omega) (by omega) (by simp; omega) ?_)
  intro g3 c3 w3 hown3 hgrow3 hblk3
  have hw3 := (((unhide HW2).set1 _).alloc _).grown hgrow3 (fun k e => ((unhide HO1b).lt k e).1)
  have ho2 := own_keptH ((own_setH (r := w.heap.size + 2) (j := 1) (unhide HO2) (by omega) _).alloc _) hgrow3 (fun k hk e => by
    have h1 := unhide HAP k e
    have h2 := ((unhide HO2).lt k hk).1
    omega)
  have hne : ∀ k, (Value.slice a2 vs.length c2).ownBlock = some k → k ≠ g3 := fun k hk e => by
    have h2 := (unhide HO2).lt k hk
    rcases hblk3 with h | h
    · have h1 := unhide HAP g3 h.symm
      omega
    · omega
  have hz3s : w2.heap.size ≤ w3.heap.size := by have := hgrow3.size; simp [World.setCell] at this; omega
  have HO3 := hide hown3
  have HO2b := hide ho2
  have HW3 := hide hw3
  have HNE := hide hne
  clear x0 x1 y0 y1 g0 g1
  obtain ⟨x0, x1, -, -⟩ := cellsE2 hw3.b0
  obtain ⟨y0, y1, g0, g1⟩ := cellsE2 hw3.b2
  clear hown3 hw3 ho2 hne hgrow3 hblk3
  go_wp2_with (at_builtin; refine wpList_app1 _ rfl (.tmp 27) (.tmp 29) 22 rfl w1.heap.size 3 j0 (.int .i64 0) 1 8 Try.underlying22 hj hy0 hy1 hy2 rfl (by decide) _ vs.length (ints vs) rfl ((own_setH (r := w.heap.size + 2) (j := 0) (unhide HO2b) (by omega) _).alloc _) ⟨_, 0, none⟩ 1 [.int .i64 v] rfl rfl (one_newS _ _ _ _ _) (ints_one [v]) (by omega) (by omega) (by simp; omega) ?_)
  intro g4 c4 w4 hown4 hgrow4 hblk4
  have hw4 := (((unhide HW3).set0 _).alloc _).grown hgrow4 (fun k e => by have := ((unhide HO2b).lt k e).1; omega)
  have ho3 := own_keptH ((own_setH (r := w.heap.size + 2) (j := 0) (unhide HO3) (by omega) _).alloc _) hgrow4 (fun k hk e => by
    have h1 := unhide HNE k e
    simp [Value.ownBlock] at hk
    omega)
  have HO4 := hide hown4
  have HO3b := hide ho3
  have HW4 := hide hw4
  clear x0 x1 y0 y1 g0 g1
  obtain ⟨y0, y1, g0, g1⟩ := cellsE2 hw4.b2
  obtain ⟨r0, r1, p0, p1⟩ := cellsE2 hw4.b1
  clear hown4 hw4 ho3 hgrow4 hblk4
  go_wp2_with fail
  have hs3 := (unhide HW4).sz
  have e1 : (ns ++ [n]).map Value.string = ns.map Value.string ++ [Value.string n] := by simp
  have e2 : ints (vs ++ [v]) = ints vs ++ [Value.int .i64 v] := by simp [ints]
  refine bodyPost_ret (v := .agg #[.slice (some ⟨g3, 0, none⟩) (ns.length + 1) c3, .slice (some ⟨g4, 0, none⟩) (vs.length + 1) c4]) (by simp [results, Try.results26, go_sem, r0, r1]) rfl ⟨_, _, rfl, ?_, ?_, ?_⟩
  · rw [e1, List.length_append, List.length_singleton]
    exact own_lowH (own_setH (own_setH (own_setH (unhide HO3b) (by omega) _) (by omega) _) (by omega) _) (by omega)
  · rw [e2, List.length_append, List.length_singleton]
    exact own_lowH (own_setH (own_setH (own_setH (unhide HO4) (by omega) _) (by omega) _) (by omega) _) (by omega)
  · exact (((unhide HW4).bl.setCell (p := ⟨w.heap.size + 2, 1, none⟩) (by simp) _).setCell (p := ⟨w.heap.size + 1, 0, none⟩) (by simp) _).setCell (p := ⟨w.heap.size + 1, 1, none⟩) (by simp) _
end Go.Proofs.Ytciihepbeacppaa
