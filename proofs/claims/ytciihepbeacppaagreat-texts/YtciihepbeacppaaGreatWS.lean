import Derived.Test.YtciihepbeacppaaGreatWR
namespace Go.Proofs.YtciihepbeacppaaGreat
open Go.RowKit

theorem nd_len (l : List Nd) : (ndCells l).length = l.length * 6 := by
  induction l with
  | nil => rfl
  | cons a r ih => simp only [ndCells, List.flatMap_cons, List.length_append, List.length_cons] at *; rw [ih]; simp [Nd.cells]; omega
theorem nd_setOt (k n : Nat) (l : List Nd) : ndCells (setOt k n l) = (ndCells l).set (k * 6 + 5) (.int .i64 n) := by
  induction l generalizing k with
  | nil => simp [ndCells, setOt]
  | cons a r ih =>
    cases k with
    | zero => simp [ndCells, setOt, Nd.cells]
    | succ k =>
      have := ih k
      simp only [ndCells, setOt, List.modify_succ_cons, List.flatMap_cons] at *
      rw [this, show (k + 1) * 6 + 5 = (k * 6 + 5) + a.cells.length by simp [Nd.cells]; omega, List.set_append_right _ _ (by omega)]
      simp
theorem nd_setNx (k n : Nat) (l : List Nd) : ndCells (setNx k n l) = (ndCells l).set (k * 6 + 4) (.int .i64 n) := by
  induction l generalizing k with
  | nil => simp [ndCells, setNx]
  | cons a r ih =>
    cases k with
    | zero => simp [ndCells, setNx, Nd.cells]
    | succ k =>
      have := ih k
      simp only [ndCells, setNx, List.modify_succ_cons, List.flatMap_cons] at *
      rw [this, show (k + 1) * 6 + 4 = (k * 6 + 4) + a.cells.length by simp [Nd.cells]; omega, List.set_append_right _ _ (by omega)]
      simp

theorem own_set {w : World} {B : Nat} {e : TypeId} {sz n g cap j : Nat} {xs : List Value} (h : w.ownsRow B e sz (.slice (some ⟨g, 0, none⟩) n cap) n xs) (u : Value) :
    (w.setCell ⟨g, j, none⟩ u).ownsRow B e sz (.slice (some ⟨g, 0, none⟩) n cap) n (xs.set j u) := by
  refine ⟨by simpa using h.1, ?_⟩
  rcases h.2 with ⟨h0, _⟩ | ⟨g', cap', cur, hv, hB, hg, hn, hm, hs, ht⟩
  · cases h0
  · simp only [Value.slice.injEq, Option.some.injEq, Addr.mk.injEq] at hv
    obtain ⟨⟨rfl, _⟩, _, rfl⟩ := hv
    refine .inr ⟨g, cap, cur.setIfInBounds j u, rfl, hB, set6 hg u, hn, hm, by simpa using hs, ?_⟩
    rw [Array.toList_setIfInBounds, List.take_set, ht]

section
variable {B : Nat} {WV : Value} {w : World} {P : Nat} {ws : List ByteArray} {s : PS} {F : List Nat} {wv vv hv : Value} {g cap : Nat}

/-- a store into a node -/
theorem IsPv.setNode (h : IsPv B WV w P ws s F wv vv hv (.slice (some ⟨g, 0, none⟩) s.nodes.length cap)) (j : Nat) (u : Value) (l : List Nd) (hl : ndCells l = (ndCells s.nodes).set j u) (hll : l.length = s.nodes.length) :
    IsPv B WV (w.setCell ⟨g, j, none⟩ u) P ws { s with nodes := l } F wv vv hv (.slice (some ⟨g, 0, none⟩) s.nodes.length cap) := by
  have hap := h.apart
  obtain ⟨hP, hB, h1, h2, h3, h4, hF, hN⟩ := h
  have hg : (Value.slice (some ⟨g, 0, none⟩) s.nodes.length cap).ownBlock = some g := rfl
  have hne : ∀ k, k ≠ g → (w.setCell ⟨g, j, none⟩ u).heap[k]? = w.heap[k]? := fun k hk => Below.heap_setCell _ _ _ _ hk
  have ho := hap.2.2.2 g hg
  refine ⟨by rw [hne P (fun e => hap.1 g (by simp [hg]) e.symm)]; exact hP, hB, ownsRow_of_eq h1 (fun k hk => hne k (fun e => ho.1 (by rw [← e]; exact hk))), ownsRow_of_eq h2 (fun k hk => hne k (fun e => ho.2.1 (by rw [← e]; exact hk))),
    ownsRow_of_eq h3 (fun k hk => hne k (fun e => ho.2.2 (by rw [← e]; exact hk))), ?_, hF, hN⟩
  exact own_cast (w := w.setCell ⟨g, j, none⟩ u) (by have := own_set h4 (j := j) u; exact this) hll hl
theorem IsPv.nodeCell (h : IsPv B WV w P ws s F wv vv hv (.slice (some ⟨g, 0, none⟩) s.nodes.length cap)) (j : Nat) (hj : j < s.nodes.length * 6) : (∃ v, w.cell? ⟨g, j, none⟩ = some v ∧ v ∈ ndCells s.nodes) ∧ w.frozen? ⟨g, j, none⟩ = false := by
  obtain ⟨hP, hB, h1, h2, h3, h4, hF, hN⟩ := h
  have hl : j < (ndCells s.nodes).length := by rw [nd_len]; exact hj
  constructor
  · have := h4.cells (g := g) rfl j _ (List.getElem?_eq_getElem hl)
    rw [show (⟨g, 0, none⟩ : Addr).add j = ⟨g, j, none⟩ by unfold Addr.add; split <;> simp_all] at this
    exact ⟨_, this, List.getElem_mem _⟩
  · rcases h4.2 with ⟨h0, _⟩ | ⟨g', cap', cur, hv, hB, hg, hn, hm, hs, ht⟩
    · cases h0
    · simp only [Value.slice.injEq, Option.some.injEq, Addr.mk.injEq] at hv
      obtain ⟨⟨rfl, _⟩, _, rfl⟩ := hv
      simp [World.frozen?, hg]
theorem nd_mem_int {l : List Nd} {v : Value} (h : v ∈ ndCells l) : ∃ n : Int, v = .int .i64 n := by
  simp only [ndCells, List.mem_flatMap, Nd.cells] at h
  obtain ⟨a, _, h⟩ := h
  simp at h
  rcases h with h | h | h | h | h | h <;> exact ⟨_, h⟩
end
end Go.Proofs.YtciihepbeacppaaGreat
