import Derived.Test.YtciihepbeacppaaHG
namespace Go.Proofs.Ytciihepbeacppaa
open Go.RowKit

/-! ### cells: atoms take their cells, one by one -/
def pki (ns : List ByteArray) (vs : List Int) : List RAt → Option Nat
  | [] => none
  | a :: r => if (evA ns vs a.a).isSome then some 0 else (pki ns vs r).map (· + 1)
/-- from place j on: the first atom whose name has a value; else 0 -/
def pkF (ns : List ByteArray) (vs : List Int) (pl : List RAt) (j : Nat) : Nat := match pki ns vs (pl.drop j) with | some t => j + t | none => 0
def ra0 : RAt := ⟨em, em, em⟩
def celM (ad nx : List Int) (pu : List RAt) : Nat → List RAt → List ByteArray → List Int → List Bool → Bool
  | 0, _, ns, vs, fr => !fr.any id && oth pu (2 * pu.length + 1) ns vs
  | f + 1, pl, ns, vs, fr =>
    match evA ns vs (pl.getD (pkF ns vs pl 0) ra0).a with
    | some v => wayM ad nx (celM ad nx pu f (pl.take (pkF ns vs pl 0) ++ pl.drop (pkF ns vs pl 0 + 1))) (pl.getD (pkF ns vs pl 0) ra0) ns vs (fr.count true + 1) v fr
    | none => (List.range ad.length).any (fun k => fr.getD k false && wayM ad nx (celM ad nx pu f (pl.take (pkF ns vs pl 0) ++ pl.drop (pkF ns vs pl 0 + 1))) (pl.getD (pkF ns vs pl 0) ra0) (ns ++ [(pl.getD (pkF ns vs pl 0) ra0).a]) (vs ++ [ad.getD k 0]) (fr.count true + 1) (ad.getD k 0) fr)
theorem pki_lt {ns : List ByteArray} {vs : List Int} : ∀ {l : List RAt} {t : Nat}, pki ns vs l = some t → t < l.length := by
  intro l
  induction l with
  | nil => intro t h; cases h
  | cons a r ih =>
    intro t h
    simp only [pki] at h
    split at h
    · cases h; simp
    · obtain ⟨u, hu, rfl⟩ := Option.map_eq_some_iff.1 h
      have := ih hu
      simp; omega
theorem pkF_lt {ns : List ByteArray} {vs : List Int} {pl : List RAt} (h : 0 < pl.length) (j : Nat) : pkF ns vs pl j < pl.length := by
  unfold pkF
  cases hp : pki ns vs (pl.drop j) with
  | none => exact h
  | some t => have := pki_lt hp; simp at this; show j + t < pl.length; omega
theorem pkF_end {ns : List ByteArray} {vs : List Int} {pl : List RAt} : pkF ns vs pl pl.length = 0 := by unfold pkF; rw [List.drop_length]; rfl
theorem pkF_step {ns : List ByteArray} {vs : List Int} {pl : List RAt} {k : Nat} (h : k < pl.length) : pkF ns vs pl k = if (evA ns vs pl[k].a).isSome = true then k else pkF ns vs pl (k + 1) := by
  unfold pkF
  rw [List.drop_eq_getElem_cons h, pki]
  by_cases hs : (evA ns vs pl[k].a).isSome = true
  · rw [if_pos hs, if_pos hs]; rfl
  · rw [if_neg hs, if_neg hs]
    cases pki ns vs (pl.drop (k + 1)) with
    | none => rfl
    | some t => show k + (t + 1) = k + 1 + t; omega
theorem unv_two (ns : List ByteArray) (vs : List Int) (l : List RAt) : unv ns vs l ≤ 2 * l.length := by
  unfold unv
  induction l with
  | nil => simp
  | cons a l ih =>
    simp only [List.map_cons, List.sum_cons, List.length_cons]
    have h1 : (if (evA ns vs a.a).isSome = true then 0 else 1) ≤ 1 := by split <;> omega
    have h2 : (if (evA ns vs a.b).isSome = true then 0 else 1) ≤ 1 := by split <;> omega
    omega
theorem raCells_app (a b : List RAt) : raCells (a ++ b) = raCells a ++ raCells b := by simp [raCells]
theorem raCells_len (l : List RAt) : (raCells l).length = l.length * 3 := by
  induction l with
  | nil => rfl
  | cons a l ih => show (a.cells ++ raCells l).length = _; rw [List.length_append, ih]; simp [RAt.cells]; omega
theorem raCells_one (l : List RAt) : ∀ u ∈ raCells l, u.oneCell' = true := by
  intro u hu
  simp only [raCells, List.mem_flatMap] at hu
  obtain ⟨a, _, ha⟩ := hu
  exact RAt.one a u ha
theorem raCells_take (l : List RAt) (i : Nat) (h : i ≤ l.length) : raCells (l.take i) = (raCells l).take (i * 3) := by
  have h1 := raCells_app (l.take i) (l.drop i)
  rw [List.take_append_drop] at h1
  have hl : (raCells (l.take i)).length = i * 3 := by rw [raCells_len, List.length_take]; omega
  rw [h1, ← hl, List.take_left]
theorem raCells_drop (l : List RAt) (i : Nat) (h : i ≤ l.length) : raCells (l.drop i) = (raCells l).drop (i * 3) := by
  have h1 := raCells_app (l.take i) (l.drop i)
  rw [List.take_append_drop] at h1
  have hl : (raCells (l.take i)).length = i * 3 := by rw [raCells_len, List.length_take]; omega
  rw [h1, ← hl, List.drop_left]

/-- the free cells, one by one -/
theorem any_step {fr : List Bool} {k : Nat} (h : ∀ j, j < k → fr.getD j false = false) (hk : fr.getD k false = false) : ∀ j, j < k + 1 → fr.getD j false = false := fun j hj => by
  by_cases e : j = k
  · rw [e]; exact hk
  · exact h j (by omega)
theorem any_none {fr : List Bool} (h : ∀ j, j < fr.length → fr.getD j false = false) : fr.any id = false := by
  rw [List.any_eq_false]
  intro b hb
  obtain ⟨j, hj, rfl⟩ := List.mem_iff_getElem.1 hb
  have := h j hj
  simp [hj] at this
  simp [this]
theorem any_some {fr : List Bool} {k : Nat} (hk : k < fr.length) (h : fr.getD k false = true) : fr.any id = true := by
  rw [List.any_eq_true]
  exact ⟨fr[k], List.getElem_mem hk, by simpa [hk] using h⟩

end Go.Proofs.Ytciihepbeacppaa
