import Derived.Test.YtciihepbeacppaaHC
namespace Go.Proofs.Ytciihepbeacppaa
open Go.RowKit

/-! ### what is equal and what differs -/
def oBad (ns : List ByteArray) (vs : List Int) (a : RAt) : Bool := match evA ns vs a.a, evA ns vs a.b with | some x, some y => (x == y) != eqW a.k eqSW | _, _ => false
def oNm (ns : List ByteArray) (vs : List Int) (cur : ByteArray) (a : RAt) : ByteArray := if (evA ns vs a.b).isSome = false then a.b else if (evA ns vs a.a).isSome = false then a.a else cur
/-- the last name without a value -/
def oN (ns : List ByteArray) (vs : List Int) (l : List RAt) : ByteArray := l.foldl (oNm ns vs) em
def mst (vs : List Int) : Int := vs.foldl (fun m v => if m < v then v else m) 0
/-- how many names in atoms have no value -/
def unv (ns : List ByteArray) (vs : List Int) (l : List RAt) : Nat := (l.map (fun a => (if (evA ns vs a.a).isSome then 0 else 1) + (if (evA ns vs a.b).isSome then 0 else 1))).sum
def oth (l : List RAt) : Nat → List ByteArray → List Int → Bool
  | 0, _, _ => false
  | f + 1, ns, vs => if l.any (oBad ns vs) then false else if eqW (oN ns vs l) em then true else
    vs.any (fun v => oth l f (ns ++ [oN ns vs l]) (vs ++ [v])) || oth l f (ns ++ [oN ns vs l]) (vs ++ [0]) || oth l f (ns ++ [oN ns vs l]) (vs ++ [mst vs + 1])
theorem ra_get {l : List RAt} {k : Nat} (h : k < l.length) : (raCells l)[k * 3]? = some (.string l[k].k) ∧ (raCells l)[k * 3 + 1]? = some (.string l[k].a) ∧ (raCells l)[k * 3 + 2]? = some (.string l[k].b) := by
  induction l generalizing k with
  | nil => simp at h
  | cons x l ih =>
    have hx : raCells (x :: l) = [Value.string x.k, .string x.a, .string x.b] ++ raCells l := rfl
    cases k with
    | zero => rw [hx]; simp
    | succ k =>
      have := ih (k := k) (by simpa using h)
      rw [hx, show (k + 1) * 3 = k * 3 + 3 by omega]
      simp only [List.getElem_cons_succ]
      refine ⟨?_, ?_, ?_⟩
      · rw [List.getElem?_append_right (by simp)]; simpa using this.1
      · rw [List.getElem?_append_right (by simp)]; simpa [show k * 3 + 3 + 1 - 3 = k * 3 + 1 by omega] using this.2.1
      · rw [List.getElem?_append_right (by simp)]; simpa [show k * 3 + 3 + 2 - 3 = k * 3 + 2 by omega] using this.2.2

theorem oN_step {ns : List ByteArray} {vs : List Int} {l : List RAt} {k : Nat} (h : k < l.length) : oN ns vs (l.take (k + 1)) = oNm ns vs (oN ns vs (l.take k)) l[k] := by
  unfold oN; rw [List.take_succ_eq_append_getElem h, List.foldl_append]; rfl
theorem bad_step {ns : List ByteArray} {vs : List Int} {l : List RAt} {k : Nat} (h : k < l.length) (hb : (l.take k).any (oBad ns vs) = false) (h1 : oBad ns vs l[k] = false) : (l.take (k + 1)).any (oBad ns vs) = false := by
  rw [List.take_succ_eq_append_getElem h, List.any_append, hb]; simp [h1]
theorem bad_here {ns : List ByteArray} {vs : List Int} {l : List RAt} {k f : Nat} (h : k < l.length) (h1 : oBad ns vs l[k] = true) : oth l (f + 1) ns vs = false := by
  have : l.any (oBad ns vs) = true := List.any_eq_true.2 ⟨l[k], List.getElem_mem h, h1⟩
  simp only [oth, this, if_true]

theorem fnd_app (ns : List ByteArray) (n m : ByteArray) : (fndL ns m < ns.length → fndL (ns ++ [n]) m = fndL ns m) ∧ (¬ fndL ns m < ns.length → fndL (ns ++ [n]) m = if eqW n m = true then ns.length else ns.length + 1) := by
  induction ns with
  | nil => exact ⟨fun h => absurd h (by simp), fun _ => rfl⟩
  | cons x r ih =>
    have e1 : fndL (x :: r ++ [n]) m = if eqW x m = true then 0 else fndL (r ++ [n]) m + 1 := rfl
    have e2 : fndL (x :: r) m = if eqW x m = true then 0 else fndL r m + 1 := rfl
    rw [e1, e2]
    by_cases h : eqW x m = true
    · rw [if_pos h, if_pos h]; exact ⟨fun _ => rfl, fun h => absurd (by simp) h⟩
    · rw [if_neg h, if_neg h]
      simp only [List.length_cons]
      refine ⟨fun h2 => by rw [ih.1 (by omega)], fun h2 => ?_⟩
      rw [ih.2 (by omega)]
      by_cases h3 : eqW n m = true
      · rw [if_pos h3, if_pos h3]
      · rw [if_neg h3, if_neg h3]
/-- a name more -/
theorem evA_app {ns : List ByteArray} {vs : List Int} (hl : ns.length = vs.length) (n m : ByteArray) (v : Int) : evA (ns ++ [n]) (vs ++ [v]) m = if (evA ns vs m).isSome = true then evA ns vs m else if eqW n m = true then some v else none := by
  by_cases h0 : eqW m nilW = true
  · have e : ∀ ns vs, evA ns vs m = some 0 := fun ns vs => by unfold evA; rw [if_pos h0]
    rw [e, e]; rfl
  · by_cases h1 : fndL ns m < ns.length
    · have e1 : evA ns vs m = some (vs.getD (fndL ns m) 0) := by unfold evA; rw [if_neg h0, if_pos h1]
      have e2 : evA (ns ++ [n]) (vs ++ [v]) m = some ((vs ++ [v]).getD (fndL ns m) 0) := by
        unfold evA; rw [if_neg h0, (fnd_app ns n m).1 h1, if_pos (by simp; omega)]
      rw [e1, e2, if_pos (by simp)]
      congr 1
      simp only [List.getD_eq_getElem?_getD]
      rw [List.getElem?_append_left (by omega)]
    · have e1 : evA ns vs m = none := by unfold evA; rw [if_neg h0, if_neg h1]
      rw [e1, if_neg (by simp)]
      unfold evA
      rw [if_neg h0, (fnd_app ns n m).2 h1]
      by_cases h2 : eqW n m = true
      · rw [if_pos h2, if_pos h2, if_pos (by simp)]
        congr 1
        simp only [List.getD_eq_getElem?_getD]
        rw [List.getElem?_append_right (by omega), hl]; simp
      · rw [if_neg h2, if_neg h2, if_neg (by simp)]
theorem oNm_cases (ns : List ByteArray) (vs : List Int) (cur : ByteArray) (a : RAt) : oNm ns vs cur a = cur ∨ ((evA ns vs a.a).isSome = false ∧ oNm ns vs cur a = a.a) ∨ ((evA ns vs a.b).isSome = false ∧ oNm ns vs cur a = a.b) := by
  unfold oNm
  by_cases h : (evA ns vs a.b).isSome = false
  · rw [if_pos h]; exact Or.inr (Or.inr ⟨h, rfl⟩)
  · rw [if_neg h]
    by_cases h2 : (evA ns vs a.a).isSome = false
    · rw [if_pos h2]; exact Or.inr (Or.inl ⟨h2, rfl⟩)
    · rw [if_neg h2]; exact Or.inl rfl
theorem oN_in (ns : List ByteArray) (vs : List Int) : ∀ (l : List RAt) (cur : ByteArray), l.foldl (oNm ns vs) cur = cur ∨ ∃ a ∈ l, ((evA ns vs a.a).isSome = false ∧ l.foldl (oNm ns vs) cur = a.a) ∨ ((evA ns vs a.b).isSome = false ∧ l.foldl (oNm ns vs) cur = a.b) := by
  intro l
  induction l with
  | nil => intro cur; exact Or.inl rfl
  | cons a l ih =>
    intro cur
    simp only [List.foldl_cons]
    rcases ih (oNm ns vs cur a) with h | ⟨b, hb, h⟩
    · rcases oNm_cases ns vs cur a with h2 | h2 | h2
      · exact Or.inl (h.trans h2)
      · exact Or.inr ⟨a, by simp, Or.inl ⟨h2.1, h.trans h2.2⟩⟩
      · exact Or.inr ⟨a, by simp, Or.inr ⟨h2.1, h.trans h2.2⟩⟩
    · exact Or.inr ⟨b, by simp [hb], h⟩
theorem unv_at {ns ns' : List ByteArray} {vs vs' : List Int} {l : List RAt} (hle : ∀ m, (if (evA ns' vs' m).isSome = true then 0 else 1) ≤ (if (evA ns vs m).isSome = true then 0 else 1)) {a : RAt} (ha : a ∈ l)
    (h : ((evA ns vs a.a).isSome = false ∧ (evA ns' vs' a.a).isSome = true) ∨ ((evA ns vs a.b).isSome = false ∧ (evA ns' vs' a.b).isSome = true)) : unv ns' vs' l < unv ns vs l := by
  have hall : ∀ l : List RAt, unv ns' vs' l ≤ unv ns vs l := by
    intro l
    unfold unv
    induction l with
    | nil => exact Nat.le_refl _
    | cons b l ih => simp only [List.map_cons, List.sum_cons]; have := hle b.a; have := hle b.b; omega
  induction l with
  | nil => cases ha
  | cons b l ih =>
    have h1 := hle b.a
    have h2 := hle b.b
    have h3 := hall l
    have e1 : unv ns' vs' (b :: l) = ((if (evA ns' vs' b.a).isSome = true then 0 else 1) + (if (evA ns' vs' b.b).isSome = true then 0 else 1)) + unv ns' vs' l := by simp [unv]
    have e2 : unv ns vs (b :: l) = ((if (evA ns vs b.a).isSome = true then 0 else 1) + (if (evA ns vs b.b).isSome = true then 0 else 1)) + unv ns vs l := by simp [unv]
    rw [e1, e2]
    rcases List.mem_cons.1 ha with rfl | hm
    · rcases h with ⟨ha1, ha2⟩ | ⟨ha1, ha2⟩
      · rw [ha1, ha2] at h1 ⊢; simp at h1 ⊢; omega
      · rw [ha1, ha2] at h2 ⊢; simp at h2 ⊢; omega
    · have := ih hm; omega
/-- with its last name one name less is without a value -/
theorem unv_dec {ns : List ByteArray} {vs : List Int} (hl : ns.length = vs.length) {l : List RAt} (hn : eqW (oN ns vs l) em = false) (v : Int) : unv (ns ++ [oN ns vs l]) (vs ++ [v]) l < unv ns vs l := by
  have hle : ∀ m, (if (evA (ns ++ [oN ns vs l]) (vs ++ [v]) m).isSome = true then 0 else 1) ≤ (if (evA ns vs m).isSome = true then 0 else 1) := by
    intro m
    rw [evA_app hl]
    by_cases h : (evA ns vs m).isSome = true
    · simp [h]
    · simp only [if_neg h]; split <;> simp
  have hself : ∀ m, (evA ns vs m).isSome = false → oN ns vs l = m → (evA (ns ++ [oN ns vs l]) (vs ++ [v]) m).isSome = true := by
    intro m hm e
    rw [evA_app hl, if_neg (by simp [hm]), e, if_pos (by simp [eqW])]; rfl
  rcases oN_in ns vs l em with h | ⟨a, ha, (⟨h1, h2⟩ | ⟨h1, h2⟩)⟩
  · exfalso
    unfold oN at hn; rw [h] at hn; simp [eqW] at hn
  · exact unv_at hle ha (Or.inl ⟨h1, hself _ h1 h2⟩)
  · exact unv_at hle ha (Or.inr ⟨h1, hself _ h1 h2⟩)
theorem mst_step {vs : List Int} {k : Nat} (h : k < vs.length) : mst (vs.take (k + 1)) = if mst (vs.take k) < vs[k] then vs[k] else mst (vs.take k) := by
  unfold mst; rw [List.take_succ_eq_append_getElem h, List.foldl_append]; rfl
theorem mst_le {vs : List Int} {b : Int} (h0 : 0 ≤ b) (h : ∀ v ∈ vs, v ≤ b) : mst vs ≤ b ∧ 0 ≤ mst vs := by
  unfold mst
  have : ∀ (l : List Int) (m : Int), 0 ≤ m → m ≤ b → (∀ v ∈ l, v ≤ b) → l.foldl (fun m v => if m < v then v else m) m ≤ b ∧ 0 ≤ l.foldl (fun m v => if m < v then v else m) m := by
    intro l
    induction l with
    | nil => intro m h1 h2 _; exact ⟨h2, h1⟩
    | cons x l ih =>
      intro m h1 h2 h3
      simp only [List.foldl_cons]
      have hx := h3 x (by simp)
      split
      · exact ih _ (by omega) hx (fun v hv => h3 v (by simp [hv]))
      · exact ih _ h1 h2 (fun v hv => h3 v (by simp [hv]))
  exact this vs 0 (by omega) h0 h
end Go.Proofs.Ytciihepbeacppaa
