import Derived.Test.YtciihepbeacppaaRE
namespace Go.Proofs.Ytciihepbeacppaa
open Go.RowKit

set_option maxRecDepth 100000 in
set_option maxHeartbeats 4000000 in
theorem atom_six (a b c d e f : ByteArray) (g off cap : Nat) (w : World) (hg : g < w.heap.size) (c0 : w.cell? ⟨g, off, none⟩ = some (.string a)) (c1 : w.cell? ⟨g, off + 1, none⟩ = some (.string b)) (c2 : w.cell? ⟨g, off + 2, none⟩ = some (.string c)) (c3 : w.cell? ⟨g, off + 3, none⟩ = some (.string d)) (c4 : w.cell? ⟨g, off + 4, none⟩ = some (.string e)) (c5 : w.cell? ⟨g, off + 5, none⟩ = some (.string f)) (x y : Bool)
    (hx : nameB c = x) (hy : nameB e = y) (h0 : (a.toList == [108, 115]) = true) (h1 : (b.toList == [40]) = true) (h2 : (d.toList == [44]) = true) (h3 : (f.toList == [41]) = true) :
    Calls Try.prog 37 #[.slice (some ⟨g, off, none⟩) 6 cap] w fun e' w' => e' = .returned (.tuple #[.agg #[.string ⟨#[108, 115]⟩, .string c, .string e], .bool false, .bool (x && y)]) ∧ Below w.heap.size w w' := by
  cases x <;> cases y
  all_goals
    go_enter Try.func37, Try.ntmps37
    go_wp2_with (go_at_call 48; refine (name_any _ _).mono ?_; rintro e w' ⟨rfl, rfl⟩)
    go_region
    go_wp2_with fail
    exact bodyPost_ret (v := .tuple #[.agg #[.string ⟨#[108, 115]⟩, .string c, .string e], .bool false, .bool _]) (by simp [results, Try.results37, go_sem]) rfl ⟨rfl, by repeat (first | exact Below.refl _ _ | apply Below.drew | (refine Below.alloc ?_ (Nat.le_refl _) _))⟩
set_option maxRecDepth 100000 in
set_option maxHeartbeats 4000000 in
theorem atom_sixF (a b d f : ByteArray) (g off cap : Nat) (w : World) (hg : g < w.heap.size) (c0 : w.cell? ⟨g, off, none⟩ = some (.string a)) (c1 : w.cell? ⟨g, off + 1, none⟩ = some (.string b)) (c3 : w.cell? ⟨g, off + 3, none⟩ = some (.string d)) (c5 : w.cell? ⟨g, off + 5, none⟩ = some (.string f))
    (hc : (a.toList == [108, 115]) = false ∨ ((a.toList == [108, 115]) = true ∧ (b.toList == [40]) = false) ∨ ((a.toList == [108, 115]) = true ∧ (b.toList == [40]) = true ∧ (d.toList == [44]) = false) ∨ ((a.toList == [108, 115]) = true ∧ (b.toList == [40]) = true ∧ (d.toList == [44]) = true ∧ (f.toList == [41]) = false)) :
    Calls Try.prog 37 #[.slice (some ⟨g, off, none⟩) 6 cap] w fun e' w' => e' = .returned (.tuple #[.agg #[.string ⟨#[]⟩, .string ⟨#[]⟩, .string ⟨#[]⟩], .bool false, .bool false]) ∧ Below w.heap.size w w' := by
  rcases hc with h0 | ⟨h0, h1⟩ | ⟨h0, h1, h2⟩ | ⟨h0, h1, h2, h3⟩
  all_goals
    go_enter Try.func37, Try.ntmps37
    go_wp2_with fail
    exact bodyPost_ret (v := .tuple #[.agg #[.string ⟨#[]⟩, .string ⟨#[]⟩, .string ⟨#[]⟩], .bool false, .bool false]) (by simp [results, Try.results37, go_sem]) rfl ⟨rfl, by repeat (first | exact Below.refl _ _ | apply Below.drew | (refine Below.alloc ?_ (Nat.le_refl _) _))⟩

theorem Strs.open6 {w : World} {v : Value} {a b c d e f : ByteArray} (h : Strs w v [a, b, c, d, e, f]) : ∃ g off cap, v = .slice (some ⟨g, off, none⟩) 6 cap ∧ g < w.heap.size ∧ w.cell? ⟨g, off, none⟩ = some (.string a) ∧ w.cell? ⟨g, off + 1, none⟩ = some (.string b) ∧ w.cell? ⟨g, off + 2, none⟩ = some (.string c) ∧ w.cell? ⟨g, off + 3, none⟩ = some (.string d) ∧ w.cell? ⟨g, off + 4, none⟩ = some (.string e) ∧ w.cell? ⟨g, off + 5, none⟩ = some (.string f) := by
  obtain ⟨ao, cap, rfl, hn, hm, hc⟩ := h
  obtain ⟨g, off, rfl, hcell⟩ := hc (by simp)
  have h0 := hcell 0 (by simp)
  exact ⟨g, off, cap, rfl, World.block_lt_of_cell? w _ h0, h0, hcell 1 (by simp), hcell 2 (by simp), hcell 3 (by simp), hcell 4 (by simp), hcell 5 (by simp)⟩

theorem ratom_any {w : World} {v : Value} {l : List ByteArray} (h : Strs w v l) :
    Calls Try.prog 37 #[v] w fun e w' => (∃ (i : RAt) (m : Bool), e = .returned (.tuple #[.agg i.cells.toArray, .bool m, .bool (raB l)]) ∧ (raB l = true → i = raA l ∧ m = raE l)) ∧ Below w.heap.size w w' := by
  match l, h with
  | [a], h =>
    obtain ⟨g, off, cap, rfl, hg, c0⟩ := h.open1
    have hb : raB [a] = (a.toList == [101, 109, 112]) := by simp only [raB, eqW, empW_l]
    cases ha : (a.toList == [101, 109, 112]) with
    | true =>
      refine (atom_one a g off cap w hg c0 ha).mono ?_
      rintro e w' ⟨rfl, hbl⟩
      exact ⟨⟨⟨em, em, em⟩, true, by rw [hb, ha]; rfl, fun _ => ⟨rfl, rfl⟩⟩, hbl⟩
    | false =>
      refine (atom_oneF a g off cap w hg c0 ha).mono ?_
      rintro e w' ⟨rfl, hbl⟩
      exact ⟨⟨⟨em, em, em⟩, false, by rw [hb, ha]; rfl, fun h => by rw [hb, ha] at h; cases h⟩, hbl⟩
  | [a, b, c], h =>
    obtain ⟨g, off, cap, rfl, hg, c0, c1, c2⟩ := h.open3
    have hb : raB [a, b, c] = (nameB a && nameB c && (b.toList == [61] || b.toList == [33, 61] || b.toList == [45, 62])) := by simp only [raB, eqW, eqSW_l, neSW_l, toW_l]
    refine (atom_three a b c g off cap w hg c0 c1 c2 (nameB a) (nameB c) (b.toList == [61] || b.toList == [33, 61] || b.toList == [45, 62]) rfl rfl ?_).mono ?_
    · cases (b.toList == [61]) <;> cases (b.toList == [33, 61]) <;> cases (b.toList == [45, 62]) <;> simp
    · rintro e w' ⟨rfl, hbl⟩
      exact ⟨⟨⟨b, a, c⟩, false, by rw [hb]; rfl, fun _ => ⟨rfl, rfl⟩⟩, hbl⟩
  | [a, b, c, d, e, f], h =>
    obtain ⟨g, off, cap, rfl, hg, c0, c1, c2, c3, c4, c5⟩ := h.open6
    have hb : raB [a, b, c, d, e, f] = (a.toList == [108, 115] && b.toList == [40] && d.toList == [44] && f.toList == [41] && (nameB c && nameB e)) := by simp only [raB, eqW, lsW_l, opW_l, cmW_l, clW_l]
    cases h0 : (a.toList == [108, 115]) with
    | false =>
      refine (atom_sixF a b d f g off cap w hg c0 c1 c3 c5 (Or.inl h0)).mono ?_
      rintro e w' ⟨rfl, hbl⟩
      exact ⟨⟨⟨em, em, em⟩, false, by rw [hb, h0]; rfl, fun h => by rw [hb, h0] at h; cases h⟩, hbl⟩
    | true =>
      cases h1 : (b.toList == [40]) with
      | false =>
        refine (atom_sixF a b d f g off cap w hg c0 c1 c3 c5 (Or.inr (Or.inl ⟨h0, h1⟩))).mono ?_
        rintro e w' ⟨rfl, hbl⟩
        exact ⟨⟨⟨em, em, em⟩, false, by rw [hb, h0, h1]; rfl, fun h => by rw [hb, h0, h1] at h; cases h⟩, hbl⟩
      | true =>
        cases h2 : (d.toList == [44]) with
        | false =>
          refine (atom_sixF a b d f g off cap w hg c0 c1 c3 c5 (Or.inr (Or.inr (Or.inl ⟨h0, h1, h2⟩)))).mono ?_
          rintro e w' ⟨rfl, hbl⟩
          exact ⟨⟨⟨em, em, em⟩, false, by rw [hb, h0, h1, h2]; rfl, fun h => by rw [hb, h0, h1, h2] at h; cases h⟩, hbl⟩
        | true =>
          cases h3 : (f.toList == [41]) with
          | false =>
            refine (atom_sixF a b d f g off cap w hg c0 c1 c3 c5 (Or.inr (Or.inr (Or.inr ⟨h0, h1, h2, h3⟩)))).mono ?_
            rintro e w' ⟨rfl, hbl⟩
            exact ⟨⟨⟨em, em, em⟩, false, by rw [hb, h0, h1, h2, h3]; rfl, fun h => by rw [hb, h0, h1, h2, h3] at h; cases h⟩, hbl⟩
          | true =>
            refine (atom_six a b c d e f g off cap w hg c0 c1 c2 c3 c4 c5 (nameB c) (nameB e) rfl rfl h0 h1 h2 h3).mono ?_
            rintro e' w' ⟨rfl, hbl⟩
            exact ⟨⟨⟨lsW, c, e⟩, false, by rw [hb, h0, h1, h2, h3]; simp; rfl, fun _ => ⟨rfl, rfl⟩⟩, hbl⟩
  | [], h =>
    obtain ⟨ao, cap, rfl, _⟩ := h
    refine (atom_other ao 0 cap w rfl rfl rfl).mono ?_
    rintro e w' ⟨rfl, hbl⟩
    exact ⟨⟨⟨em, em, em⟩, false, rfl, fun h => by cases h⟩, hbl⟩
  | [_, _], h =>
    obtain ⟨ao, cap, rfl, _⟩ := h
    refine (atom_other ao 2 cap w rfl rfl rfl).mono ?_
    rintro e w' ⟨rfl, hbl⟩
    exact ⟨⟨⟨em, em, em⟩, false, rfl, fun h => by cases h⟩, hbl⟩
  | [_, _, _, _], h =>
    obtain ⟨ao, cap, rfl, _⟩ := h
    refine (atom_other ao 4 cap w rfl rfl rfl).mono ?_
    rintro e w' ⟨rfl, hbl⟩
    exact ⟨⟨⟨em, em, em⟩, false, rfl, fun h => by cases h⟩, hbl⟩
  | [_, _, _, _, _], h =>
    obtain ⟨ao, cap, rfl, _⟩ := h
    refine (atom_other ao 5 cap w rfl rfl rfl).mono ?_
    rintro e w' ⟨rfl, hbl⟩
    exact ⟨⟨⟨em, em, em⟩, false, rfl, fun h => by cases h⟩, hbl⟩
  | _ :: _ :: _ :: _ :: _ :: _ :: _ :: r, h =>
    obtain ⟨ao, cap, rfl, _⟩ := h
    refine (atom_other ao _ cap w (by simp; omega) (by simp; omega) (by simp; omega)).mono ?_
    rintro e w' ⟨rfl, hbl⟩
    exact ⟨⟨⟨em, em, em⟩, false, rfl, fun h => by cases h⟩, hbl⟩
end Go.Proofs.Ytciihepbeacppaa
