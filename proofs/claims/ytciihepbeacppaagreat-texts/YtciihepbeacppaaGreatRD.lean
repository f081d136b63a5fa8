import Derived.Test.YtciihepbeacppaaGreatRB
namespace Go.Proofs.YtciihepbeacppaaGreat
open Go.RowKit

/-- an instruction of the reference -/
structure Ins where
  op : ByteArray
  x : ByteArray
  y : ByteArray
  cond : ByteArray
  to : Nat
  head : Bool
def Ins.cells (i : Ins) : List Value := [.string i.op, .string i.x, .string i.y, .string i.cond, .int .i64 i.to, .bool i.head]
def em : ByteArray := ⟨#[]⟩
def insZ : Ins := ⟨em, em, em, em, 0, false⟩
def testW : ByteArray := ⟨#[116, 101, 115, 116]⟩
def starW : ByteArray := ⟨#[42]⟩
def eqSW : ByteArray := ⟨#[61]⟩
def neSW : ByteArray := ⟨#[33, 61]⟩
/-- condition -/
def rcB (l : List ByteArray) : Bool := match l with
  | [a] => eqW a starW
  | [a, b, c] => lowB a && (lowB c || eqW c nilW) && (eqW b eqSW || eqW b neSW)
  | _ => false
def rcI (l : List ByteArray) : Ins := match l with
  | [a, b, c] => ⟨testW, a, c, b, 0, false⟩
  | _ => ⟨testW, em, em, starW, 0, false⟩

theorem nilW_l : nilW.toList = [110, 105, 108] := ByteArray.toList_eq _
theorem starW_l : starW.toList = [42] := ByteArray.toList_eq _
theorem eqSW_l : eqSW.toList = [61] := ByteArray.toList_eq _
theorem neSW_l : neSW.toList = [33, 61] := ByteArray.toList_eq _

theorem cells6s {w : World} {r : Nat} {a b c d e f : Value} {T : TypeId} (h : w.heap[r]? = some (.cells #[a, b, c, d, e, f] T (0, 0))) :
    w.cell? ⟨r, 0, none⟩ = some a ∧ w.cell? ⟨r, 1, none⟩ = some b ∧ w.cell? ⟨r, 2, none⟩ = some c ∧ w.cell? ⟨r, 3, none⟩ = some d ∧ w.cell? ⟨r, 4, none⟩ = some e ∧ w.cell? ⟨r, 5, none⟩ = some f := by
  refine ⟨?_, ?_, ?_, ?_, ?_, ?_⟩ <;> simp [World.cell?, h]

set_option maxRecDepth 100000 in
set_option maxHeartbeats 2000000 in
theorem cond_three (a b c : ByteArray) (g off cap : Nat) (w : World) (hg : g < w.heap.size) (c0 : w.cell? ⟨g, off, none⟩ = some (.string a)) (c1 : w.cell? ⟨g, off + 1, none⟩ = some (.string b)) (c2 : w.cell? ⟨g, off + 2, none⟩ = some (.string c)) (bb : Bool)
    (hcase : (bb = false ∧ lowB a = false) ∨ (bb = false ∧ lowB a = true ∧ lowB c = false ∧ (c.toList == [110, 105, 108]) = false) ∨
      (lowB a = true ∧ lowB c = true ∧ ((bb = true ∧ (b.toList == [61]) = true) ∨ (bb = true ∧ (b.toList == [61]) = false ∧ (b.toList == [33, 61]) = true) ∨ (bb = false ∧ (b.toList == [61]) = false ∧ (b.toList == [33, 61]) = false))) ∨
      (lowB a = true ∧ lowB c = false ∧ (c.toList == [110, 105, 108]) = true ∧ ((bb = true ∧ (b.toList == [61]) = true) ∨ (bb = true ∧ (b.toList == [61]) = false ∧ (b.toList == [33, 61]) = true) ∨ (bb = false ∧ (b.toList == [61]) = false ∧ (b.toList == [33, 61]) = false)))) :
    Calls Tryz.prog 126 #[.slice (some ⟨g, off, none⟩) 3 cap] w fun e w' => e = .returned (.tuple #[.agg #[.string ⟨#[116, 101, 115, 116]⟩, .string a, .string c, .string b, .int .i64 0, .bool false], .bool bb]) ∧ Below w.heap.size w w' := by
  rcases hcase with ⟨rfl, h1⟩ | ⟨rfl, h1, h2, h3⟩ | ⟨h1, h2, (⟨rfl, h4⟩ | ⟨rfl, h4, h5⟩ | ⟨rfl, h4, h5⟩)⟩ | ⟨h1, h2, h3, (⟨rfl, h4⟩ | ⟨rfl, h4, h5⟩ | ⟨rfl, h4, h5⟩)⟩
  all_goals
    go_enter Tryz.func126, Tryz.ntmps126
    go_wp2_with (go_at_call 75; refine (lower_any _ _).mono ?_; rintro e w' ⟨rfl, rfl⟩)
    go_region
    go_wp2_with fail
    exact bodyPost_ret (v := .tuple #[.agg #[.string ⟨#[116, 101, 115, 116]⟩, .string a, .string c, .string b, .int .i64 0, .bool false], .bool _]) (by simp [results, Tryz.results126, go_sem]) rfl ⟨rfl, by repeat (first | exact Below.refl _ _ | apply Below.drew | (refine Below.alloc ?_ (Nat.le_refl _) _))⟩

set_option maxRecDepth 100000 in
set_option maxHeartbeats 2000000 in
theorem cond_one (a : ByteArray) (g off cap : Nat) (w : World) (hg : g < w.heap.size) (c0 : w.cell? ⟨g, off, none⟩ = some (.string a)) (h : (a.toList == [42]) = true) :
    Calls Tryz.prog 126 #[.slice (some ⟨g, off, none⟩) 1 cap] w fun e w' => e = .returned (.tuple #[.agg #[.string ⟨#[116, 101, 115, 116]⟩, .string ⟨#[]⟩, .string ⟨#[]⟩, .string ⟨#[42]⟩, .int .i64 0, .bool false], .bool true]) ∧ Below w.heap.size w w' := by
  go_enter Tryz.func126, Tryz.ntmps126
  go_wp2_with fail
  exact bodyPost_ret (v := .tuple #[.agg #[.string ⟨#[116, 101, 115, 116]⟩, .string ⟨#[]⟩, .string ⟨#[]⟩, .string ⟨#[42]⟩, .int .i64 0, .bool false], .bool true]) (by simp [results, Tryz.results126, go_sem]) rfl ⟨rfl, by repeat (first | exact Below.refl _ _ | apply Below.drew | (refine Below.alloc ?_ (Nat.le_refl _) _))⟩
set_option maxRecDepth 100000 in
set_option maxHeartbeats 2000000 in
theorem cond_oneF (a : ByteArray) (g off cap : Nat) (w : World) (hg : g < w.heap.size) (c0 : w.cell? ⟨g, off, none⟩ = some (.string a)) (h : (a.toList == [42]) = false) :
    Calls Tryz.prog 126 #[.slice (some ⟨g, off, none⟩) 1 cap] w fun e w' => e = .returned (.tuple #[.agg #[.string ⟨#[]⟩, .string ⟨#[]⟩, .string ⟨#[]⟩, .string ⟨#[]⟩, .int .i64 0, .bool false], .bool false]) ∧ Below w.heap.size w w' := by
  go_enter Tryz.func126, Tryz.ntmps126
  go_wp2_with fail
  exact bodyPost_ret (v := .tuple #[.agg #[.string ⟨#[]⟩, .string ⟨#[]⟩, .string ⟨#[]⟩, .string ⟨#[]⟩, .int .i64 0, .bool false], .bool false]) (by simp [results, Tryz.results126, go_sem]) rfl ⟨rfl, by repeat (first | exact Below.refl _ _ | apply Below.drew | (refine Below.alloc ?_ (Nat.le_refl _) _))⟩
set_option maxRecDepth 100000 in
set_option maxHeartbeats 2000000 in
theorem cond_other (ao : Option Addr) (n cap : Nat) (w : World) (h1 : ((n : Int) == 1) = false) (h3 : ((n : Int) != 3) = true) :
    Calls Tryz.prog 126 #[.slice ao n cap] w fun e w' => e = .returned (.tuple #[.agg #[.string ⟨#[]⟩, .string ⟨#[]⟩, .string ⟨#[]⟩, .string ⟨#[]⟩, .int .i64 0, .bool false], .bool false]) ∧ Below w.heap.size w w' := by
  go_enter Tryz.func126, Tryz.ntmps126
  go_wp2_with fail
  exact bodyPost_ret (v := .tuple #[.agg #[.string ⟨#[]⟩, .string ⟨#[]⟩, .string ⟨#[]⟩, .string ⟨#[]⟩, .int .i64 0, .bool false], .bool false]) (by simp [results, Tryz.results126, go_sem]) rfl ⟨rfl, by repeat (first | exact Below.refl _ _ | apply Below.drew | (refine Below.alloc ?_ (Nat.le_refl _) _))⟩

/-- a list of texts, laid open -/
theorem Strs.open1 {w : World} {v : Value} {a : ByteArray} (h : Strs w v [a]) : ∃ g off cap, v = .slice (some ⟨g, off, none⟩) 1 cap ∧ g < w.heap.size ∧ w.cell? ⟨g, off, none⟩ = some (.string a) := by
  obtain ⟨ao, cap, rfl, hn, hm, hc⟩ := h
  obtain ⟨g, off, rfl, hcell⟩ := hc (by simp)
  have h0 := hcell 0 (by simp)
  exact ⟨g, off, cap, rfl, World.block_lt_of_cell? w _ h0, h0⟩
theorem Strs.open3 {w : World} {v : Value} {a b c : ByteArray} (h : Strs w v [a, b, c]) : ∃ g off cap, v = .slice (some ⟨g, off, none⟩) 3 cap ∧ g < w.heap.size ∧ w.cell? ⟨g, off, none⟩ = some (.string a) ∧ w.cell? ⟨g, off + 1, none⟩ = some (.string b) ∧ w.cell? ⟨g, off + 2, none⟩ = some (.string c) := by
  obtain ⟨ao, cap, rfl, hn, hm, hc⟩ := h
  obtain ⟨g, off, rfl, hcell⟩ := hc (by simp)
  have h0 := hcell 0 (by simp)
  exact ⟨g, off, cap, rfl, World.block_lt_of_cell? w _ h0, h0, hcell 1 (by simp), hcell 2 (by simp)⟩

theorem rcond_any {w : World} {v : Value} {l : List ByteArray} (h : Strs w v l) :
    Calls Tryz.prog 126 #[v] w fun e w' => (∃ i : Ins, e = .returned (.tuple #[.agg i.cells.toArray, .bool (rcB l)]) ∧ (rcB l = true → i = rcI l)) ∧ Below w.heap.size w w' := by
  match l, h with
  | [a], h =>
    obtain ⟨g, off, cap, rfl, hg, c0⟩ := h.open1
    have hb : rcB [a] = (a.toList == [42]) := by simp only [rcB, eqW, starW_l]
    cases ha : (a.toList == [42]) with
    | true =>
      refine (cond_one a g off cap w hg c0 ha).mono ?_
      rintro e w' ⟨rfl, hbl⟩
      exact ⟨⟨⟨testW, em, em, starW, 0, false⟩, by rw [hb, ha]; rfl, fun _ => rfl⟩, hbl⟩
    | false =>
      refine (cond_oneF a g off cap w hg c0 ha).mono ?_
      rintro e w' ⟨rfl, hbl⟩
      exact ⟨⟨insZ, by rw [hb, ha]; rfl, fun h => by rw [hb, ha] at h; cases h⟩, hbl⟩
  | [a, b, c], h =>
    obtain ⟨g, off, cap, rfl, hg, c0, c1, c2⟩ := h.open3
    have hb : rcB [a, b, c] = (lowB a && (lowB c || c.toList == [110, 105, 108]) && (b.toList == [61] || b.toList == [33, 61])) := by simp only [rcB, eqW, nilW_l, eqSW_l, neSW_l]
    refine (cond_three a b c g off cap w hg c0 c1 c2 (rcB [a, b, c]) ?_).mono ?_
    · rw [hb]
      cases lowB a <;> cases lowB c <;> cases (c.toList == [110, 105, 108]) <;> cases (b.toList == [61]) <;> cases (b.toList == [33, 61]) <;> simp
    · rintro e w' ⟨rfl, hbl⟩
      exact ⟨⟨⟨testW, a, c, b, 0, false⟩, rfl, fun _ => rfl⟩, hbl⟩
  | [], h =>
    obtain ⟨ao, cap, rfl, _⟩ := h
    refine (cond_other ao 0 cap w rfl rfl).mono ?_
    rintro e w' ⟨rfl, hbl⟩
    exact ⟨⟨insZ, rfl, fun h => by cases h⟩, hbl⟩
  | [a, b], h =>
    obtain ⟨ao, cap, rfl, _⟩ := h
    refine (cond_other ao 2 cap w rfl rfl).mono ?_
    rintro e w' ⟨rfl, hbl⟩
    exact ⟨⟨insZ, rfl, fun h => by cases h⟩, hbl⟩
  | a :: b :: c :: d :: r, h =>
    obtain ⟨ao, cap, rfl, _⟩ := h
    refine (cond_other ao _ cap w (by simp; omega) (by simp; omega)).mono ?_
    rintro e w' ⟨rfl, hbl⟩
    exact ⟨⟨insZ, rfl, fun h => by cases h⟩, hbl⟩
end Go.Proofs.YtciihepbeacppaaGreat
