import Derived.Test.YtciihepbeacppaaRD
namespace Go.Proofs.Ytciihepbeacppaa
open Go.RowKit

/-- an atom of the reference -/
structure RAt where
  k : ByteArray
  a : ByteArray
  b : ByteArray
def RAt.cells (i : RAt) : List Value := [.string i.k, .string i.a, .string i.b]
def empW : ByteArray := ⟨#[101, 109, 112]⟩
def lsW : ByteArray := ⟨#[108, 115]⟩
def toW : ByteArray := ⟨#[45, 62]⟩
def opW : ByteArray := ⟨#[40]⟩
def cmW : ByteArray := ⟨#[44]⟩
def clW : ByteArray := ⟨#[41]⟩
theorem empW_l : empW.toList = [101, 109, 112] := ByteArray.toList_eq _
theorem lsW_l : lsW.toList = [108, 115] := ByteArray.toList_eq _
theorem toW_l : toW.toList = [45, 62] := ByteArray.toList_eq _
theorem opW_l : opW.toList = [40] := ByteArray.toList_eq _
theorem cmW_l : cmW.toList = [44] := ByteArray.toList_eq _
theorem clW_l : clW.toList = [41] := ByteArray.toList_eq _
/-- atom: are the words one; is it emp; the atom -/
def raB (l : List ByteArray) : Bool := match l with
  | [a] => eqW a empW
  | [a, b, c] => nameB a && nameB c && (eqW b eqSW || eqW b neSW || eqW b toW)
  | [a, b, c, d, e, f] => eqW a lsW && eqW b opW && eqW d cmW && eqW f clW && (nameB c && nameB e)
  | _ => false
def raE (l : List ByteArray) : Bool := match l with | [_] => true | _ => false
def raA (l : List ByteArray) : RAt := match l with
  | [a, b, c] => ⟨b, a, c⟩
  | [_, _, c, _, e, _] => ⟨lsW, c, e⟩
  | _ => ⟨em, em, em⟩

set_option maxRecDepth 100000 in
set_option maxHeartbeats 2000000 in
theorem atom_one (a : ByteArray) (g off cap : Nat) (w : World) (hg : g < w.heap.size) (c0 : w.cell? ⟨g, off, none⟩ = some (.string a)) (h : (a.toList == [101, 109, 112]) = true) :
    Calls Try.prog 37 #[.slice (some ⟨g, off, none⟩) 1 cap] w fun e w' => e = .returned (.tuple #[.agg #[.string ⟨#[]⟩, .string ⟨#[]⟩, .string ⟨#[]⟩], .bool true, .bool true]) ∧ Below w.heap.size w w' := by
  go_enter Try.func37, Try.ntmps37
  go_wp2_with fail
  exact bodyPost_ret (v := .tuple #[.agg #[.string ⟨#[]⟩, .string ⟨#[]⟩, .string ⟨#[]⟩], .bool true, .bool true]) (by simp [results, Try.results37, go_sem]) rfl ⟨rfl, by repeat (first | exact Below.refl _ _ | apply Below.drew | (refine Below.alloc ?_ (Nat.le_refl _) _))⟩
set_option maxRecDepth 100000 in
set_option maxHeartbeats 2000000 in
theorem atom_oneF (a : ByteArray) (g off cap : Nat) (w : World) (hg : g < w.heap.size) (c0 : w.cell? ⟨g, off, none⟩ = some (.string a)) (h : (a.toList == [101, 109, 112]) = false) :
    Calls Try.prog 37 #[.slice (some ⟨g, off, none⟩) 1 cap] w fun e w' => e = .returned (.tuple #[.agg #[.string ⟨#[]⟩, .string ⟨#[]⟩, .string ⟨#[]⟩], .bool false, .bool false]) ∧ Below w.heap.size w w' := by
  go_enter Try.func37, Try.ntmps37
  go_wp2_with fail
  exact bodyPost_ret (v := .tuple #[.agg #[.string ⟨#[]⟩, .string ⟨#[]⟩, .string ⟨#[]⟩], .bool false, .bool false]) (by simp [results, Try.results37, go_sem]) rfl ⟨rfl, by repeat (first | exact Below.refl _ _ | apply Below.drew | (refine Below.alloc ?_ (Nat.le_refl _) _))⟩
set_option maxRecDepth 100000 in
set_option maxHeartbeats 2000000 in
theorem atom_other (ao : Option Addr) (n cap : Nat) (w : World) (h1 : ((n : Int) == 1) = false) (h3 : ((n : Int) == 3) = false) (h6 : ((n : Int) == 6) = false) :
    Calls Try.prog 37 #[.slice ao n cap] w fun e w' => e = .returned (.tuple #[.agg #[.string ⟨#[]⟩, .string ⟨#[]⟩, .string ⟨#[]⟩], .bool false, .bool false]) ∧ Below w.heap.size w w' := by
  go_enter Try.func37, Try.ntmps37
  go_wp2_with fail
  exact bodyPost_ret (v := .tuple #[.agg #[.string ⟨#[]⟩, .string ⟨#[]⟩, .string ⟨#[]⟩], .bool false, .bool false]) (by simp [results, Try.results37, go_sem]) rfl ⟨rfl, by repeat (first | exact Below.refl _ _ | apply Below.drew | (refine Below.alloc ?_ (Nat.le_refl _) _))⟩
set_option maxRecDepth 100000 in
set_option maxHeartbeats 4000000 in
theorem atom_three (a b c : ByteArray) (g off cap : Nat) (w : World) (hg : g < w.heap.size) (c0 : w.cell? ⟨g, off, none⟩ = some (.string a)) (c1 : w.cell? ⟨g, off + 1, none⟩ = some (.string b)) (c2 : w.cell? ⟨g, off + 2, none⟩ = some (.string c)) (x y z : Bool)
    (hx : nameB a = x) (hy : nameB c = y)
    (hz : (z = true ∧ (b.toList == [61]) = true) ∨ (z = true ∧ (b.toList == [61]) = false ∧ (b.toList == [33, 61]) = true) ∨ (z = true ∧ (b.toList == [61]) = false ∧ (b.toList == [33, 61]) = false ∧ (b.toList == [45, 62]) = true) ∨ (z = false ∧ (b.toList == [61]) = false ∧ (b.toList == [33, 61]) = false ∧ (b.toList == [45, 62]) = false)) :
    Calls Try.prog 37 #[.slice (some ⟨g, off, none⟩) 3 cap] w fun e w' => e = .returned (.tuple #[.agg #[.string b, .string a, .string c], .bool false, .bool (x && y && z)]) ∧ Below w.heap.size w w' := by
  rcases hz with ⟨rfl, h4⟩ | ⟨rfl, h4, h5⟩ | ⟨rfl, h4, h5, h6⟩ | ⟨rfl, h4, h5, h6⟩ <;> cases x <;> cases y
  all_goals
    go_enter Try.func37, Try.ntmps37
    go_wp2_with (go_at_call 48; refine (name_any _ _).mono ?_; rintro e w' ⟨rfl, rfl⟩)
    go_region
    go_wp2_with fail
    exact bodyPost_ret (v := .tuple #[.agg #[.string b, .string a, .string c], .bool false, .bool _]) (by simp [results, Try.results37, go_sem]) rfl ⟨rfl, by repeat (first | exact Below.refl _ _ | apply Below.drew | (refine Below.alloc ?_ (Nat.le_refl _) _))⟩
end Go.Proofs.Ytciihepbeacppaa
