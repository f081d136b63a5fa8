import Derived.Test.YtciihepbeacppaaRB
namespace Go.Proofs.Ytciihepbeacppaa
open Go.RowKit

/-- an instruction of the reference -/
structure Ins where
  op : ByteArray
  x : ByteArray
  y : ByteArray
  cond : ByteArray
  to : Nat
  head : Bool
def Ins.cells (i : Ins) : List Value := [.string i.op, .string i.x, .string i.y, .string i.cond, .int .i64 i.to, .bool i.head]
def em : ByteArray := ⟨#[]⟩
def insZ : Ins := ⟨em, em, em, em, 0, false⟩
def testW : ByteArray := ⟨#[116, 101, 115, 116]⟩
def starW : ByteArray := ⟨#[42]⟩
def eqSW : ByteArray := ⟨#[61]⟩
def neSW : ByteArray := ⟨#[33, 61]⟩
/-- condition -/
def rcB (l : List ByteArray) : Bool := match l with
  | [a] => eqW a starW
  | [a, b, c] => lowB a && (lowB c || eqW c nilW) && (eqW b eqSW || eqW b neSW)
  | _ => false
def rcI (l : List ByteArray) : Ins := match l with
  | [a, b, c] => ⟨testW, a, c, b, 0, false⟩
  | _ => ⟨testW, em, em, starW, 0, false⟩

theorem nilW_l : nilW.toList = [110, 105, 108] := ByteArray.toList_eq _
theorem starW_l : starW.toList = [42] := ByteArray.toList_eq _
theorem eqSW_l : eqSW.toList = [61] := ByteArray.toList_eq _
theorem neSW_l : neSW.toList = [33, 61] := ByteArray.toList_eq _

theorem cells6s {w : World} {r : Nat} {a b c d e f : Value} {T : TypeId} (h : w.heap[r]? = some (.cells #[a, b, c, d, e, f] T (0, 0))) :
    w.cell? ⟨r, 0, none⟩ = some a ∧ w.cell? ⟨r, 1, none⟩ = some b ∧ w.cell? ⟨r, 2, none⟩ = some c ∧ w.cell? ⟨r, 3, none⟩ = some d ∧ w.cell? ⟨r, 4, none⟩ = some e ∧ w.cell? ⟨r, 5, none⟩ = some f := by
  refine ⟨?_, ?_, ?_, ?_, ?_, ?_⟩ <;> simp [World.cell?, h]

/-- a list of texts, laid open -/
theorem Strs.open1 {w : World} {v : Value} {a : ByteArray} (h : Strs w v [a]) : ∃ g off cap, v = .slice (some ⟨g, off, none⟩) 1 cap ∧ g < w.heap.size ∧ w.cell? ⟨g, off, none⟩ = some (.string a) := by
  obtain ⟨ao, cap, rfl, hn, hm, hc⟩ := h
  obtain ⟨g, off, rfl, hcell⟩ := hc (by simp)
  have h0 := hcell 0 (by simp)
  exact ⟨g, off, cap, rfl, World.block_lt_of_cell? w _ h0, h0⟩
theorem Strs.open3 {w : World} {v : Value} {a b c : ByteArray} (h : Strs w v [a, b, c]) : ∃ g off cap, v = .slice (some ⟨g, off, none⟩) 3 cap ∧ g < w.heap.size ∧ w.cell? ⟨g, off, none⟩ = some (.string a) ∧ w.cell? ⟨g, off + 1, none⟩ = some (.string b) ∧ w.cell? ⟨g, off + 2, none⟩ = some (.string c) := by
  obtain ⟨ao, cap, rfl, hn, hm, hc⟩ := h
  obtain ⟨g, off, rfl, hcell⟩ := hc (by simp)
  have h0 := hcell 0 (by simp)
  exact ⟨g, off, cap, rfl, World.block_lt_of_cell? w _ h0, h0, hcell 1 (by simp), hcell 2 (by simp)⟩

end Go.Proofs.Ytciihepbeacppaa
