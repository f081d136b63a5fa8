import Derived.Test.YtciihepbeacppaaRI
import Derived.Test.YtciihepbeacppaaRJ
namespace Go.Proofs.Ytciihepbeacppaa
open Go.RowKit

def ifW : ByteArray := ⟨#[105, 102]⟩
def whW : ByteArray := ⟨#[119, 104, 105, 108, 101]⟩
def seW : ByteArray := ⟨#[59]⟩
theorem ifW_l : ifW.toList = [105, 102] := ByteArray.toList_eq _
theorem whW_l : whW.toList = [119, 104, 105, 108, 101] := ByteArray.toList_eq _
theorem seW_l : seW.toList = [59] := ByteArray.toList_eq _
def insCells (l : List Ins) : List Value := l.flatMap Ins.cells
theorem insCells_snoc (l : List Ins) (a : Ins) : insCells (l ++ [a]) = insCells l ++ a.cells := by simp [insCells]
theorem Ins.one (a : Ins) : ∀ u ∈ a.cells, u.oneCell' = true := by
  intro u hu; simp [Ins.cells] at hu; rcases hu with rfl | rfl | rfl | rfl | rfl | rfl <;> rfl
/-- a list of texts that lies below B -/
def StrB (B : Nat) (w : World) (v : Value) (l : List ByteArray) : Prop :=
  ∃ ao cap, v = .slice ao l.length cap ∧ l.length ≤ cap ∧ cap ≤ maxLen ∧ (l ≠ [] → ∃ g off, g < B ∧ ao = some ⟨g, off, none⟩ ∧ ∀ j, (h : j < l.length) → w.cell? ⟨g, off + j, none⟩ = some (.string l[j]))
theorem StrB.str {B : Nat} {w : World} {v : Value} {l : List ByteArray} (h : StrB B w v l) : Strs w v l := by
  obtain ⟨ao, cap, hv, hn, hm, hc⟩ := h
  exact ⟨ao, cap, hv, hn, hm, fun hne => by obtain ⟨g, off, _, h1, h2⟩ := hc hne; exact ⟨g, off, h1, h2⟩⟩
theorem StrB.of {w : World} {v : Value} {l : List ByteArray} (h : Strs w v l) : StrB w.heap.size w v l := by
  obtain ⟨ao, cap, hv, hn, hm, hc⟩ := h
  refine ⟨ao, cap, hv, hn, hm, fun hne => ?_⟩
  obtain ⟨g, off, h1, h2⟩ := hc hne
  have h0 : 0 < l.length := by cases l with | nil => exact absurd rfl hne | cons _ _ => simp
  exact ⟨g, off, World.block_lt_of_cell? w _ (h2 0 h0), h1, h2⟩
theorem StrB.below {B : Nat} {w w' : World} {v : Value} {l : List ByteArray} (h : StrB B w v l) (hb : Below B w w') : StrB B w' v l := by
  obtain ⟨ao, cap, hv, hn, hm, hc⟩ := h
  refine ⟨ao, cap, hv, hn, hm, fun hne => ?_⟩
  obtain ⟨g, off, hg, h1, h2⟩ := hc hne
  exact ⟨g, off, hg, h1, fun j hj => by rw [hb.cell (p := ⟨g, off + j, none⟩) hg]; exact h2 j hj⟩
theorem StrB.part {B : Nat} {w : World} {v : Value} {l : List ByteArray} (h : StrB B w v l) {ao : Option Addr} {n cap : Nat} (hv : v = .slice ao n cap) (i j : Nat) (hij : i ≤ j) (hj : j ≤ l.length) (a : Option Addr)
    (ha : ∀ g off, ao = some ⟨g, off, none⟩ → i < cap → a = some ⟨g, off + i, none⟩) : StrB B w (.slice a (j - i) (cap - i)) ((l.drop i).take (j - i)) := by
  obtain ⟨ao', cap', hv', hn, hm, hc⟩ := h
  rw [hv] at hv'
  simp only [Value.slice.injEq] at hv'
  obtain ⟨rfl, rfl, rfl⟩ := hv'
  have hlen : ((l.drop i).take (j - i)).length = j - i := by simp; omega
  refine ⟨a, cap - i, by rw [hlen], by rw [hlen]; omega, by omega, fun hne => ?_⟩
  have hij' : i < j := by
    rcases Nat.lt_or_ge i j with h | h
    · exact h
    · exact absurd (List.eq_nil_of_length_eq_zero (by rw [hlen]; omega)) hne
  obtain ⟨g, off, hg, hao, hcell⟩ := hc (by intro e; rw [e] at hj; simp at hj; omega)
  refine ⟨g, off + i, hg, ha g off hao (by omega), fun k hk => ?_⟩
  rw [hlen] at hk
  have := hcell (i + k) (by omega)
  rw [Nat.add_assoc, this]
  simp

/-! ### block and control, as they are meant -/
def setTo (k n : Nat) (c : List Ins) : List Ins := c.modify k (fun x => { x with to := n })
def opP : ByteArray := ⟨#[40]⟩
def elW : ByteArray := ⟨#[101, 108, 115, 101]⟩
def goW : ByteArray := ⟨#[103, 111, 116, 111]⟩
def gt (n : Nat) : Ins := ⟨goW, em, em, em, n, false⟩
/-- control's head: where the bracket is shut, the test, where the block ends -/
def rcH (l : List ByteArray) : Option (Nat × Nat) :=
  if l.length < 2 ∨ eqW (l[1]?.getD em) opP = false ∨ l.length ≤ fndL l clW + 1 ∨ eqW (l[fndL l clW + 1]?.getD em) lbW = false then none
  else if rcB ((l.drop 2).take (fndL l clW - 2)) = false ∨ shI l (fndL l clW + 1) < 0 then none else some (fndL l clW, (shI l (fndL l clW + 1)).toNat)
def rct (blk : List ByteArray → List Ins → Option (List Ins)) (l : List ByteArray) (c : List Ins) : Option (List Ins × Nat) :=
  match rcH l with
  | none => none
  | some (b, e) =>
    let hd := eqW (l[0]?.getD em) whW
    match blk ((l.drop (b + 2)).take (e - (b + 2))) (c ++ [{ rcI ((l.drop 2).take (b - 2)) with head := hd }]) with
    | none => none
    | some c2 =>
      if hd then some (setTo c.length (c2.length + 1) (c2 ++ [gt c.length]), e + 1)
      else if decide (e + 1 < l.length) && eqW (l[e + 1]?.getD em) elW then
        if l.length ≤ e + 2 ∨ eqW (l[e + 2]?.getD em) lbW = false then none
        else if shI l (e + 2) < 0 then none
        else
          match blk ((l.drop (e + 3)).take ((shI l (e + 2)).toNat - (e + 3))) (setTo c.length (c2.length + 1) (c2 ++ [gt 0])) with
          | none => none
          | some c7 => some (setTo c2.length c7.length c7, (shI l (e + 2)).toNat + 1)
      else some (setTo c.length c2.length c2, e + 1)
def rbs (ctl : List ByteArray → List Ins → Option (List Ins × Nat)) : Nat → List ByteArray → List Ins → Option (List Ins)
  | 0, _, _ => none
  | _ + 1, [], c => some c
  | m + 1, x :: r, c =>
    if eqW x ifW || eqW x whW then
      match ctl (x :: r) c with
      | some (c', n) => rbs ctl m ((x :: r).drop n) c'
      | none => none
    else if fndL (x :: r) seW = (x :: r).length then none
    else
      match rsI ((x :: r).take (fndL (x :: r) seW)) with
      | some i => rbs ctl m ((x :: r).drop (fndL (x :: r) seW + 1)) (c ++ [i])
      | none => none
def rbl : Nat → List ByteArray → List Ins → Option (List Ins)
  | 0, _, _ => none
  | f + 1, l, c => rbs (rct (rbl f)) (l.length + 1) l c

end Go.Proofs.Ytciihepbeacppaa
