import Derived.Test.YtciihepbeacppaaRD
namespace Go.Proofs.Ytciihepbeacppaa
open Go.RowKit

def skipW : ByteArray := ⟨#[115, 107, 105, 112]⟩
def freeW : ByteArray := ⟨#[102, 114, 101, 101]⟩
def newW : ByteArray := ⟨#[110, 101, 119]⟩
def copyW : ByteArray := ⟨#[99, 111, 112, 121]⟩
def loadW : ByteArray := ⟨#[108, 111, 97, 100]⟩
def storeW : ByteArray := ⟨#[115, 116, 111, 114, 101]⟩
def dotW : ByteArray := ⟨#[46]⟩
def nW : ByteArray := ⟨#[110]⟩
theorem skipW_l : skipW.toList = [115, 107, 105, 112] := ByteArray.toList_eq _
theorem freeW_l : freeW.toList = [102, 114, 101, 101] := ByteArray.toList_eq _
theorem newW_l : newW.toList = [110, 101, 119] := ByteArray.toList_eq _
theorem dotW_l : dotW.toList = [46] := ByteArray.toList_eq _
theorem nW_l : nW.toList = [110] := ByteArray.toList_eq _
/-- simple: are the words a command without a block; which -/
def rsI (l : List ByteArray) : Option Ins := match l with
  | [a] => if eqW a skipW then some ⟨skipW, em, em, em, 0, false⟩ else none
  | [a, b] => if eqW a freeW && lowB b then some ⟨freeW, b, em, em, 0, false⟩ else none
  | [a, b, c] => if lowB a && eqW b eqSW then (if eqW c nilW || eqW c newW then some ⟨c, a, em, em, 0, false⟩ else if lowB c then some ⟨copyW, a, c, em, 0, false⟩ else none) else none
  | [a, b, c, d, e] =>
    if lowB a && eqW b eqSW && lowB c && eqW d dotW && eqW e nW then some ⟨loadW, a, c, em, 0, false⟩ else
    if lowB a && eqW b dotW && eqW c nW && eqW d eqSW && (lowB e || eqW e nilW) then some ⟨storeW, a, e, em, 0, false⟩ else none
  | _ => none

theorem Try.infoBool : (Try.prog.info? 4).map (fun i => (i.zero, i.size, i.bytes)) = some (some (.bool false), 1, 1) := by kernel_rfl

/-- the bools of the first k words -/
def bls (l : List ByteArray) (k : Nat) : List Value := (List.range l.length).map (fun j => .bool (if j < k then lowB (l[j]?.getD em) else false))
theorem bls_len (l : List ByteArray) (k : Nat) : (bls l k).length = l.length := by simp [bls]
theorem bls_get (l : List ByteArray) (k j : Nat) (hj : j < l.length) : (bls l k)[j]? = some (.bool (if j < k then lowB (l[j]?.getD em) else false)) := by simp [bls, hj]
theorem bls_step (l : List ByteArray) (k : Nat) (hk : k < l.length) : (bls l k).set k (.bool (lowB l[k])) = bls l (k + 1) := by
  apply List.ext_getElem?
  intro j
  by_cases hj : j < l.length
  · rw [bls_get _ _ _ hj]
    by_cases hjk : j = k
    · subst hjk
      rw [List.getElem?_set_self (by rw [bls_len]; exact hj)]
      simp [hj]
    · rw [List.getElem?_set_ne (by omega), bls_get _ _ _ hj]
      congr 2
      by_cases h : j < k
      · rw [if_pos h, if_pos (by omega)]
      · rw [if_neg h, if_neg (by omega)]
  · rw [List.getElem?_eq_none (by rw [List.length_set, bls_len]; omega), List.getElem?_eq_none (by rw [bls_len]; omega)]

theorem bls_zero (l : List ByteArray) : (madeCells #[Value.bool false] l.length).toList = bls l 0 := by
  rw [toList_madeCells_one]
  simp [bls, List.map_const']
theorem rsI_1 (a : ByteArray) : rsI [a] = if a.toList == [115, 107, 105, 112] then some ⟨skipW, em, em, em, 0, false⟩ else none := by simp only [rsI, eqW, skipW_l]
theorem rsI_2 (a b : ByteArray) : rsI [a, b] = if a.toList == [102, 114, 101, 101] && lowB b then some ⟨freeW, b, em, em, 0, false⟩ else none := by simp only [rsI, eqW, freeW_l]
theorem rsI_3 (a b c : ByteArray) : rsI [a, b, c] = if lowB a && b.toList == [61] then (if c.toList == [110, 105, 108] || c.toList == [110, 101, 119] then some ⟨c, a, em, em, 0, false⟩ else if lowB c then some ⟨copyW, a, c, em, 0, false⟩ else none) else none := by simp only [rsI, eqW, eqSW_l, nilW_l, newW_l]
theorem rsI_5 (a b c d e : ByteArray) : rsI [a, b, c, d, e] =
    if lowB a && b.toList == [61] && lowB c && d.toList == [46] && e.toList == [110] then some ⟨loadW, a, c, em, 0, false⟩ else
    if lowB a && b.toList == [46] && c.toList == [110] && d.toList == [61] && (lowB e || e.toList == [110, 105, 108]) then some ⟨storeW, a, e, em, 0, false⟩ else none := by simp only [rsI, eqW, eqSW_l, dotW_l, nW_l, nilW_l]
theorem len1 {l : List ByteArray} (h : 1 = l.length) : ∃ a, l = [a] := by
  match l, h with
  | [a], _ => exact ⟨a, rfl⟩
theorem len2 {l : List ByteArray} (h : 2 = l.length) : ∃ a b, l = [a, b] := by
  match l, h with
  | [a, b], _ => exact ⟨a, b, rfl⟩
theorem len3 {l : List ByteArray} (h : 3 = l.length) : ∃ a b c, l = [a, b, c] := by
  match l, h with
  | [a, b, c], _ => exact ⟨a, b, c, rfl⟩
theorem len5 {l : List ByteArray} (h : 5 = l.length) : ∃ a b c d e, l = [a, b, c, d, e] := by
  match l, h with
  | [a, b, c, d, e], _ => exact ⟨a, b, c, d, e, rfl⟩
theorem below6 {W w : World} (h : Below W.heap.size W w) {a b c d e f : Value} : Below W.heap.size W ((((((w.setCell ⟨W.heap.size, 0, none⟩ a).setCell ⟨W.heap.size, 1, none⟩ b).setCell ⟨W.heap.size, 2, none⟩ c).setCell ⟨W.heap.size, 3, none⟩ d).setCell ⟨W.heap.size, 4, none⟩ e).setCell ⟨W.heap.size, 5, none⟩ f) :=
  (((((h.setCell (Nat.le_refl _) a).setCell (Nat.le_refl _) b).setCell (Nat.le_refl _) c).setCell (Nat.le_refl _) d).setCell (Nat.le_refl _) e).setCell (Nat.le_refl _) f
theorem rset {w : World} {P : Nat} {xs : Array Value} {t : TypeId} {j : Nat} (h : w.heap[P]? = some (.cells xs t (0, 0))) (u : Value) :
    (w.setCell ⟨P, j, none⟩ u).heap[P]? = some (.cells (xs.setIfInBounds j u) t (0, 0)) := by
  simp [World.setCell, Array.getElem?_modify, h]
theorem rown_set {w : World} {B : Nat} {e : TypeId} {sz n g cap j : Nat} {xs : List Value} (h : w.ownsRow B e sz (.slice (some ⟨g, 0, none⟩) n cap) n xs) (u : Value) :
    (w.setCell ⟨g, j, none⟩ u).ownsRow B e sz (.slice (some ⟨g, 0, none⟩) n cap) n (xs.set j u) := by
  refine ⟨by simpa using h.1, ?_⟩
  rcases h.2 with ⟨h0, _⟩ | ⟨g', cap', cur, hv, hB, hg, hn, hm, hs, ht⟩
  · cases h0
  · simp only [Value.slice.injEq, Option.some.injEq, Addr.mk.injEq] at hv
    obtain ⟨⟨rfl, _⟩, _, rfl⟩ := hv
    refine .inr ⟨g, cap, cur.setIfInBounds j u, rfl, hB, rset hg u, hn, hm, by simpa using hs, ?_⟩
    rw [Array.toList_setIfInBounds, List.take_set, ht]
theorem rown_cell {w : World} {B : Nat} {e : TypeId} {n g cap j : Nat} {xs : List Value} {u : Value} (h : w.ownsRow B e 1 (.slice (some ⟨g, 0, none⟩) n cap) n xs) (hj : xs[j]? = some u) : w.cell? ⟨g, j, none⟩ = some u ∧ w.frozen? ⟨g, j, none⟩ = false := by
  constructor
  · have := h.cells (g := g) rfl j u hj
    rw [show (⟨g, 0, none⟩ : Addr).add j = ⟨g, j, none⟩ by unfold Addr.add; split <;> simp_all] at this
    exact this
  · rcases h.2 with ⟨h0, _⟩ | ⟨g', cap', cur, hv, hB, hg, hn, hm, hs, ht⟩
    · cases h0
    · simp only [Value.slice.injEq, Option.some.injEq, Addr.mk.injEq] at hv
      obtain ⟨⟨rfl, _⟩, _, rfl⟩ := hv
      simp [World.frozen?, hg]

end Go.Proofs.Ytciihepbeacppaa
