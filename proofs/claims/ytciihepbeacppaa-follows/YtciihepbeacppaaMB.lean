import Derived.Test.YtciihepbeacppaaMA
import Derived.Test.YtciihepbeacppaaRK
import Derived.Test.YtciihepbeacppaaWO
import Derived.Test.YtciihepbeacppaaRB
import Derived.Deep.LoopGhost
namespace Go.Proofs.Ytciihepbeacppaa
open Go.RowKit

section
variable {B : Nat} {w : World} {X : Nat} {ws : List ByteArray} {s : PS} {al : List Atm}
end
end Go.Proofs.Ytciihepbeacppaa

namespace Go.Proofs.Ytciihepbeacppaa
open Go.RowKit

/-- the rest of a list of texts -/
theorem StrB.rest {B : Nat} {w : World} {l : List ByteArray} {g off n cap : Nat} (h : StrB B w (.slice (some ⟨g, off, none⟩) n cap) l) (i : Nat) (hi : i ≤ l.length) (a : Option Addr) (ha : i < cap → a = some ⟨g, off + i, none⟩) (k c : Nat) (hk : k = l.length - i) (hc : c = cap - i) : StrB B w (.slice a k c) (l.drop i) := by
  have := h.part rfl i l.length hi (Nat.le_refl _) a (fun g' off' e hlt => by simp only [Option.some.injEq, Addr.mk.injEq] at e; obtain ⟨rfl, rfl, _⟩ := e; exact ha hlt)
  rw [List.take_of_length_le (by simp)] at this
  rw [hk, hc]
  exact this
theorem StrB.head {B : Nat} {w : World} {l : List ByteArray} {g off n cap : Nat} (h : StrB B w (.slice (some ⟨g, off, none⟩) n cap) l) (i : Nat) (hi : i ≤ l.length) : StrB B w (.slice (some ⟨g, off, none⟩) i cap) (l.take i) := by
  have := h.part rfl 0 i (Nat.zero_le _) hi (some ⟨g, off, none⟩) (fun g' off' e _ => by rw [Nat.add_zero]; exact e)
  simpa using this
theorem StrB.open {B : Nat} {w : World} {v : Value} {x : ByteArray} {r : List ByteArray} (h : StrB B w v (x :: r)) : ∃ g off n cap, g < B ∧ v = .slice (some ⟨g, off, none⟩) n cap ∧ n = (x :: r).length ∧ n ≤ cap ∧ cap ≤ maxLen ∧ w.cell? ⟨g, off, none⟩ = some (.string x) ∧ ∀ j, (h : j < (x :: r).length) → w.cell? ⟨g, off + j, none⟩ = some (.string (x :: r)[j]) := by
  obtain ⟨ao, cap, hv, hn, hm, hc⟩ := h
  obtain ⟨g, off, hg, rfl, hcell⟩ := hc (by simp)
  exact ⟨g, off, _, cap, hg, hv, rfl, hn, hm, hcell 0 (by simp), hcell⟩

theorem own6 {w : World} {B : Nat} {e : TypeId} {sz n r : Nat} {v : Value} {xs : List Value} (h : w.ownsRow B e sz v n xs) (hr : ∀ k, v.ownBlock = some k → k ≠ r) (a b c d x y : Value) :
    ((((((w.setCell ⟨r, 0, none⟩ a).setCell ⟨r, 1, none⟩ b).setCell ⟨r, 2, none⟩ c).setCell ⟨r, 3, none⟩ d).setCell ⟨r, 4, none⟩ x).setCell ⟨r, 5, none⟩ y).ownsRow B e sz v n xs :=
  ownsRow_of_eq h (fun k hk => by
    have := hr k hk
    rw [Below.heap_setCell _ _ _ _ this, Below.heap_setCell _ _ _ _ this, Below.heap_setCell _ _ _ _ this, Below.heap_setCell _ _ _ _ this, Below.heap_setCell _ _ _ _ this, Below.heap_setCell _ _ _ _ this])
theorem Stp.onBelow {F F' : List Nat} {a w w' : World} (h : Stp F a F' w) (hb : Below w.heap.size w w') : Stp F a F' w' :=
  ⟨hb.os.trans h.os, hb.tape.trans h.tape, hb.output.trans h.output, Nat.le_trans h.size hb.size, fun k hk hF => (hb.block k (Nat.lt_of_lt_of_le hk h.size)).trans (h.block k hk hF), h.foot⟩
theorem Stp.refoot {F F' F'' : List Nat} {a w : World} (h : Stp F a F' w) (hf : ∀ k, k ∈ F'' → k ∈ F ∨ a.heap.size ≤ k) : Stp F a F'' w := ⟨h.os, h.tape, h.output, h.size, h.block, hf⟩
theorem bk_step {B : Nat} {w wr w2 w3 : World} {F : List Nat} {v : Value} {n : Nat} {xs : List Value} {e : TypeId} {sz : Nat} {o o' : Obj} {g2 : Nat} {a b c d x y : Value} (stp : Stp F w v.ownBlock.toList wr) (own : wr.ownsRow B e sz v n xs) (hB : B ≤ wr.heap.size) (hb2 : Below (wr.alloc o).heap.size (wr.alloc o) w2)
    (hg : (((((((w2.setCell ⟨wr.heap.size, 0, none⟩ a).setCell ⟨wr.heap.size, 1, none⟩ b).setCell ⟨wr.heap.size, 2, none⟩ c).setCell ⟨wr.heap.size, 3, none⟩ d).setCell ⟨wr.heap.size, 4, none⟩ x).setCell ⟨wr.heap.size, 5, none⟩ y).alloc o').grownBy w3 v.ownBlock) (hblk : some g2 = v.ownBlock ∨ g2 = w2.heap.size + 1) :
    Stp F w [g2] w3 ∧ Below B wr w3 := by
  have hz := hb2.size
  have hz0 := stp.size
  simp only [World.size_alloc] at hz
  have hnew : w.heap.size ≤ wr.heap.size := hz0
  have s1 := ((((((((stp.alloc o).onBelow hb2).setCell (p := ⟨wr.heap.size, 0, none⟩) (Or.inr hnew) a).setCell (p := ⟨wr.heap.size, 1, none⟩) (Or.inr hnew) b).setCell (p := ⟨wr.heap.size, 2, none⟩) (Or.inr hnew) c).setCell (p := ⟨wr.heap.size, 3, none⟩) (Or.inr hnew) d).setCell (p := ⟨wr.heap.size, 4, none⟩) (Or.inr hnew) x).setCell (p := ⟨wr.heap.size, 5, none⟩) (Or.inr hnew) y).alloc o'
  have hrow : ∀ k, v.ownBlock = some k → k ∈ F ∨ w.heap.size ≤ k := fun k hk => stp.foot k (by rw [hk]; simp)
  refine ⟨(s1.grown hg hrow).refoot (fun k hk => ?_), ?_⟩
  · simp only [List.mem_singleton] at hk
    subst hk
    rcases hblk with h | h
    · exact hrow k h.symm
    · right; omega
  · have b1 : Below B wr w2 := ((Below.refl B wr).alloc hB o).trans (hb2.mono (by simp only [World.size_alloc]; omega))
    have b2 := ((((((b1.setCell (p := ⟨wr.heap.size, 0, none⟩) hB a).setCell (p := ⟨wr.heap.size, 1, none⟩) hB b).setCell (p := ⟨wr.heap.size, 2, none⟩) hB c).setCell (p := ⟨wr.heap.size, 3, none⟩) hB d).setCell (p := ⟨wr.heap.size, 4, none⟩) hB x).setCell (p := ⟨wr.heap.size, 5, none⟩) hB y).alloc (by simp; omega) o'
    exact b2.grown hg (by simp; omega) (fun k hk => (own.lt k hk).1)

end Go.Proofs.Ytciihepbeacppaa

namespace Go.Proofs.Ytciihepbeacppaa
open Go.RowKit

theorem clo_pos {d : Nat} {l : List ByteArray} {j : Nat} (h : clo d l = some j) : j < l.length := by
  induction l generalizing d j with
  | nil => simp [clo] at h
  | cons x r ih =>
    simp only [clo] at h
    split at h
    · obtain ⟨k, hk, rfl⟩ := Option.map_eq_some_iff.1 h
      have := ih hk; simp; omega
    · split at h
      · split at h
        · simp at h; subst h; simp
        · obtain ⟨k, hk, rfl⟩ := Option.map_eq_some_iff.1 h
          have := ih hk; simp; omega
      · obtain ⟨k, hk, rfl⟩ := Option.map_eq_some_iff.1 h
        have := ih hk; simp; omega
theorem shI_bd {l : List ByteArray} {i : Nat} (h : ¬ shI l i < 0) : ∃ e : Nat, shI l i = (e : Int) ∧ i + 1 ≤ e ∧ e < l.length := by
  unfold shI at *
  cases hc : clo 1 (l.drop (i + 1)) with
  | none => rw [hc] at h; simp at h
  | some j =>
    have := clo_pos hc
    simp only [List.length_drop] at this
    exact ⟨i + 1 + j, rfl, by omega, by omega⟩

/-- the reference's control: a head that is none -/
theorem rcH_none {l : List ByteArray} (h : l.length < 2 ∨ eqW (l[1]?.getD em) opP = false ∨ l.length ≤ fndL l clW + 1 ∨ eqW (l[fndL l clW + 1]?.getD em) lbW = false) : rcH l = none := by
  unfold rcH; rw [if_pos h]
theorem rcH_none2 {l : List ByteArray} (h : rcB ((l.drop 2).take (fndL l clW - 2)) = false ∨ shI l (fndL l clW + 1) < 0) : rcH l = none := by
  unfold rcH; split
  · rfl
  · rfl
theorem rcH_some {l : List ByteArray} (h1 : ¬ (l.length < 2 ∨ eqW (l[1]?.getD em) opP = false ∨ l.length ≤ fndL l clW + 1 ∨ eqW (l[fndL l clW + 1]?.getD em) lbW = false)) (h2 : ¬ (rcB ((l.drop 2).take (fndL l clW - 2)) = false ∨ shI l (fndL l clW + 1) < 0)) : rcH l = some (fndL l clW, (shI l (fndL l clW + 1)).toNat) := by
  unfold rcH; rw [if_neg h1, if_neg h2]
theorem fndL_two {x y : ByteArray} {r : List ByteArray} (hx : eqW x clW = false) (hy : eqW y clW = false) : 2 ≤ fndL (x :: y :: r) clW := by
  simp only [fndL, hx, hy]; simp
theorem opP_l : opP.toList = [40] := ByteArray.toList_eq _
theorem clW_ne {x : ByteArray} {a : List UInt8} (h : x.toList = a) (ha : (a == [41]) = false) : eqW x clW = false := by unfold eqW; rw [clW_l, h]; exact ha

end Go.Proofs.Ytciihepbeacppaa

namespace Go.Proofs.Ytciihepbeacppaa
open Go.RowKit

theorem own_form {w : World} {B : Nat} {e : TypeId} {sz n : Nat} {v : Value} {xs : List Value} (h : w.ownsRow B e sz v n xs) (hn : 0 < n) : ∃ g cap, v = .slice (some ⟨g, 0, none⟩) n cap := by
  rcases h.2 with ⟨_, h0⟩ | ⟨g, cap, cur, hv, _⟩
  · omega
  · exact ⟨g, cap, hv⟩
theorem ins_len (l : List Ins) : (insCells l).length = l.length * 6 := by
  induction l with
  | nil => rfl
  | cons a r ih => simp only [insCells, List.flatMap_cons, List.length_append, List.length_cons] at *; rw [ih]; simp [Ins.cells]; omega
theorem setTo_len (k n : Nat) (l : List Ins) : (setTo k n l).length = l.length := by simp [setTo]
theorem ins_setTo (k n : Nat) (l : List Ins) : insCells (setTo k n l) = (insCells l).set (k * 6 + 4) (.int .i64 n) := by
  induction l generalizing k with
  | nil => simp [insCells, setTo]
  | cons a r ih =>
    cases k with
    | zero => simp [insCells, setTo, Ins.cells]
    | succ k =>
      have := ih k
      simp only [insCells, setTo, List.modify_succ_cons, List.flatMap_cons] at *
      rw [this, show (k + 1) * 6 + 4 = (k * 6 + 4) + a.cells.length by simp [Ins.cells]; omega, List.set_append_right _ _ (by omega)]
      simp
theorem ins_to (k : Nat) (l : List Ins) (hk : k < l.length) : ∃ m : Nat, (insCells l)[k * 6 + 4]? = some (.int .i64 m) := by
  induction l generalizing k with
  | nil => simp at hk
  | cons a r ih =>
    cases k with
    | zero => exact ⟨a.to, by simp [insCells, Ins.cells]⟩
    | succ k =>
      obtain ⟨m, hm⟩ := ih k (by simpa using hk)
      refine ⟨m, ?_⟩
      simp only [insCells, List.flatMap_cons] at *
      rw [show (k + 1) * 6 + 4 = (k * 6 + 4) + a.cells.length by simp [Ins.cells]; omega, List.getElem?_append_right (by omega), Nat.add_sub_cancel]
      exact hm
theorem own_to {w : World} {B : Nat} {e : TypeId} {n g cap k : Nat} {l : List Ins} (h : w.ownsRow B e 6 (.slice (some ⟨g, 0, none⟩) n cap) n (insCells l)) (hk : k < l.length) : (∃ m : Nat, w.cell? ⟨g, k * 6 + 4, none⟩ = some (.int .i64 m)) ∧ w.frozen? ⟨g, k * 6 + 4, none⟩ = false := by
  constructor
  · obtain ⟨m, hm⟩ := ins_to k l hk
    have := h.cells (g := g) rfl (k * 6 + 4) _ hm
    rw [show (⟨g, 0, none⟩ : Addr).add (k * 6 + 4) = ⟨g, k * 6 + 4, none⟩ by unfold Addr.add; split <;> simp_all] at this
    exact ⟨m, this⟩
  · rcases h.2 with ⟨h0, _⟩ | ⟨g', cap', cur, hv, hB, hg, hn, hm, hs, ht⟩
    · cases h0
    · simp only [Value.slice.injEq, Option.some.injEq, Addr.mk.injEq] at hv
      obtain ⟨⟨rfl, _⟩, _, rfl⟩ := hv
      simp [World.frozen?, hg]
theorem own_setTo {w : World} {B : Nat} {e : TypeId} {n g cap : Nat} {l : List Ins} (h : w.ownsRow B e 6 (.slice (some ⟨g, 0, none⟩) n cap) n (insCells l)) (hl : l.length = n) (k m : Nat) :
    (w.setCell ⟨g, k * 6 + 4, none⟩ (.int .i64 (m : Int))).ownsRow B e 6 (.slice (some ⟨g, 0, none⟩) n cap) (setTo k m l).length (insCells (setTo k m l)) := by
  rw [setTo_len, hl, ins_setTo]; exact rown_set h _
/-- an append behind two new blocks -/
theorem ct_step {B : Nat} {w w1 w2 : World} {F : List Nat} {v : Value} {n : Nat} {xs : List Value} {e : TypeId} {sz : Nat} {o o' : Obj} {g2 : Nat} (stp : Stp F w v.ownBlock.toList w1) (own : w1.ownsRow B e sz v n xs) (hB : B ≤ w1.heap.size) (hg : ((w1.alloc o).alloc o').grownBy w2 v.ownBlock) (hblk : some g2 = v.ownBlock ∨ g2 = w1.heap.size + 1 + 1) :
    Stp F w [g2] w2 ∧ Below B w1 w2 ∧ w2.heap[w1.heap.size]? = some o ∧ g2 ≠ w1.heap.size ∧ w1.heap.size < w2.heap.size := by
  have hrow : ∀ k, v.ownBlock = some k → k ∈ F ∨ w.heap.size ≤ k := fun k hk => stp.foot k (by rw [hk]; simp)
  have hsz := hg.size
  have hs0 := stp.size
  simp only [World.size_alloc] at hsz
  refine ⟨(((stp.alloc o).alloc o').grown hg hrow).refoot (fun k hk => ?_), ?_, ?_, ?_, by omega⟩
  · simp only [List.mem_singleton] at hk
    subst hk
    rcases hblk with h | h
    · exact hrow k h.symm
    · right; omega
  · exact (((Below.refl B w1).alloc hB o).alloc (by simp; omega) o').grown hg (by simp; omega) (fun k hk => (own.lt k hk).1)
  · rw [hg.block _ (by simp; omega) (fun h => by have := (own.lt _ h.symm).2; omega), Below.heap_alloc _ _ _ (by simp)]
    exact heap_alloc_new w1 o
  · rintro rfl
    rcases hblk with h | h
    · have := (own.lt _ h.symm).2; omega
    · omega
/-- an append behind one new block -/
theorem ct_step1 {B : Nat} {w w1 w2 : World} {F : List Nat} {v : Value} {n : Nat} {xs : List Value} {e : TypeId} {sz : Nat} {o : Obj} {g2 : Nat} (stp : Stp F w v.ownBlock.toList w1) (own : w1.ownsRow B e sz v n xs) (hB : B ≤ w1.heap.size) (hg : (w1.alloc o).grownBy w2 v.ownBlock) (hblk : some g2 = v.ownBlock ∨ g2 = w1.heap.size + 1) :
    Stp F w [g2] w2 ∧ Below B w1 w2 ∧ ∀ k, k < w1.heap.size → v.ownBlock ≠ some k → w2.heap[k]? = w1.heap[k]? := by
  have hrow : ∀ k, v.ownBlock = some k → k ∈ F ∨ w.heap.size ≤ k := fun k hk => stp.foot k (by rw [hk]; simp)
  have hsz := hg.size
  have hs0 := stp.size
  simp only [World.size_alloc] at hsz
  refine ⟨((stp.alloc o).grown hg hrow).refoot (fun k hk => ?_), ?_, ?_⟩
  · simp only [List.mem_singleton] at hk
    subst hk
    rcases hblk with h | h
    · exact hrow k h.symm
    · right; omega
  · exact ((Below.refl B w1).alloc hB o).grown hg (by simp; omega) (fun k hk => (own.lt k hk).1)
  · intro k hk hne
    rw [hg.block k (by simp; omega) (fun h => hne h.symm), Below.heap_alloc _ _ _ hk]

section
variable {blk : List ByteArray → List Ins → Option (List Ins)} {l : List ByteArray} {c c2 c7 : List Ins} {b e f : Nat} {i1 : Ins} {hd : Bool}
theorem rct_none (h : rcH l = some (b, e)) (h0 : eqW (l[0]?.getD em) whW = hd) (hi : { rcI ((l.drop 2).take (b - 2)) with head := hd } = i1) (hb : blk ((l.drop (b + 2)).take (e - (b + 2))) (c ++ [i1]) = none) : rct blk l c = none := by
  unfold rct; rw [h]; dsimp only; rw [h0, hi, hb]
theorem rct_while (h : rcH l = some (b, e)) (h0 : eqW (l[0]?.getD em) whW = true) (hi : { rcI ((l.drop 2).take (b - 2)) with head := true } = i1) (hb : blk ((l.drop (b + 2)).take (e - (b + 2))) (c ++ [i1]) = some c2) : rct blk l c = some (setTo c.length (c2.length + 1) (c2 ++ [gt c.length]), e + 1) := by
  unfold rct; rw [h]; dsimp only; rw [h0, hi, hb]; rfl
theorem rct_if (h : rcH l = some (b, e)) (h0 : eqW (l[0]?.getD em) whW = false) (hi : { rcI ((l.drop 2).take (b - 2)) with head := false } = i1) (hb : blk ((l.drop (b + 2)).take (e - (b + 2))) (c ++ [i1]) = some c2) (he : (decide (e + 1 < l.length) && eqW (l[e + 1]?.getD em) elW) = false) : rct blk l c = some (setTo c.length c2.length c2, e + 1) := by
  unfold rct; rw [h]; dsimp only; rw [h0, hi, hb]; dsimp only; rw [he]; rfl
theorem rct_el1 (h : rcH l = some (b, e)) (h0 : eqW (l[0]?.getD em) whW = false) (hi : { rcI ((l.drop 2).take (b - 2)) with head := false } = i1) (hb : blk ((l.drop (b + 2)).take (e - (b + 2))) (c ++ [i1]) = some c2) (he : (decide (e + 1 < l.length) && eqW (l[e + 1]?.getD em) elW) = true) (h1 : l.length ≤ e + 2 ∨ eqW (l[e + 2]?.getD em) lbW = false) : rct blk l c = none := by
  unfold rct; rw [h]; dsimp only; rw [h0, hi, hb]; dsimp only; rw [he, if_pos h1]; rfl
theorem rct_el2 (h : rcH l = some (b, e)) (h0 : eqW (l[0]?.getD em) whW = false) (hi : { rcI ((l.drop 2).take (b - 2)) with head := false } = i1) (hb : blk ((l.drop (b + 2)).take (e - (b + 2))) (c ++ [i1]) = some c2) (he : (decide (e + 1 < l.length) && eqW (l[e + 1]?.getD em) elW) = true) (h1 : ¬ (l.length ≤ e + 2 ∨ eqW (l[e + 2]?.getD em) lbW = false)) (h2 : shI l (e + 2) < 0) : rct blk l c = none := by
  unfold rct; rw [h]; dsimp only; rw [h0, hi, hb]; dsimp only; rw [he, if_neg h1, if_pos h2]; rfl
theorem rct_el3 (h : rcH l = some (b, e)) (h0 : eqW (l[0]?.getD em) whW = false) (hi : { rcI ((l.drop 2).take (b - 2)) with head := false } = i1) (hb : blk ((l.drop (b + 2)).take (e - (b + 2))) (c ++ [i1]) = some c2) (he : (decide (e + 1 < l.length) && eqW (l[e + 1]?.getD em) elW) = true) (h1 : ¬ (l.length ≤ e + 2 ∨ eqW (l[e + 2]?.getD em) lbW = false)) (h2 : shI l (e + 2) = (f : Int)) :
    rct blk l c = (blk ((l.drop (e + 3)).take (f - (e + 3))) (setTo c.length (c2.length + 1) (c2 ++ [gt 0]))).map (fun c7 => (setTo c2.length c7.length c7, f + 1)) := by
  unfold rct; rw [h]; dsimp only; rw [h0, hi, hb]; simp only [he, Bool.false_eq_true, if_false, if_true]
  rw [if_neg h1, if_neg (show ¬ shI l (e + 2) < 0 by rw [h2]; omega), h2]
  simp only [Int.toNat_natCast]
  cases blk ((l.drop (e + 3)).take (f - (e + 3))) (setTo c.length (c2.length + 1) (c2 ++ [gt 0])) <;> rfl
end

end Go.Proofs.Ytciihepbeacppaa

namespace Go.Proofs.Ytciihepbeacppaa
open Go.RowKit

theorem em_l : em.toList = [] := ByteArray.toList_eq _
theorem lbW_l2 : lbW.toList = [123] := ByteArray.toList_eq _
end Go.Proofs.Ytciihepbeacppaa

namespace Go.Proofs.Ytciihepbeacppaa
open Go.RowKit

theorem oneCell_str (x : ByteArray) : ∀ u ∈ [Value.string x], u.oneCell' = true := by intro u hu; simp at hu; subst hu; rfl
theorem ext_zero (u : ByteArray) (h : 0 < u.size) : u.extract 0 1 = ⟨#[u[0]]⟩ := ext_one u 0 h

set_option maxRecDepth 100000 in
set_option maxHeartbeats 4000000 in
theorem rsplit_any (s : ByteArray) (w : World) (hs : s.size ≤ 20000) :
    Calls Try.prog 18 #[.string s] w fun e w' => Below w.heap.size w w' ∧
      ((spl s.data.toList = none ∧ e = .returned (.tuple #[.slice none 0 0, .bool false])) ∨
       ∃ (ws : List ByteArray) (v : Value), spl s.data.toList = some (ws.map (·.data.toList)) ∧ w'.ownsRow w.heap.size 9 1 v ws.length (ws.map Value.string) ∧ e = .returned (.tuple #[v, .bool true])) := by
  obtain ⟨i0, hi, hz0, hz1, hz2⟩ := info_parts Try.infoStr
  go_enter Try.func18, Try.ntmps18
  go_wp2_with fail
  go_loopg [0, 4] s.size (fun m sv v wr => ∃ (u : ByteArray) (ws : List ByteArray), m = u.size ∧ sv = .string u ∧ u.size ≤ s.size ∧ ws.length + u.size ≤ s.size ∧ wr.ownsRow w.heap.size 9 1 v ws.length (ws.map Value.string) ∧ Below w.heap.size w wr ∧ Hid (Got2 s.data.toList u ws))
  case atStart => exact ⟨s, [], rfl, rfl, Nat.le_refl _, by simp, World.ownsRow_nil _ _ _ _, Below.refl _ _, hide (by simp [Got2])⟩
  case round =>
    obtain ⟨u, ws, rfl, rfl, hus, hwu, hown, hbl, hgot⟩ := hrel
    have hsz := hbl.size
    by_cases hu : 0 < u.size
    · go_wp2_with fail
      obtain ⟨wo, hwo⟩ : ∃ wo : World, wo = wr := ⟨_, rfl⟩
      clear hwo
      go_loop [5] (fun n => ∃ k : Nat, k ≤ u.size ∧ n = .int .i64 k ∧ Hid (∀ j, (hj : j < u.data.toList.length) → j < k → letB u.data.toList[j] = true)) (fun n => u.size - (intOf n).toNat)
      case atStart => exact ⟨0, Nat.zero_le _, rfl, fun _ _ h => absurd h (by omega)⟩
      case round =>
        obtain ⟨k, hk, rfl, hall⟩ := hrel
        by_cases hgo : ∃ hlt : k < u.size, letB u[k] = true
        · obtain ⟨hlt, hl⟩ := hgo
          have HL := hide hl
          clear hl
          go_wp2_with (go_at_call 36; rw [ext_one u k hlt]; refine (hasL_any u[k] _).mono ?_; rw [unhide HL]; rintro e w' ⟨rfl, rfl⟩)
          go_round
          case rel => exact ⟨k + 1, by omega, by go_num, letters_step hall.out (fun _ => unhide HL)⟩
          case measure => simp [intOf]; omega
        · have HK : Hid (lettersN u.data.toList = k) := hide (lettersN_stop _ k hall.out (by rw [size_toList]; exact hk) (fun hj => by
            cases hl : letB (u.data.toList[k]'hj) with
            | false => rfl
            | true => exact absurd ⟨by rw [← size_toList]; exact hj, hl⟩ hgo))
          clear hall
          have HGO := hide hgo
          clear hgo
          by_cases hkp : 0 < k
          · have HNB := hide (not_blank_let (lettersN_pos hu (by rw [unhide HK]; exact hkp)))
            have HWL : Hid (wordLen u.data.toList = k) := hide (by rw [wordLen.eq_def, unhide HK, if_pos hkp])
            by_cases hlt : k < u.size
            · have HLF : Hid (letB u[k] = false) := hide (by
                cases hl : letB u[k] with
                | false => rfl
                | true => exact absurd ⟨hlt, hl⟩ (unhide HGO))
              have hle := wordLen_le u.data.toList
              rw [unhide HWL, size_toList] at hle
              go_wp2_with (first | (go_at_call 36; rw [ext_one u k hlt]; refine (hasL_any u[k] _).mono ?_; rw [unhide HLF]; rintro e w' ⟨rfl, rfl⟩) | (at_builtin; refine wpList_append_own _ rfl _ _ 28 rfl w.heap.size 9 i0 (.string ⟨#[]⟩) 1 16 Try.underlying28 hi hz0 hz1 hz2 rfl (by decide) _ _ _ rfl (hown.alloc _) ⟨_, 0, none⟩ 1 1 [.string (u.extract 0 k)] rfl rfl (one_new _ _ _) (oneCell_str _) (by unfold maxLen; omega) (by omega) (by simp; omega) ?_))
              intro v' w1 hown' hgrow _
              have R := app_one hown hbl hown' hgrow
              clear hown' hgrow hown hbl
              go_wp2_with fail
              go_roundg (u.extract k u.size).size
              case measure => simp; omega
              case rel => exact ⟨u.extract k u.size, ws ++ [u.extract 0 k], rfl, rfl, by simp; omega, by simp; omega, by simpa using R.1, R.2, hgot.out.word hu (unhide HNB) (unhide HWL) (by omega)⟩
            · have hd : decide ((k : Int) < (u.size : Int)) = false := by simp; omega
              have hle := wordLen_le u.data.toList
              rw [unhide HWL, size_toList] at hle
              go_wp2_with (first | (at_builtin; refine wpList_append_own _ rfl _ _ 28 rfl w.heap.size 9 i0 (.string ⟨#[]⟩) 1 16 Try.underlying28 hi hz0 hz1 hz2 rfl (by decide) _ _ _ rfl (hown.alloc _) ⟨_, 0, none⟩ 1 1 [.string (u.extract 0 k)] rfl rfl (one_new _ _ _) (oneCell_str _) (by unfold maxLen; omega) (by omega) (by simp; omega) ?_))
              intro v' w1 hown' hgrow _
              have R := app_one hown hbl hown' hgrow
              clear hown' hgrow hown hbl
              go_wp2_with fail
              go_roundg (u.extract k u.size).size
              case measure => simp; omega
              case rel => exact ⟨u.extract k u.size, ws ++ [u.extract 0 k], rfl, rfl, by simp; omega, by simp; omega, by simpa using R.1, R.2, hgot.out.word hu (unhide HNB) (unhide HWL) (by omega)⟩
          · have HL0 : Hid (¬ 0 < lettersN u.data.toList) := hide (by rw [unhide HK]; exact hkp)
            have hlt : k < u.size := by omega
            have HLF : Hid (letB u[k] = false) := hide (by
              cases hl : letB u[k] with
              | false => rfl
              | true => exact absurd ⟨hlt, hl⟩ (unhide HGO))
            by_cases hb1 : ((u[0].toNat : Int) == 32) = true
            · go_wp2_with (go_at_call 36; rw [ext_one u k hlt]; refine (hasL_any u[k] _).mono ?_; rw [unhide HLF]; rintro e w' ⟨rfl, rfl⟩)
              go_roundg (u.extract 1 u.size).size
              case measure => simp; omega
              case rel => exact ⟨u.extract 1 u.size, ws, rfl, rfl, by simp; omega, by simp; omega, hown, hbl, hgot.out.blank hu (Or.inl ((u8_eq _ 32 (by omega)).1 hb1))⟩
            · have hb1f : ((u[0].toNat : Int) == 32) = false := by simpa using hb1
              by_cases hb2 : ((u[0].toNat : Int) == 10) = true
              · clear hb1
                go_wp2_with (go_at_call 36; rw [ext_one u k hlt]; refine (hasL_any u[k] _).mono ?_; rw [unhide HLF]; rintro e w' ⟨rfl, rfl⟩)
                go_roundg (u.extract 1 u.size).size
                case measure => simp; omega
                case rel => exact ⟨u.extract 1 u.size, ws, rfl, rfl, by simp; omega, by simp; omega, hown, hbl, hgot.out.blank hu (Or.inr ((u8_eq _ 10 (by omega)).1 hb2))⟩
              · have hb2f : ((u[0].toNat : Int) == 10) = false := by simpa using hb2
                have HNB : Hid (¬ (u[0] = 32 ∨ u[0] = 10)) := hide (by
                  rintro (e | e)
                  · exact hb1 ((u8_eq _ 32 (by omega)).2 e)
                  · exact hb2 ((u8_eq _ 10 (by omega)).2 e))
                clear hb1 hb2
                by_cases h2 : u.data.toList.take 2 = [45, 62] ∨ u.data.toList.take 2 = [33, 61]
                · have hu2 : 1 < u.size := by
                    have hl := List.length_take_le' 2 u.data.toList
                    rw [size_toList] at hl
                    rcases h2 with e | e <;> rw [e] at hl <;> simp at hl <;> omega
                  have HWL : Hid (wordLen u.data.toList = 2) := hide (wl_two (unhide HL0) h2)
                  rw [← take_of_extract] at h2
                  by_cases h3 : (u.extract 0 2).toList = [45, 62]
                  · clear h2
                    have hle := wordLen_le u.data.toList
                    rw [unhide HWL, size_toList] at hle
                    go_wp2_with (first | (go_at_call 36; rw [ext_one u k hlt]; refine (hasL_any u[k] _).mono ?_; rw [unhide HLF]; rintro e w' ⟨rfl, rfl⟩) | (at_builtin; refine wpList_append_own _ rfl _ _ 28 rfl w.heap.size 9 i0 (.string ⟨#[]⟩) 1 16 Try.underlying28 hi hz0 hz1 hz2 rfl (by decide) _ _ _ rfl (hown.alloc _) ⟨_, 0, none⟩ 1 1 [.string (u.extract 0 2)] rfl rfl (one_new _ _ _) (oneCell_str _) (by unfold maxLen; omega) (by omega) (by simp; omega) ?_))
                    intro v' w1 hown' hgrow _
                    have R := app_one hown hbl hown' hgrow
                    clear hown' hgrow hown hbl
                    go_wp2_with fail
                    go_roundg (u.extract 2 u.size).size
                    case measure => simp; omega
                    case rel => exact ⟨u.extract 2 u.size, ws ++ [u.extract 0 2], rfl, rfl, by simp; omega, by simp; omega, by simpa using R.1, R.2, hgot.out.word hu (unhide HNB) (unhide HWL) (by omega)⟩
                  · have h4 := h2.resolve_left h3
                    clear h2
                    have hle := wordLen_le u.data.toList
                    rw [unhide HWL, size_toList] at hle
                    go_wp2_with (first | (go_at_call 36; rw [ext_one u k hlt]; refine (hasL_any u[k] _).mono ?_; rw [unhide HLF]; rintro e w' ⟨rfl, rfl⟩) | (at_builtin; refine wpList_append_own _ rfl _ _ 28 rfl w.heap.size 9 i0 (.string ⟨#[]⟩) 1 16 Try.underlying28 hi hz0 hz1 hz2 rfl (by decide) _ _ _ rfl (hown.alloc _) ⟨_, 0, none⟩ 1 1 [.string (u.extract 0 2)] rfl rfl (one_new _ _ _) (oneCell_str _) (by unfold maxLen; omega) (by omega) (by simp; omega) ?_))
                    intro v' w1 hown' hgrow _
                    have R := app_one hown hbl hown' hgrow
                    clear hown' hgrow hown hbl
                    go_wp2_with fail
                    go_roundg (u.extract 2 u.size).size
                    case measure => simp; omega
                    case rel => exact ⟨u.extract 2 u.size, ws ++ [u.extract 0 2], rfl, rfl, by simp; omega, by simp; omega, by simpa using R.1, R.2, hgot.out.word hu (unhide HNB) (unhide HWL) (by omega)⟩
                · have h3 : ((u.extract 0 2).toList == [45, 62]) = false := by simpa [take_of_extract] using fun e => h2 (Or.inl e)
                  have h4 : ((u.extract 0 2).toList == [33, 61]) = false := by simpa [take_of_extract] using fun e => h2 (Or.inr e)
                  have HWS := hide (wl_sign (unhide HL0) h2 hu)
                  clear h2
                  cases hsg : signB (u[0].toNat : Int) with
                  | true =>
                    have HWL : Hid (wordLen u.data.toList = 1) := hide (by rw [unhide HWS, hsg]; rfl)
                    have HSG := hide hsg
                    clear hsg
                    by_cases hu2 : 1 < u.size
                    · skip
                      have hle := wordLen_le u.data.toList
                      rw [unhide HWL, size_toList] at hle
                      go_wp2_with (first | (go_at_call 36; rw [ext_one u k hlt]; refine (hasL_any u[k] _).mono ?_; rw [unhide HLF]; rintro e w' ⟨rfl, rfl⟩) | (go_at_call 36; rw [ext_zero u hu]; refine (hasS_any u[0] _).mono ?_; rw [unhide HSG]; rintro e w' ⟨rfl, rfl⟩) | (at_builtin; refine wpList_append_own _ rfl _ _ 28 rfl w.heap.size 9 i0 (.string ⟨#[]⟩) 1 16 Try.underlying28 hi hz0 hz1 hz2 rfl (by decide) _ _ _ rfl (hown.alloc _) ⟨_, 0, none⟩ 1 1 [.string (u.extract 0 1)] rfl rfl (one_new _ _ _) (oneCell_str _) (by unfold maxLen; omega) (by omega) (by simp; omega) ?_))
                      intro v' w1 hown' hgrow _
                      have R := app_one hown hbl hown' hgrow
                      clear hown' hgrow hown hbl
                      go_wp2_with fail
                      go_roundg (u.extract 1 u.size).size
                      case measure => simp; omega
                      case rel => exact ⟨u.extract 1 u.size, ws ++ [u.extract 0 1], rfl, rfl, by simp; omega, by simp; omega, by simpa using R.1, R.2, hgot.out.word hu (unhide HNB) (unhide HWL) (by omega)⟩
                    · have hu3 : decide ((1 : Int) < (u.size : Int)) = false := by simp; omega
                      have hle := wordLen_le u.data.toList
                      rw [unhide HWL, size_toList] at hle
                      go_wp2_with (first | (go_at_call 36; rw [ext_one u k hlt]; refine (hasL_any u[k] _).mono ?_; rw [unhide HLF]; rintro e w' ⟨rfl, rfl⟩) | (go_at_call 36; rw [ext_zero u hu]; refine (hasS_any u[0] _).mono ?_; rw [unhide HSG]; rintro e w' ⟨rfl, rfl⟩) | (at_builtin; refine wpList_append_own _ rfl _ _ 28 rfl w.heap.size 9 i0 (.string ⟨#[]⟩) 1 16 Try.underlying28 hi hz0 hz1 hz2 rfl (by decide) _ _ _ rfl (hown.alloc _) ⟨_, 0, none⟩ 1 1 [.string (u.extract 0 1)] rfl rfl (one_new _ _ _) (oneCell_str _) (by unfold maxLen; omega) (by omega) (by simp; omega) ?_))
                      intro v' w1 hown' hgrow _
                      have R := app_one hown hbl hown' hgrow
                      clear hown' hgrow hown hbl
                      go_wp2_with fail
                      go_roundg (u.extract 1 u.size).size
                      case measure => simp; omega
                      case rel => exact ⟨u.extract 1 u.size, ws ++ [u.extract 0 1], rfl, rfl, by simp; omega, by simp; omega, by simpa using R.1, R.2, hgot.out.word hu (unhide HNB) (unhide HWL) (by omega)⟩
                  | false =>
                    have HWL : Hid (wordLen u.data.toList = 0) := hide (by rw [unhide HWS, hsg]; rfl)
                    have HSG := hide hsg
                    clear hsg
                    go_wp2_with (first | (go_at_call 36; rw [ext_one u k hlt]; refine (hasL_any u[k] _).mono ?_; rw [unhide HLF]; rintro e w' ⟨rfl, rfl⟩) | (go_at_call 36; rw [ext_zero u hu]; refine (hasS_any u[0] _).mono ?_; rw [unhide HSG]; rintro e w' ⟨rfl, rfl⟩))
                    all_goals
                      go_ret2
                      exact ⟨hbl, Or.inl ⟨hgot.out.none hu (unhide HNB) (unhide HWL), rfl⟩⟩
    · have hd : decide ((0 : Int) < (u.size : Int)) = false := decide_eq_false (by omega)
      go_wp2_with fail
      go_ret2
      exact ⟨hbl, Or.inr ⟨ws, _, hgot.out.stop (by omega), hown, rfl⟩⟩
end Go.Proofs.Ytciihepbeacppaa

namespace Go.Proofs.Ytciihepbeacppaa
open Go.RowKit

theorem rsplitF_len (f : Nat) : ∀ (l : List UInt8) (L : List (List UInt8)), splitF f l = some L → (L.map List.length).sum ≤ l.length ∧ L.length ≤ l.length := by
  induction f with
  | zero =>
    intro l L h
    match l, h with
    | [], h => simp [splitF] at h; subst h; simp
    | _ :: _, h => simp [splitF] at h
  | succ f ih =>
    intro l L h
    match l, h with
    | [], h => simp [splitF] at h; subst h; simp
    | c :: r, h =>
      simp only [splitF] at h
      split at h
      · have := ih r L h; simp; omega
      · split at h
        · cases h
        · rename_i hn
          obtain ⟨L', hL', rfl⟩ := Option.map_eq_some_iff.1 h
          have := ih _ L' hL'
          have hw := wordLen_le (c :: r)
          generalize hwl : wordLen (c :: r) = n at *
          simp only [List.length_drop, List.length_cons, List.map_cons, List.sum_cons, List.length_take] at *
          omega

def preW : ByteArray := ⟨#[112, 114, 101]⟩
theorem preW_l : preW.toList = [112, 114, 101] := ByteArray.toList_eq _
def exI : Ins := ⟨⟨#[101, 120, 105, 116]⟩, em, em, em, 0, false⟩
/-- the words of a program: the formula's atoms and the instructions -/
def rrS (ws : List ByteArray) : Option (List RAt × List Ins) :=
  if ws.length = 0 ∨ eqW (ws[0]?.getD em) preW = false ∨ fndL ws lbW = ws.length then none
  else
    match rfo [] ((ws.drop 1).take (fndL ws lbW - 1)) with
    | none => none
    | some al =>
      if shI ws (fndL ws lbW) = ((ws.length : Nat) : Int) - 1 then
        match rbl (ws.length + 1) ((ws.drop (fndL ws lbW + 1)).take (ws.length - 1 - (fndL ws lbW + 1))) [] with
        | none => none
        | some cl => some (al, cl)
      else none
def rrW (l : List UInt8) : List ByteArray := ((spl l).getD []).map (fun x => ⟨x.toArray⟩)
theorem rrW_of {l : List UInt8} {ws : List ByteArray} (h : spl l = some (ws.map (·.data.toList))) : rrW l = ws := by
  unfold rrW; rw [h]
  simp only [Option.getD_some, List.map_map]
  conv => rhs; rw [← List.map_id ws]
  apply List.map_congr_left
  intro x _
  simp
/-- the reference's error; 0: it is a program -/
def rrE (l : List UInt8) : Nat :=
  if 240 < l.length then 1 else if spl l = none then 2 else if rrS (rrW l) = none then 3 else if 4 < (nmV (rrW l) (rrW l).length).length ∨ 8 < (nmH (rrW l) (rrW l).length).length then 4 else 0
theorem rrE_long {l : List UInt8} (h : 240 < l.length) : rrE l = 1 := by unfold rrE; rw [if_pos h]
theorem rrE_lex {l : List UInt8} (h : ¬ 240 < l.length) (h2 : spl l = none) : rrE l = 2 := by unfold rrE; rw [if_neg h, if_pos h2]
theorem rrE_syn {l : List UInt8} (h : ¬ 240 < l.length) (h2 : spl l ≠ none) (h3 : rrS (rrW l) = none) : rrE l = 3 := by unfold rrE; rw [if_neg h, if_neg h2, if_pos h3]
theorem rrE_names {l : List UInt8} (h : ¬ 240 < l.length) (h2 : spl l ≠ none) (h3 : rrS (rrW l) ≠ none) (h4 : 4 < (nmV (rrW l) (rrW l).length).length ∨ 8 < (nmH (rrW l) (rrW l).length).length) : rrE l = 4 := by
  unfold rrE; rw [if_neg h, if_neg h2, if_neg h3, if_pos h4]
theorem rrE_ok {l : List UInt8} (h : ¬ 240 < l.length) (h2 : spl l ≠ none) (h3 : rrS (rrW l) ≠ none) (h4 : ¬ (4 < (nmV (rrW l) (rrW l).length).length ∨ 8 < (nmH (rrW l) (rrW l).length).length)) : rrE l = 0 := by
  unfold rrE; rw [if_neg h, if_neg h2, if_neg h3, if_neg h4]
theorem rrS_none1 {ws : List ByteArray} (h : ws.length = 0 ∨ eqW (ws[0]?.getD em) preW = false ∨ fndL ws lbW = ws.length) : rrS ws = none := by unfold rrS; rw [if_pos h]
theorem rrS_none2 {ws : List ByteArray} (h : rfo [] ((ws.drop 1).take (fndL ws lbW - 1)) = none ∨ shI ws (fndL ws lbW) ≠ ((ws.length : Nat) : Int) - 1) : rrS ws = none := by
  unfold rrS; split
  · rfl
  · rcases h with h | h
    · rw [h]
    · split
      · rfl
      · rw [if_neg h]
theorem rrS_get {ws : List ByteArray} {al : List RAt} (h1 : ¬ (ws.length = 0 ∨ eqW (ws[0]?.getD em) preW = false ∨ fndL ws lbW = ws.length)) (h2 : rfo [] ((ws.drop 1).take (fndL ws lbW - 1)) = some al) (h3 : shI ws (fndL ws lbW) = ((ws.length : Nat) : Int) - 1) :
    rrS ws = (rbl (ws.length + 1) ((ws.drop (fndL ws lbW + 1)).take (ws.length - 1 - (fndL ws lbW + 1))) []).map (fun cl => (al, cl)) := by
  unfold rrS; rw [if_neg h1, h2]; dsimp only; rw [if_pos h3]
  cases rbl (ws.length + 1) ((ws.drop (fndL ws lbW + 1)).take (ws.length - 1 - (fndL ws lbW + 1))) [] <;> rfl
theorem rlen {l : List UInt8} {ws : List ByteArray} (h : spl l = some (ws.map (·.data.toList))) : ws.length ≤ l.length := by
  have h1 := (rsplitF_len _ _ _ h).2
  simpa using h1

end Go.Proofs.Ytciihepbeacppaa

namespace Go.Proofs.Ytciihepbeacppaa
open Go.RowKit

theorem cells5R {w : World} {r : Nat} {a b c d e : Value} {t : TypeId} (h : w.heap[r]? = some (.cells #[a, b, c, d, e] t (0, 0))) :
    (w.cell? ⟨r, 0, none⟩ = some a ∧ w.cell? ⟨r, 1, none⟩ = some b ∧ w.cell? ⟨r, 2, none⟩ = some c ∧ w.cell? ⟨r, 3, none⟩ = some d ∧ w.cell? ⟨r, 4, none⟩ = some e) ∧
    w.frozen? ⟨r, 0, none⟩ = false ∧ w.frozen? ⟨r, 1, none⟩ = false ∧ w.frozen? ⟨r, 2, none⟩ = false ∧ w.frozen? ⟨r, 3, none⟩ = false ∧ w.frozen? ⟨r, 4, none⟩ = false := by
  simp [World.cell?, World.frozen?, h]
theorem fndL_at (c : ByteArray) : ∀ (l : List ByteArray), fndL l c < l.length → eqW (l[fndL l c]?.getD em) c = true := by
  intro l
  induction l with
  | nil => simp
  | cons x r ih =>
    intro h
    cases hx : eqW x c with
    | true => simp only [fndL, hx]; simpa using hx
    | false =>
      simp only [fndL, hx] at h ⊢
      simp at h
      simpa using ih h

end Go.Proofs.Ytciihepbeacppaa

namespace Go.Proofs.Ytciihepbeacppaa
open Go.RowKit

theorem own_setX {w : World} {B : Nat} {e : TypeId} {sz n r j : Nat} {v : Value} {xs : List Value} (h : w.ownsRow B e sz v n xs) (hr : ∀ k, v.ownBlock = some k → k ≠ r) (u : Value) : (w.setCell ⟨r, j, none⟩ u).ownsRow B e sz v n xs :=
  ownsRow_of_eq h (fun k hk => Below.heap_setCell _ _ _ _ (hr k hk))

theorem rjn_len (ws : List ByteArray) : (jn ws).length ≤ (ws.map (fun x => x.data.toList.length)).sum + ws.length := by
  match ws with
  | [] => simp [jn]
  | x :: r =>
    have : ∀ r : List ByteArray, (r.flatMap (fun y => 32 :: y.data.toList)).length ≤ (r.map (fun x => x.data.toList.length)).sum + r.length := by
      intro r
      induction r with
      | nil => simp
      | cons y r ih => simp only [List.flatMap_cons, List.length_append, List.length_cons, List.map_cons, List.sum_cons]; omega
    have := this r
    simp only [jn, List.length_append, List.map_cons, List.sum_cons, List.length_cons]
    omega
theorem rjn_le {l : List UInt8} {ws : List ByteArray} (h : spl l = some (ws.map (·.data.toList))) : (jn ws).length ≤ 2 * l.length := by
  have h1 := rsplitF_len _ _ _ h
  have h2 := rjn_len ws
  simp only [List.map_map, List.length_map] at h1
  have h3 : (List.map (List.length ∘ fun x : ByteArray => x.data.toList) ws) = ws.map (fun x => x.data.toList.length) := rfl
  rw [h3] at h1
  omega
theorem TxAt_str1 {ws : List ByteArray} {k : Nat} {y : ByteArray} (h : jn (ws.take (k + 1)) = jn (ws.take k) ++ [32] ++ y.data.toList) : (⟨(jn (ws.take k)).toArray⟩ : ByteArray) ++ ⟨#[32]⟩ ++ y = ⟨(jn (ws.take (k + 1))).toArray⟩ := by
  rw [h]; apply ByteArray.ext; simp [ByteArray.data_append]
theorem TxAt_str0 {ws : List ByteArray} {k : Nat} {y : ByteArray} (h : jn (ws.take (k + 1)) = jn (ws.take k) ++ y.data.toList) : (⟨(jn (ws.take k)).toArray⟩ : ByteArray) ++ y = ⟨(jn (ws.take (k + 1))).toArray⟩ := by
  rw [h]; apply ByteArray.ext; simp [ByteArray.data_append]

theorem rows_on {w5 w6 wr : World} {X base n sz : Nat} {e : TypeId} {v v4 : Value} {xs : List Value} (h : w5.ownsRow base e sz v n xs) (hX : ∀ k, v.ownBlock = some k → k ≠ X) (hne : v.ownBlock = none ∨ v.ownBlock ≠ v4.ownBlock) {a b c d : Value} {o : Obj}
    (hg : ((((w5.setCell ⟨X, 0, none⟩ a).setCell ⟨X, 1, none⟩ b).setCell ⟨X, 2, none⟩ c).alloc o).grownBy w6 v4.ownBlock) (hS : Stp [X] (w6.setCell ⟨X, 3, none⟩ d) [X] wr) : wr.ownsRow base e sz v n xs :=
  rowStep (own_setX (((own_setX (own_setX (own_setX h hX a) hX b) hX c).alloc o).kept hg hne) hX d) hS (fun k hk => by simpa using hX k hk)
theorem own_low {w : World} {B B' : Nat} {e : TypeId} {sz n : Nat} {v : Value} {xs : List Value} (h : w.ownsRow B e sz v n xs) (hb : B' ≤ B) : w.ownsRow B' e sz v n xs := by
  refine ⟨h.1, ?_⟩
  rcases h.2 with h0 | ⟨g, cap, cur, hv, hB, hr⟩
  · exact .inl h0
  · exact .inr ⟨g, cap, cur, hv, Nat.le_trans hb hB, hr⟩
theorem ne_of_own {v v4 : Value} (h : ∀ k, v.ownBlock = some k → v4.ownBlock ≠ some k) : v.ownBlock = none ∨ v.ownBlock ≠ v4.ownBlock := by
  cases hv : v.ownBlock with
  | none => exact Or.inl rfl
  | some k => exact Or.inr (fun e => h k hv e.symm)

end Go.Proofs.Ytciihepbeacppaa

namespace Go.Proofs.Ytciihepbeacppaa
open Go.RowKit

end Go.Proofs.Ytciihepbeacppaa

namespace Go.Proofs.Ytciihepbeacppaa
open Go.RowKit

/-- the two readers say the same of a text -/
def Eqv (l : List UInt8) : Prop :=
  rdE l = rrE l ∧ (rdE l = 0 → ∀ al cl, rrS (rrW l) = some (al, cl) → (rdS l).vars.length = (nmV (rrW l) (rrW l).length).length ∧ (rdS l).nodes.length = cl.length + 1)

theorem below_drewN (w : World) (n : Nat) : Below w.heap.size w (w.drewN n) := ⟨rfl, rfl, rfl, Nat.le_refl _, fun _ _ => rfl⟩

end Go.Proofs.Ytciihepbeacppaa
