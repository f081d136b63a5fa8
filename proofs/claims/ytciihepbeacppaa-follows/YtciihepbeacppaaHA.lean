import Derived.Test.YtciihepbeacppaaRK
import Derived.Test.YtciihepbeacppaaWO
import Derived.Laws.AppendOwnNone
import Derived.Laws.CopyOwn
namespace Go.Proofs.Ytciihepbeacppaa
open Go.RowKit

/-! ### lists that are only read -/
def Lst (w : World) (v : Value) (sz n : Nat) (xs : List Value) : Prop :=
  xs.length = n * sz ∧ n ≤ 20000 ∧ ((v = .slice none 0 0 ∧ n = 0) ∨ ∃ g off cap, v = .slice (some ⟨g, off, none⟩) n cap ∧ n ≤ cap ∧ cap ≤ maxLen ∧ ∀ j u, xs[j]? = some u → w.cell? ⟨g, off + j, none⟩ = some u)
theorem Lst.below {w w' : World} {v : Value} {sz n : Nat} {xs : List Value} (h : Lst w v sz n xs) (hb : Below w.heap.size w w') : Lst w' v sz n xs := by
  obtain ⟨h1, h2, h3⟩ := h
  refine ⟨h1, h2, ?_⟩
  rcases h3 with h3 | ⟨g, off, cap, hv, hn, hm, hc⟩
  · exact Or.inl h3
  · exact Or.inr ⟨g, off, cap, hv, hn, hm, fun j u hj => by rw [hb.cell (World.block_lt_of_cell? w _ (hc j u hj))]; exact hc j u hj⟩
theorem Lst.of_own {w : World} {B : Nat} {e : TypeId} {v : Value} {sz n : Nat} {xs : List Value} (h : w.ownsRow B e sz v n xs) (hn : n ≤ 20000) : Lst w v sz n xs := by
  have hcs := fun g hg => h.cells (g := g) hg
  refine ⟨h.1, hn, ?_⟩
  rcases h.2 with ⟨rfl, h0⟩ | ⟨g, cap, cur, rfl, _, _, hn, hm, _, _⟩
  · exact Or.inl ⟨rfl, h0⟩
  · refine Or.inr ⟨g, 0, cap, rfl, hn, hm, fun j u hj => ?_⟩
    have := hcs g rfl j u hj
    rw [show (⟨g, 0, none⟩ : Addr).add j = ⟨g, 0 + j, none⟩ by unfold Addr.add; split <;> simp_all] at this
    exact this
theorem Lst.strs {w : World} {v : Value} {l : List ByteArray} (h : Lst w v 1 l.length (l.map Value.string)) : Strs w v l := by
  obtain ⟨h1, h2, h3⟩ := h
  rcases h3 with ⟨rfl, h0⟩ | ⟨g, off, cap, hv, hn, hm, hc⟩
  · have : l = [] := List.eq_nil_of_length_eq_zero h0
    subst this
    exact ⟨_, _, rfl, Nat.le_refl _, by simp, fun h => absurd rfl h⟩
  · exact ⟨_, _, hv, hn, hm, fun _ => ⟨g, off, rfl, fun j hj => hc j (.string l[j]) (by simp [hj])⟩⟩
theorem Lst.drew {w : World} {v : Value} {sz n : Nat} {xs : List Value} (h : Lst w v sz n xs) : Lst w.drew v sz n xs := h

theorem below_box (w : World) (o : Obj) : Below w.heap.size w (w.alloc o) := (Below.refl _ _).alloc (Nat.le_refl _) o
/-! ### names with values -/
def ints (l : List Int) : List Value := l.map (Value.int .i64)
theorem ints_len (l : List Int) : (ints l).length = l.length := by simp [ints]
/-- what a name is -/
def evA (ns : List ByteArray) (vs : List Int) (n : ByteArray) : Option Int := if eqW n nilW = true then some 0 else if fndL ns n < ns.length then some (vs.getD (fndL ns n) 0) else none

set_option maxRecDepth 100000 in
set_option maxHeartbeats 1000000 in
theorem hvalue_any {w : World} {nv vv : Value} {ns : List ByteArray} {vs : List Int} (n : ByteArray) (h1 : Lst w nv 1 ns.length (ns.map Value.string)) (h2 : Lst w vv 1 vs.length (ints vs)) (hl : ns.length = vs.length) :
    Calls Try.prog 24 #[.agg #[nv, vv], .string n] w fun e w' => e = .returned (.tuple #[.int .i64 ((evA ns vs n).getD 0), .bool (evA ns vs n).isSome]) ∧ Below w.heap.size w w' := by
  have hlen := h1.2.1
  by_cases hn : eqW n nilW = true
  · have HE : Hid (evA ns vs n = some 0) := hide (by unfold evA; rw [if_pos hn])
    have hb : (n.toList == [110, 105, 108]) = true := by rw [← nilW_l]; exact hn
    clear h1 h2 hn
    go_enter Try.func24, Try.ntmps24
    go_wp2_with fail
    go_ret2
    exact ⟨by rw [unhide HE]; rfl, by repeat (first | exact Below.refl _ _ | apply Below.drew | (refine Below.alloc ?_ (Nat.le_refl _) _))⟩
  · have hb : (n.toList == [110, 105, 108]) = false := by rw [← nilW_l]; exact Bool.eq_false_iff.2 hn
    have HS := hide h1.strs
    by_cases hf : fndL ns n < ns.length
    · obtain ⟨i, hi⟩ : ∃ i, i = fndL ns n := ⟨_, rfl⟩
      have HE : Hid (evA ns vs n = some (vs.getD i 0)) := hide (by unfold evA; rw [if_neg hn, if_pos hf, hi])
      have HA : Hid (amI ns n = (i : Int)) := hide (by unfold amI; rw [if_pos hf, hi])
      rw [← hi] at hf
      obtain ⟨g, off, cap, rfl, hn2, hm, hc⟩ := h2.2.2.resolve_left (fun h => by omega)
      have hcx := hc i (.int .i64 (vs.getD i 0)) (by have : i < vs.length := by omega
                                                     simp [ints, this])
      have hcy := (below_box w (.cells #[nv, .slice (some ⟨g, off, none⟩) vs.length cap] 44)).cell (World.block_lt_of_cell? w _ hcx)
      rw [hcx] at hcy
      clear h1 h2 hn hi hc hcx
      go_enter Try.func24, Try.ntmps24
      go_wp2_with fail
      refine (among_any n ((unhide HS).below (below_box _ _)) (by omega)).mono ?_
      rintro e w1 ⟨rfl, rfl⟩
      rw [unhide HA]
      have hi0 : decide ((i : Int) < 0) = false := by simp
      go_wp2_with fail
      go_ret2
      exact ⟨by rw [unhide HE]; rfl, below_box _ _⟩
    · have HE : Hid (evA ns vs n = none) := hide (by unfold evA; rw [if_neg hn, if_neg hf])
      have ha : amI ns n = -1 := by unfold amI; rw [if_neg hf]
      have HA := hide ha
      clear h1 h2 hn hf ha
      go_enter Try.func24, Try.ntmps24
      go_wp2_with fail
      refine (among_any n ((unhide HS).below (below_box _ _)) (by omega)).mono ?_
      rintro e w1 ⟨rfl, rfl⟩
      rw [unhide HA]
      go_wp2_with fail
      go_ret2
      exact ⟨by rw [unhide HE]; rfl, below_box _ _⟩
end Go.Proofs.Ytciihepbeacppaa
