import Derived.Test.YtciihepbeacppaaHI
import Derived.Test.YtciihepbeacppaaMJ
import Derived.Test.YtciihepbeacppaaHE
namespace Go.Proofs.Ytciihepbeacppaa
open Go.RowKit

set_option maxRecDepth 100000 in
set_option maxHeartbeats 8000000 in
theorem cel_base {X : Nat} {ad nx : List Int} {pu : List RAt} : CelOK X ad nx pu [] (celM ad nx pu 0 []) := by
  intro w rv pv nv vv fv ns vs fr hI hB
  have HI := hide hI
  have HB := hide hB
  have hfl := hI.fr.2.1
  obtain ⟨na, nc, rfl⟩ := hI.ns.slice
  obtain ⟨va, vc, rfl⟩ := hI.vs.slice
  obtain ⟨fa, fc, rfl⟩ := hI.fr.slice
  obtain ⟨ra, rc, rfl⟩ := hI.pl.slice
  obtain ⟨pa, pc, rfl⟩ := hI.pu.slice
  clear hI hB
  go_enter Try.func12, Try.ntmps12
  go_wp2_with fail
  go_loopw [11] (fun i wr => wr = w.alloc (.cells #[.slice na ns.length nc, .slice va vs.length vc] 44) ∧ ∃ k : Nat, k ≤ fr.length ∧ i = .int .i64 k ∧ Hid (∀ j, j < k → fr.getD j false = false)) (fun i _ => fr.length - (intOf i).toNat)
  case atStart => exact ⟨rfl, 0, Nat.zero_le _, rfl, hide (fun _ h => absurd h (by omega))⟩
  case round =>
    obtain ⟨rfl, k, hk, rfl, hall⟩ := hrel
    by_cases hlt : k < fr.length
    · obtain ⟨g, off, cap, hv, hn2, hm2, hc⟩ := ((unhide HI).fr.below (below_box w (.cells #[.slice na ns.length nc, .slice va vs.length vc] 44))).get (by omega)
      simp only [Value.slice.injEq, true_and] at hv
      obtain ⟨rfl, rfl⟩ := hv
      have x2 := hc k _ (bools_get hlt)
      clear hc
      cases hf : fr.getD k false with
      | true =>
        have HR : Hid (celM ad nx pu 0 [] ns vs fr = false) := hide (by rw [celM, any_some hlt hf]; rfl)
        rw [hf] at x2
        clear hf
        go_wp2_with fail
        go_ret
        exact ⟨ret_bool (unhide HR).symm, below_box _ _⟩
      | false =>
        have HA := hide (any_step (unhide hall) hf)
        rw [hf] at x2
        clear hf
        go_wp2_with fail
        go_roundw
        case rel => exact ⟨trivial, k + 1, by omega, by go_num, HA⟩
        case measure => simp [intOf]; omega
    · obtain rfl : k = fr.length := by omega
      have hd : decide ((fr.length : Int) < (fr.length : Int)) = false := by simp
      have HR : Hid (celM ad nx pu 0 [] ns vs fr = oth pu (2 * pu.length + 1) ns vs) := hide (by rw [celM, any_none (unhide hall)]; rfl)
      have hl4 := (unhide HB).l4
      clear hlt hk
      go_wp2_with fail
      refine (oth_all pu X (2 * pu.length) _ _ _ _ ns vs ((unhide HI).pu.below (below_box _ _)) ((unhide HI).ns.below (below_box _ _)) ((unhide HI).vs.below (below_box _ _)) (unhide HB).l1 (by omega) (fun v hv => by have := (unhide HB).bv v hv; omega) (unv_two ns vs pu)).mono ?_
      rintro e w2 ⟨rfl, hb2⟩
      have HB2 := hide ((below_box w (.cells #[.slice na ns.length nc, .slice va vs.length vc] 44)).trans (hb2.mono (by simp)))
      clear hb2
      go_wp2_with fail
      go_ret
      exact ⟨ret_bool (unhide HR).symm, unhide HB2⟩
theorem cel_all {X : Nat} {ad nx : List Int} {pu : List RAt} (n : Nat) : ∀ pl : List RAt, pl.length = n → CelOK X ad nx pu pl (celM ad nx pu n pl) := by
  induction n with
  | zero =>
    intro pl h
    obtain rfl : pl = [] := List.eq_nil_of_length_eq_zero h
    exact cel_base
  | succ n ih => exact fun pl h => cel_step h ih
/-- Holds -/
theorem hold_any {w : World} {X : Nat} {ad nx : List Int} {ns : List ByteArray} {vs : List Int} {fv : Value} {f : List RAt} (hA : HpA w X ad nx) (hN : HpB w X ns vs) (hF : Lst w fv 3 f.length (raCells f)) (hl : ns.length = vs.length) (hlx : nx.length = ad.length) (hb : ns.length + 2 * f.length < 16000) (bv : BV vs) (ba : BV ad) (bn : BV nx) :
    Calls Try.prog 7 #[.pointer (some ⟨X, 0, none⟩), fv] w fun e w' => e = .returned (.bool (hold ad nx ns vs f)) ∧ Below w.heap.size w w' :=
  hold_walk hA hN hF hl hlx hb bv ba bn (cel_all _ _ rfl)
end Go.Proofs.Ytciihepbeacppaa
