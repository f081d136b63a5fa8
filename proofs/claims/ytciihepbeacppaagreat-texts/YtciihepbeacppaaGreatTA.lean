import Derived.Test.YtciihepbeacppaaGreatWY
import Derived.Test.YtciihepbeacppaaGreatRS
namespace Go.Proofs.YtciihepbeacppaaGreat
open Go.RowKit

/-- the two readers say the same of a text -/
def Eqv (l : List UInt8) : Prop :=
  rdE l = rrE l ∧ (rdE l = 0 → ∀ al cl, rrS (rrW l) = some (al, cl) → (rdS l).vars.length = (nmV (rrW l) (rrW l).length).length ∧ (rdS l).nodes.length = cl.length + 1)

set_option maxRecDepth 100000 in
set_option maxHeartbeats 1000000 in
theorem loaded_bad (s : ByteArray) (w : World) (hs : s.size ≤ 20000) (he : Eqv s.data.toList) (h0 : rdE s.data.toList ≠ 0) :
    Calls Tryz.prog 14 #[.string s, .int .i64 0, .bool true] w fun e w' => Below w.heap.size w w' ∧ ∃ p, e = .returned (.tuple #[p, .bool true]) := by
  obtain ⟨n, hn⟩ : ∃ n, n = rdE s.data.toList := ⟨_, rfl⟩
  have HE := hide he.1
  have HN := hide hn
  have hn0 : ((n : Int) == 0) = false := by rw [← hn] at h0; simpa using h0
  clear he h0 hn
  go_enter Tryz.func14, Tryz.ntmps14
  go_wp2_with fail
  refine (load_any s w hs).mono ?_
  rintro e w1 ⟨hb1, (⟨_, rfl⟩ | ⟨h, _⟩)⟩
  · rw [← unhide HN]
    have HB1 := hide hb1
    clear hb1
    go_wp2_with fail
    refine (rread_any s w1).mono ?_
    rintro e w2 ⟨hb2, (⟨_, rfl⟩ | ⟨h, _⟩)⟩
    · rw [← unhide HE, ← unhide HN]
      have HB2 := hide hb2
      clear hb2
      go_wp2_with fail
      go_ret2
      exact ⟨(unhide HB1).trans ((unhide HB2).mono (unhide HB1).size), _, congrArg (fun b => Ending.returned (.tuple #[.pointer none, .bool b])) (show ((n : Int) != 0) = true by simpa [bne] using hn0)⟩
    · rw [← unhide HE, ← unhide HN] at h
      simp [h] at hn0
  · rw [← unhide HN] at h
    simp [h] at hn0

theorem below_drewN (w : World) (n : Nat) : Below w.heap.size w (w.drewN n) := ⟨rfl, rfl, rfl, Nat.le_refl _, fun _ _ => rfl⟩

set_option maxRecDepth 100000 in
set_option maxHeartbeats 1000000 in
theorem loaded_good (s : ByteArray) (w : World) (hs : s.size ≤ 20000) (he : Eqv s.data.toList) (h0 : rdE s.data.toList = 0) :
    Calls Tryz.prog 14 #[.string s, .int .i64 0, .bool true] w fun e w' => Below w.heap.size w w' ∧ ∃ p, e = .returned (.tuple #[p, .bool true]) := by
  have HE := hide he
  have H0 := hide h0
  clear he h0
  go_enter Tryz.func14, Tryz.ntmps14
  go_wp2_with fail
  refine (load_any s w hs).mono ?_
  rintro e w1 ⟨hb1, (⟨h, _⟩ | ⟨_, X, rfl, hL⟩)⟩
  · exact absurd (unhide H0) h
  · have HL := hide hL
    have HB1 := hide hb1
    clear hL hb1
    go_wp2_with fail
    refine (rread_any s w1).mono ?_
    rintro e w2 ⟨hb2, (⟨h, _⟩ | ⟨_, Y, al, cl, hrs, rfl, hR⟩)⟩
    · exact absurd ((unhide HE).1.symm.trans (unhide H0)) h
    · have HQ := hide ((unhide HE).2 (unhide H0) al cl hrs)
      have HL2 := hide ((unhide HL).below hb2)
      obtain ⟨vv, hv, pv, cv, hY, _, r1, _, _, r4⟩ := hR
      obtain ⟨a1, k1, rfl⟩ := slice_of_own r1
      obtain ⟨a4, k4, rfl⟩ := slice_of_own r4
      have HT : Hid (∀ w', Below w2.heap.size w2 w' → Calls Tryz.prog 27 #[.pointer (some ⟨X, 0, none⟩)] w' fun e w'' => e = .returned (.string ⟨(jn (rrW s.data.toList)).toArray⟩) ∧ Below w2.heap.size w2 w'') := hide (fun w' hb => (text_any ((unhide HL2).below hb)).mono (by rintro e w'' ⟨rfl, n, rfl⟩; exact ⟨rfl, hb.trans ((below_drewN w' n).mono hb.size)⟩))
      have HV : Hid (∀ w', Below w2.heap.size w2 w' → Calls Tryz.prog 28 #[.pointer (some ⟨X, 0, none⟩)] w' fun e w'' => e = .returned (.int .i64 ((nmV (rrW s.data.toList) (rrW s.data.toList).length).length : Nat)) ∧ Below w2.heap.size w2 w'') := hide (fun w' hb => (vars_any ((unhide HL2).below hb)).mono (by rintro e w'' ⟨rfl, n, rfl⟩; exact ⟨by rw [(unhide HQ).1], hb.trans ((below_drewN w' n).mono hb.size)⟩))
      have HNO : Hid (∀ w', Below w2.heap.size w2 w' → Calls Tryz.prog 29 #[.pointer (some ⟨X, 0, none⟩)] w' fun e w'' => e = .returned (.int .i64 ((cl.length : Int) + 1)) ∧ Below w2.heap.size w2 w'') := hide (fun w' hb => (nodes_any ((unhide HL2).below hb)).mono (by rintro e w'' ⟨rfl, n, rfl⟩; exact ⟨by rw [(unhide HQ).2]; rfl, hb.trans ((below_drewN w' n).mono hb.size)⟩))
      obtain ⟨⟨q0, q1, q2, q3, q4⟩, -⟩ := cells5R hY
      have hYl : Y < w2.heap.size := (Array.getElem?_eq_some_iff.1 hY).1
      have HB2 : Hid (Below w.heap.size w w2) := hide ((unhide HB1).trans (hb2.mono (unhide HB1).size))
      clear HB1 hb2 hrs hY r1 r4 HL HL2 HQ HE H0
      generalize (nmV (rrW s.data.toList) (rrW s.data.toList).length).length = nv at *
      generalize (⟨(jn (rrW s.data.toList)).toArray⟩ : ByteArray) = tx at *
      go_wp2_with fail
      refine (unhide HT w2 (Below.refl _ _)).mono ?_
      rintro e w3 ⟨rfl, hb3⟩
      have HB3 := hide hb3
      clear hb3
      go_wp2_with fail
      refine (unhide HV w3 (unhide HB3)).mono ?_
      rintro e w4 ⟨rfl, hb4⟩
      have HB4 := hide hb4
      clear hb4
      go_wp2_with fail
      refine (unhide HNO w4 (unhide HB4)).mono ?_
      rintro e w5 ⟨rfl, hb5⟩
      have m0 := (hb5.cell (p := ⟨Y, 0, none⟩) hYl).trans q0
      have m3 := (hb5.cell (p := ⟨Y, 3, none⟩) hYl).trans q3
      have m4 := (hb5.cell (p := ⟨Y, 4, none⟩) hYl).trans q4
      have HB5 := hide ((unhide HB2).trans (hb5.mono (unhide HB2).size))
      clear hb5 q0 q1 q2 q3 q4 HT HV HNO HB3 HB4
      go_wp2_with fail
      go_ret2
      exact ⟨(unhide HB5).alloc (unhide HB5).size _, _, rfl⟩
theorem loaded_any (s : ByteArray) (w : World) (hs : s.size ≤ 20000) (he : Eqv s.data.toList) :
    Calls Tryz.prog 14 #[.string s, .int .i64 0, .bool true] w fun e w' => Below w.heap.size w w' ∧ ∃ p, e = .returned (.tuple #[p, .bool true]) := by
  by_cases h0 : rdE s.data.toList = 0
  · exact loaded_good s w hs he h0
  · exact loaded_bad s w hs he h0

set_option maxRecDepth 100000 in
set_option maxHeartbeats 1000000 in
/-- Texts, where the two readers say the same -/
theorem texts_any (s : ByteArray) (w : World) (he : Eqv s.data.toList) : Calls Tryz.prog 3 #[.string s] w fun e w' => e = .returned (.bool true) ∧ Below w.heap.size w w' := by
  by_cases hl : 16384 < s.size
  · go_enter Tryz.func3, Tryz.ntmps3
    go_wp2_with fail
    go_ret
    exact ⟨rfl, by repeat (first | exact Below.refl _ _ | apply Below.drew)⟩
  · have hd : decide ((16384 : Int) < (s.size : Int)) = false := by simp; omega
    go_enter Tryz.func3, Tryz.ntmps3
    go_wp2_with fail
    refine (loaded_any s w (by omega) he).mono ?_
    rintro e w' ⟨hb, p, rfl⟩
    have HB := hide hb
    clear hb
    go_wp2_with fail
    go_ret
    exact ⟨rfl, by repeat (first | exact unhide HB | apply Below.drew)⟩
end Go.Proofs.YtciihepbeacppaaGreat
