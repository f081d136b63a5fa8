import Derived.Test.YtciihepbeacppaaWA
import Derived.Lib.Strings
namespace Go.Proofs.Ytciihepbeacppaa
open Go.RowKit

/-- how long the word is with which a text begins: 0, if with none -/
def wordLen (l : List UInt8) : Nat :=
  if 0 < lettersN l then lettersN l else if l.take 2 = [45, 62] ∨ l.take 2 = [33, 61] then 2 else match l with | c :: _ => if signB c.toNat then 1 else 0 | [] => 0

theorem take_of_extract (s : ByteArray) (k : Nat) : (s.extract 0 k).toList = s.data.toList.take k := by
  rw [Lib.extract_toList]; simp
theorem wl_two {s : ByteArray} (h0 : ¬ 0 < lettersN s.data.toList) (h : s.data.toList.take 2 = [45, 62] ∨ s.data.toList.take 2 = [33, 61]) : wordLen s.data.toList = 2 := by
  rw [wordLen.eq_def, if_neg h0, if_pos h]
theorem wl_sign {s : ByteArray} (h0 : ¬ 0 < lettersN s.data.toList) (h : ¬ (s.data.toList.take 2 = [45, 62] ∨ s.data.toList.take 2 = [33, 61])) (hp : 0 < s.size) :
    wordLen s.data.toList = if signB (s[0].toNat : Int) then 1 else 0 := by
  rw [wordLen.eq_def, if_neg h0, if_neg h]
  obtain ⟨⟨l⟩⟩ := s
  match l, hp with
  | c :: r, _ => rfl
theorem wl_none {s : ByteArray} (h0 : ¬ 0 < lettersN s.data.toList) (h : ¬ (s.data.toList.take 2 = [45, 62] ∨ s.data.toList.take 2 = [33, 61])) (hp : ¬ 0 < s.size) :
    wordLen s.data.toList = 0 := by
  rw [wordLen.eq_def, if_neg h0, if_neg h]
  obtain ⟨⟨l⟩⟩ := s
  match l, hp with
  | [], _ => rfl
  | _ :: _, hp => exact absurd (by simp [ByteArray.size]) hp
theorem two_short {s : ByteArray} (h : s.size < 2) : ¬ (s.data.toList.take 2 = [45, 62] ∨ s.data.toList.take 2 = [33, 61]) := by
  have hl : (s.data.toList.take 2).length ≤ s.size := by rw [Lib.size_eq]; simp; omega
  rintro (e | e) <;> rw [e] at hl <;> simp at hl <;> omega

set_option maxHeartbeats 400000 in
theorem length_any (s : ByteArray) (w : World) (hs : s.size ≤ 20000) :
    Calls Try.prog 49 #[.string s] w fun e w' => e = .returned (.int .i64 (wordLen s.data.toList)) ∧ w' = w := by
  have hle := lettersN_le s.data.toList
  by_cases h0 : 0 < lettersN s.data.toList
  · go_enter Try.func49, Try.ntmps49
    go_wp2_with (go_at_call 58; refine (letters_any _ _ hs).mono ?_; rintro e w' ⟨rfl, rfl⟩)
    go_ret
    exact ⟨ret_int (by simp [wordLen, h0]), rfl⟩
  · by_cases h2 : s.data.toList.take 2 = [45, 62] ∨ s.data.toList.take 2 = [33, 61]
    · have hz : 2 ≤ s.size := by
        rw [Lib.size_eq]
        have hl := List.length_take_le' 2 s.data.toList
        rcases h2 with e | e <;> rw [e] at hl <;> simpa using hl
      have HW := hide (wl_two h0 h2)
      rw [← take_of_extract] at h2
      by_cases h3 : (s.extract 0 2).toList = [45, 62]
      · clear h2
        go_enter Try.func49, Try.ntmps49
        go_wp2_with (go_at_call 58; refine (letters_any _ _ hs).mono ?_; rintro e w' ⟨rfl, rfl⟩)
        go_ret
        exact ⟨ret_int (by rw [unhide HW]; rfl), rfl⟩
      · have h4 := h2.resolve_left h3
        clear h2
        go_enter Try.func49, Try.ntmps49
        go_wp2_with (go_at_call 58; refine (letters_any _ _ hs).mono ?_; rintro e w' ⟨rfl, rfl⟩)
        all_goals
          go_ret
          exact ⟨ret_int (by rw [unhide HW]; rfl), rfl⟩
    · by_cases hp : 0 < s.size
      · have HW := hide (wl_sign h0 h2 hp)
        rw [← take_of_extract] at h2
        have h3 : ((s.extract 0 2).toList == [45, 62]) = false := by simpa using fun e => h2 (Or.inl e)
        have h4 : ((s.extract 0 2).toList == [33, 61]) = false := by simpa using fun e => h2 (Or.inr e)
        clear h2
        go_enter Try.func49, Try.ntmps49
        go_wp2_with (first | (go_at_call 58; refine (letters_any _ _ hs).mono ?_; rintro e w' ⟨rfl, rfl⟩) | (go_at_call 59; refine (isSign_any _ _).mono ?_; rintro e w' ⟨rfl, rfl⟩))
        all_goals
          go_ret
          exact ⟨ret_int (by rw [unhide HW]; simp [*]), rfl⟩
      · have HW := hide (wl_none h0 h2 hp)
        clear h2
        go_enter Try.func49, Try.ntmps49
        go_wp2_with (first | (go_at_call 58; refine (letters_any _ _ hs).mono ?_; rintro e w' ⟨rfl, rfl⟩) | (go_at_call 59; refine (isSign_any _ _).mono ?_; rintro e w' ⟨rfl, rfl⟩))
        go_ret
        exact ⟨ret_int (by rw [unhide HW]; rfl), rfl⟩

end Go.Proofs.Ytciihepbeacppaa
