import Derived.Test.YtciihepbeacppaaProg
import Derived.WalkKit
import Derived.WalkSpells
import Derived.WalkLawsBesides
namespace Go.Proofs.Ytciihepbeacppaa
open Go.RowKit

theorem hide {p : Prop} (h : p) : Hid p := h
theorem unhide {p : Prop} (h : Hid p) : p := h

def smallB (c : Int) : Bool := decide (97 ≤ c) && decide (c ≤ 122)
def greatB (c : Int) : Bool := decide (65 ≤ c) && decide (c ≤ 90)
/-- a small letter that stands alone -/
def lowB (w : ByteArray) : Bool := match w.data.toList with | [c] => smallB c.toNat | _ => false
/-- a great letter that stands alone -/
def upB (w : ByteArray) : Bool := match w.data.toList with | [c] => greatB c.toNat | _ => false
def signB (c : Int) : Bool := c == 61 || c == 42 || c == 40 || c == 41 || c == 44 || c == 59 || c == 123 || c == 125 || c == 46

theorem ret_bool {a b : Bool} (h : a = b) : Ending.returned (.bool a) = .returned (.bool b) := by rw [h]
theorem ret_int {k : IntKind} {a b : Int} (h : a = b) : Ending.returned (.int k a) = .returned (.int k b) := by rw [h]

set_option maxHeartbeats 400000 in
theorem isSmall_any (c : Int) (w : World) :
    Calls Try.prog 66 #[.int .u8 c] w fun e w' => e = .returned (.bool (smallB c)) ∧ w' = w := by
  by_cases h : 97 ≤ c
  · go_enter Try.func66, Try.ntmps66
    go_wp2
    go_ret
    exact ⟨by simp [smallB, h], rfl⟩
  · have hd : decide (97 ≤ c) = false := by simpa using h
    go_enter Try.func66, Try.ntmps66
    go_wp2
    go_ret
    exact ⟨by simp [smallB, hd], rfl⟩

set_option maxHeartbeats 400000 in
theorem isGreat_any (c : Int) (w : World) :
    Calls Try.prog 67 #[.int .u8 c] w fun e w' => e = .returned (.bool (greatB c)) ∧ w' = w := by
  by_cases h : 65 ≤ c
  · go_enter Try.func67, Try.ntmps67
    go_wp2
    go_ret
    exact ⟨by simp [greatB, h], rfl⟩
  · have hd : decide (65 ≤ c) = false := by simpa using h
    go_enter Try.func67, Try.ntmps67
    go_wp2
    go_ret
    exact ⟨by simp [greatB, hd], rfl⟩

set_option maxHeartbeats 400000 in
theorem isSign_any (c : Int) (w : World) :
    Calls Try.prog 59 #[.int .u8 c] w fun e w' => e = .returned (.bool (signB c)) ∧ w' = w := by
  go_enter Try.func59, Try.ntmps59
  go_wp2
  all_goals
    go_ret
    exact ⟨ret_bool (by simp [signB, *]), rfl⟩

theorem one_of_size (w : ByteArray) (h : w.size = 1) : ∃ c : UInt8, w = ⟨#[c]⟩ := by
  obtain ⟨⟨l⟩⟩ := w
  match l, h with
  | [c], _ => exact ⟨c, rfl⟩
theorem lowB_one (c : UInt8) : lowB ⟨#[c]⟩ = smallB c.toNat := rfl
theorem upB_one (c : UInt8) : upB ⟨#[c]⟩ = greatB c.toNat := rfl
theorem lowB_not (w : ByteArray) (h : w.size ≠ 1) : lowB w = false := by
  obtain ⟨⟨l⟩⟩ := w
  match l, h with
  | [], _ => rfl
  | [_], h => exact absurd rfl h
  | _ :: _ :: _, _ => rfl
theorem upB_not (w : ByteArray) (h : w.size ≠ 1) : upB w = false := by
  obtain ⟨⟨l⟩⟩ := w
  match l, h with
  | [], _ => rfl
  | [_], h => exact absurd rfl h
  | _ :: _ :: _, _ => rfl

theorem at_one (c : UInt8) (h : 0 < (⟨#[c]⟩ : ByteArray).size) : (⟨#[c]⟩ : ByteArray)[0]'h = c := rfl

set_option maxHeartbeats 400000 in
theorem lower_any (s : ByteArray) (w : World) :
    Calls Try.prog 20 #[.string s] w fun e w' => e = .returned (.bool (lowB s)) ∧ w' = w := by
  by_cases hs : s.size = 1
  · obtain ⟨c, rfl⟩ := one_of_size s hs
    clear hs
    rw [lowB_one]
    go_enter Try.func20, Try.ntmps20
    go_wp2
    all_goals
      go_ret
      exact ⟨ret_bool (by simp only [at_one] at *; simp_all [smallB] <;> try (intro _; omega)), rfl⟩
  · rw [lowB_not s hs]
    go_enter Try.func20, Try.ntmps20
    go_wp2
    go_ret
    exact ⟨rfl, rfl⟩

set_option maxHeartbeats 400000 in
theorem upper_any (s : ByteArray) (w : World) :
    Calls Try.prog 21 #[.string s] w fun e w' => e = .returned (.bool (upB s)) ∧ w' = w := by
  by_cases hs : s.size = 1
  · obtain ⟨c, rfl⟩ := one_of_size s hs
    clear hs
    rw [upB_one]
    go_enter Try.func21, Try.ntmps21
    go_wp2
    all_goals
      go_ret
      exact ⟨ret_bool (by simp only [at_one] at *; simp_all [greatB] <;> try (intro _; omega)), rfl⟩
  · rw [upB_not s hs]
    go_enter Try.func21, Try.ntmps21
    go_wp2
    go_ret
    exact ⟨rfl, rfl⟩

set_option maxHeartbeats 400000 in
theorem isVariable_any (s : ByteArray) (w : World) :
    Calls Try.prog 70 #[.string s] w fun e w' => e = .returned (.bool (lowB s)) ∧ w' = w := by
  by_cases hs : s.size = 1
  · obtain ⟨c, rfl⟩ := one_of_size s hs
    clear hs
    rw [lowB_one]
    go_enter Try.func70, Try.ntmps70
    go_wp2_with (go_at_call 66; refine (isSmall_any _ _).mono ?_; rintro e w' ⟨rfl, rfl⟩)
    go_ret
    exact ⟨rfl, rfl⟩
  · rw [lowB_not s hs]
    go_enter Try.func70, Try.ntmps70
    go_wp2_with fail
    go_ret
    exact ⟨rfl, rfl⟩

set_option maxHeartbeats 400000 in
theorem isHidden_any (s : ByteArray) (w : World) :
    Calls Try.prog 61 #[.string s] w fun e w' => e = .returned (.bool (upB s)) ∧ w' = w := by
  by_cases hs : s.size = 1
  · obtain ⟨c, rfl⟩ := one_of_size s hs
    clear hs
    rw [upB_one]
    go_enter Try.func61, Try.ntmps61
    go_wp2_with (go_at_call 67; refine (isGreat_any _ _).mono ?_; rintro e w' ⟨rfl, rfl⟩)
    go_ret
    exact ⟨rfl, rfl⟩
  · rw [upB_not s hs]
    go_enter Try.func61, Try.ntmps61
    go_wp2_with fail
    go_ret
    exact ⟨rfl, rfl⟩

/-! words.letters -/
def letB (c : UInt8) : Bool := smallB c.toNat || greatB c.toNat
/-- with how many letters a text begins -/
def lettersN (l : List UInt8) : Nat := (l.takeWhile letB).length

theorem lettersN_le (l : List UInt8) : lettersN l ≤ l.length := by
  unfold lettersN
  induction l with
  | nil => simp
  | cons c r ih => rw [List.takeWhile_cons]; split <;> simp <;> omega
theorem lettersN_drop (l : List UInt8) (k : Nat) (h : ∀ j, (hj : j < l.length) → j < k → letB l[j] = true) (hk : k ≤ l.length) : lettersN l = k + lettersN (l.drop k) := by
  induction k generalizing l with
  | zero => simp
  | succ k ih =>
    match l, hk with
    | c :: r, hk =>
      have h0 : letB c = true := h 0 (by simp) (by omega)
      have := ih r (fun j hj hjk => h (j + 1) (by simp; omega) (by omega)) (by simpa using hk)
      simp only [List.drop_succ_cons]
      simp only [lettersN, List.takeWhile_cons, h0, if_true, List.length_cons] at this ⊢
      omega
theorem lettersN_stop (l : List UInt8) (k : Nat) (h : ∀ j, (hj : j < l.length) → j < k → letB l[j] = true) (hk : k ≤ l.length) (hs : (hj : k < l.length) → letB l[k] = false) : lettersN l = k := by
  rw [lettersN_drop l k h hk]
  by_cases hlt : k < l.length
  · rw [List.drop_eq_getElem_cons hlt]
    simp only [lettersN, List.takeWhile_cons, hs hlt]
    simp
  · rw [List.drop_eq_nil_of_le (by omega)]
    rfl

theorem letters_step {l : List UInt8} {k : Nat} (h : ∀ j, (hj : j < l.length) → j < k → letB l[j] = true) (hn : (hj : k < l.length) → letB l[k] = true) :
    ∀ j, (hj : j < l.length) → j < k + 1 → letB l[j] = true := by
  intro j hj hjk
  by_cases he : j = k
  · subst he; exact hn hj
  · exact h j hj (by omega)

set_option maxHeartbeats 400000 in
theorem letters_any (s : ByteArray) (w : World) (hs : s.size ≤ 20000) :
    Calls Try.prog 58 #[.string s] w fun e w' => e = .returned (.int .i64 (lettersN s.data.toList)) ∧ w' = w := by
  go_enter Try.func58, Try.ntmps58
  go_wp2_with fail
  go_loop [3] (fun n => ∃ k : Nat, k ≤ s.size ∧ n = .int .i64 k ∧ ∀ j, (hj : j < s.data.toList.length) → j < k → letB s.data.toList[j] = true) (fun n => s.size - (intOf n).toNat)
  case atStart => exact ⟨0, Nat.zero_le _, rfl, fun _ _ h => absurd h (by omega)⟩
  case round =>
    obtain ⟨k, hk, rfl, hall⟩ := hrel
    have HA : Hid (∀ j, (hj : j < s.data.toList.length) → j < k → letB s.data.toList[j] = true) := hall
    clear hall
    by_cases hlt : k < s.size
    · by_cases h1 : smallB (s[k].toNat : Int) = true
      · go_wp2_with (first | (go_at_call 66; refine (isSmall_any _ _).mono ?_; rintro e w' ⟨rfl, rfl⟩) | (go_at_call 67; refine (isGreat_any _ _).mono ?_; rintro e w' ⟨rfl, rfl⟩))
        go_round
        case rel => exact ⟨k + 1, by omega, by go_num, letters_step HA.out (fun _ => by simp [letB]; exact Or.inl h1)⟩
        case measure => simp [intOf]; omega
      · have h1f : smallB (s[k].toNat : Int) = false := by simpa using h1
        clear h1
        by_cases h2 : greatB (s[k].toNat : Int) = true
        · go_wp2_with (first | (go_at_call 66; refine (isSmall_any _ _).mono ?_; rintro e w' ⟨rfl, rfl⟩) | (go_at_call 67; refine (isGreat_any _ _).mono ?_; rintro e w' ⟨rfl, rfl⟩))
          go_round
          case rel => exact ⟨k + 1, by omega, by go_num, letters_step HA.out (fun _ => by simp [letB]; exact Or.inr h2)⟩
          case measure => simp [intOf]; omega
        · have h2f : greatB (s[k].toNat : Int) = false := by simpa using h2
          clear h2
          go_wp2_with (first | (go_at_call 66; refine (isSmall_any _ _).mono ?_; rintro e w' ⟨rfl, rfl⟩) | (go_at_call 67; refine (isGreat_any _ _).mono ?_; rintro e w' ⟨rfl, rfl⟩))
          go_ret
          exact ⟨ret_int (by rw [lettersN_stop _ k HA.out (by simpa using hk) (fun _ => by simp [letB]; exact ⟨h1f, h2f⟩)]), rfl⟩
    · have hd : decide ((k : Int) < (s.size : Int)) = false := by simp; omega
      go_wp2_with fail
      go_ret
      exact ⟨ret_int (by rw [lettersN_stop _ k HA.out (by simpa using hk) (fun h => absurd h (by simpa using hlt))]), rfl⟩

end Go.Proofs.Ytciihepbeacppaa
