import Derived.Test.YtciihepbeacppaaRA
namespace Go.Proofs.Ytciihepbeacppaa
open Go.RowKit

theorem ext_one (u : ByteArray) (k : Nat) (h : k < u.size) : u.extract k (k + 1) = ⟨#[u[k]]⟩ := by
  rw [Lib.extract_eq]
  have hl : k < u.data.toList.length := by rw [size_toList]; exact h
  rw [List.drop_eq_getElem_cons hl]
  simp only [Nat.add_sub_cancel_left, List.take_succ_cons, List.take_zero]
  rfl

def conB (S : ByteArray) (c : UInt8) : Bool := S.data.toList.contains c
set_option maxRecDepth 100000 in
set_option maxHeartbeats 1000000 in
theorem has_any (S : ByteArray) (c : UInt8) (w : World) (hS : S.size ≤ 1000) :
    Calls Try.prog 36 #[.string S, .string ⟨#[c]⟩] w fun e w' => e = .returned (.bool (conB S c)) ∧ w' = w := by
  go_enter Try.func36, Try.ntmps36
  go_wp2_with fail
  go_loop [5] (fun i => ∃ k : Nat, k ≤ S.size ∧ i = .int .i64 k ∧ Hid (∀ j, (hj : j < S.data.toList.length) → j < k → S.data.toList[j] ≠ c)) (fun i => S.size - (intOf i).toNat)
  case atStart => exact ⟨0, Nat.zero_le _, rfl, fun _ _ h => absurd h (by omega)⟩
  case round =>
    obtain ⟨k, hk, rfl, hall⟩ := hrel
    by_cases hlt : k < S.size
    · have hlt' : k < S.data.toList.length := by rw [size_toList]; exact hlt
      have HX : Hid ((S.extract k (k + 1)).toList = [S.data.toList[k]]) := hide (by rw [ext_one S k hlt, ByteArray.toList_eq]; rfl)
      have kc : (⟨#[c]⟩ : ByteArray).toList = [c] := ByteArray.toList_eq _
      cases he : ((S.extract k (k + 1)).toList == [c]) with
      | true =>
        go_wp2_with fail
        go_ret
        refine ⟨ret_bool ?_, rfl⟩
        rw [unhide HX] at he
        have : S.data.toList[k] = c := by simpa using he
        rw [eq_comm, conB, List.contains_iff_mem, ← this]
        exact List.getElem_mem _
      | false =>
        go_wp2_with fail
        go_round
        case rel =>
          refine ⟨k + 1, by omega, by go_num, fun j hj hjk => ?_⟩
          by_cases hjk' : j = k
          · subst hjk'; intro e; rw [unhide HX, e] at he; simp at he
          · exact hall.out j hj (by omega)
        case measure => simp [intOf]; omega
    · have hd : decide ((k : Int) + 1 ≤ (S.size : Int)) = false := by simp; omega
      go_wp2_with fail
      go_ret
      refine ⟨ret_bool ?_, rfl⟩
      rw [eq_comm, conB, ← Bool.not_eq_true, List.contains_iff_mem]
      intro hm
      obtain ⟨j, hj, e⟩ := List.getElem_of_mem hm
      exact hall.out j hj (by rw [size_toList] at hj; omega) e

def lettersS : ByteArray := ⟨#[97, 98, 99, 100, 101, 102, 103, 104, 105, 106, 107, 108, 109, 110, 111, 112, 113, 114, 115, 116, 117, 118, 119, 120, 121, 122, 65, 66, 67, 68, 69, 70, 71, 72, 73, 74, 75, 76, 77, 78, 79, 80, 81, 82, 83, 84, 85, 86, 87, 88, 89, 90]⟩
def signsS : ByteArray := ⟨#[61, 42, 40, 41, 44, 59, 123, 125, 46]⟩
theorem all_u8 (p : UInt8 → Bool) (h : ∀ n, n < 256 → p (UInt8.ofNat n) = true) (c : UInt8) : p c = true := by
  have := h c.toNat (by have := c.toNat_lt; omega)
  simpa using this
theorem letters_has (c : UInt8) : conB lettersS c = letB c := by
  have := all_u8 (fun c => conB lettersS c == letB c) (by decide +kernel) c
  simpa using this
theorem signs_has (c : UInt8) : conB signsS c = signB c.toNat := by
  have := all_u8 (fun c => conB signsS c == signB c.toNat) (by decide +kernel) c
  simpa using this

theorem hasL_any (c : UInt8) (w : World) : Calls Try.prog 36 #[.string ⟨#[97, 98, 99, 100, 101, 102, 103, 104, 105, 106, 107, 108, 109, 110, 111, 112, 113, 114, 115, 116, 117, 118, 119, 120, 121, 122, 65, 66, 67, 68, 69, 70, 71, 72, 73, 74, 75, 76, 77, 78, 79, 80, 81, 82, 83, 84, 85, 86, 87, 88, 89, 90]⟩, .string ⟨#[c]⟩] w fun e w' => e = .returned (.bool (letB c)) ∧ w' = w := by
  have := has_any lettersS c w (by decide)
  rw [letters_has] at this
  exact this
theorem hasS_any (c : UInt8) (w : World) : Calls Try.prog 36 #[.string ⟨#[61, 42, 40, 41, 44, 59, 123, 125, 46]⟩, .string ⟨#[c]⟩] w fun e w' => e = .returned (.bool (signB c.toNat)) ∧ w' = w := by
  have := has_any signsS c w (by decide)
  rw [signs_has] at this
  exact this

/-- what has been gathered, and the text that is left -/
def Got2 (l : List UInt8) (u : ByteArray) (ws : List ByteArray) : Prop := spl l = (spl u.data.toList).map (ws.map (·.data.toList) ++ ·)
theorem Got2.stop {l : List UInt8} {u : ByteArray} {ws : List ByteArray} (h : Got2 l u ws) (hu : u.size = 0) : spl l = some (ws.map (·.data.toList)) := by
  unfold Got2 at h
  have : u.data.toList = [] := List.eq_nil_of_length_eq_zero (by rw [size_toList]; exact hu)
  rw [h, this, spl_nil]; simp
theorem Got2.cons {u : ByteArray} (hu : 0 < u.size) : u.data.toList = u[0] :: u.data.toList.drop 1 := by
  have := List.drop_eq_getElem_cons (l := u.data.toList) (i := 0) (by rw [size_toList]; exact hu)
  rw [List.drop_zero] at this
  exact this
theorem Got2.blank {l : List UInt8} {u : ByteArray} {ws : List ByteArray} (h : Got2 l u ws) (hu : 0 < u.size) (hb : u[0] = 32 ∨ u[0] = 10) : Got2 l (u.extract 1 u.size) ws := by
  unfold Got2 at *
  rw [h, Got2.cons hu, spl_blank _ _ hb, Lib.extract_data, List.take_of_length_le (by rw [List.length_drop, size_toList]; omega)]
theorem Got2.none {l : List UInt8} {u : ByteArray} {ws : List ByteArray} (h : Got2 l u ws) (hu : 0 < u.size) (hb : ¬ (u[0] = 32 ∨ u[0] = 10)) (h0 : wordLen u.data.toList = 0) : spl l = .none := by
  unfold Got2 at *
  rw [Got2.cons hu] at h0 h
  rw [h, spl_none _ _ hb h0]; rfl
theorem Got2.word {l : List UInt8} {u : ByteArray} {ws : List ByteArray} {n : Nat} (h : Got2 l u ws) (hu : 0 < u.size) (hb : ¬ (u[0] = 32 ∨ u[0] = 10)) (hn : wordLen u.data.toList = n) (h0 : n ≠ 0) : Got2 l (u.extract n u.size) (ws ++ [u.extract 0 n]) := by
  subst hn
  unfold Got2 at *
  have e1 : (u.extract (wordLen u.data.toList) u.size).data.toList = u.data.toList.drop (wordLen u.data.toList) := by
    rw [Lib.extract_data, List.take_of_length_le (by rw [List.length_drop, size_toList]; omega)]
  have e2 : (u.extract 0 (wordLen u.data.toList)).data.toList = u.data.toList.take (wordLen u.data.toList) := by
    rw [Lib.extract_data]; simp
  have e3 : spl u.data.toList = (spl (u.data.toList.drop (wordLen u.data.toList))).map (u.data.toList.take (wordLen u.data.toList) :: ·) := by
    have := spl_word u[0] (u.data.toList.drop 1) hb (by rw [← Got2.cons hu]; exact h0)
    rw [← Got2.cons hu] at this
    exact this
  rw [h, e1, e3, Option.map_map]
  congr 1
  funext x
  simp only [Function.comp, List.map_append, List.map_cons, List.map_nil, e2, List.append_assoc, List.singleton_append]
theorem not_blank_let {c : UInt8} (h : letB c = true) : ¬ (c = 32 ∨ c = 10) := by
  rintro (rfl | rfl) <;> exact absurd h (by decide)
theorem lettersN_pos {u : ByteArray} (hu : 0 < u.size) (h : 0 < lettersN u.data.toList) : letB u[0] = true := by
  rw [Got2.cons hu] at h
  cases hl : letB u[0] with
  | true => rfl
  | false => simp [lettersN, hl] at h
end Go.Proofs.Ytciihepbeacppaa
