import Derived.Test.YtciihepbeacppaaWD
namespace Go.Proofs.Ytciihepbeacppaa
open Go.RowKit

/-! ### The reference's small functions -/
def eqW (a b : ByteArray) : Bool := a.toList == b.toList
def nilW : ByteArray := ⟨#[110, 105, 108]⟩
def nameB (u : ByteArray) : Bool := eqW u nilW || lowB u || upB u

set_option maxHeartbeats 400000 in
theorem name_any (s : ByteArray) (w : World) :
    Calls Try.prog 48 #[.string s] w fun e w' => e = .returned (.bool (nameB s)) ∧ w' = w := by
  have hk : nilW.toList = [110, 105, 108] := ByteArray.toList_eq _
  cases hn : (s.toList == [110, 105, 108]) with
  | true =>
    have HN : Hid (nameB s = true) := hide (by unfold nameB eqW; rw [hk, hn]; rfl)
    clear hk
    go_enter Try.func48, Try.ntmps48
    go_wp2_with (first | (go_at_call 20; refine (lower_any _ _).mono ?_; rintro e w' ⟨rfl, rfl⟩) | (go_at_call 21; refine (upper_any _ _).mono ?_; rintro e w' ⟨rfl, rfl⟩))
    go_ret
    exact ⟨ret_bool (unhide HN).symm, rfl⟩
  | false =>
    have HN : Hid (nameB s = (lowB s || upB s)) := hide (by unfold nameB eqW; rw [hk, hn]; simp)
    clear hk
    cases hl : lowB s with
    | true =>
      rw [hl] at HN
      go_enter Try.func48, Try.ntmps48
      go_wp2_with (first | (go_at_call 20; refine (lower_any _ _).mono ?_; rintro e w' ⟨rfl, rfl⟩) | (go_at_call 21; refine (upper_any _ _).mono ?_; rintro e w' ⟨rfl, rfl⟩))
      go_ret
      exact ⟨ret_bool (unhide HN).symm, rfl⟩
    | false =>
      rw [hl] at HN
      go_enter Try.func48, Try.ntmps48
      go_wp2_with (first | (go_at_call 20; refine (lower_any _ _).mono ?_; rintro e w' ⟨rfl, rfl⟩) | (go_at_call 21; refine (upper_any _ _).mono ?_; rintro e w' ⟨rfl, rfl⟩))
      go_ret
      exact ⟨ret_bool (unhide HN).symm, rfl⟩

/-- the first place of a word: behind the list, if it is nowhere -/
def fndL : List ByteArray → ByteArray → Nat
  | [], _ => 0
  | x :: r, k => if eqW x k then 0 else fndL r k + 1
theorem fndL_le (l : List ByteArray) (c : ByteArray) : fndL l c ≤ l.length := by
  induction l with
  | nil => simp [fndL]
  | cons x r ih => simp only [fndL]; split <;> simp <;> omega
theorem fndL_hit (l : List ByteArray) (c : ByteArray) (k : Nat) (hk : k < l.length) (hn : ∀ j, (hj : j < l.length) → j < k → eqW l[j] c = false) (h : eqW l[k] c = true) : fndL l c = k := by
  induction l generalizing k with
  | nil => simp at hk
  | cons x r ih =>
    cases k with
    | zero => simp only [List.getElem_cons_zero] at h; simp [fndL, h]
    | succ k =>
      have h0 : eqW x c = false := hn 0 (by simp) (by omega)
      simp only [fndL, h0]
      rw [ih k (by simpa using hk) (fun j hj hjk => hn (j + 1) (by simpa using hj) (by omega)) (by simpa using h)]
      simp
theorem fndL_miss (l : List ByteArray) (c : ByteArray) (hn : ∀ j, (hj : j < l.length) → eqW l[j] c = false) : fndL l c = l.length := by
  induction l with
  | nil => rfl
  | cons x r ih =>
    have h0 : eqW x c = false := hn 0 (by simp)
    simp only [fndL, h0, List.length_cons]
    rw [ih (fun j hj => hn (j + 1) (by simpa using hj))]
    simp

/-- the place of a word, or -1 -/
def amI (l : List ByteArray) (c : ByteArray) : Int := if fndL l c < l.length then fndL l c else -1
set_option maxRecDepth 100000 in
set_option maxHeartbeats 1000000 in
theorem among_any {w : World} {v : Value} {l : List ByteArray} (c : ByteArray) (h : Strs w v l) (_hl : l.length ≤ 20000) :
    Calls Try.prog 22 #[v, .string c] w fun e w' => e = .returned (.int .i64 (amI l c)) ∧ w' = w := by
  obtain ⟨ao, cap, rfl, hn, hm, hc⟩ := h
  have HC := hide hc
  clear hc
  unfold maxLen at hm
  go_enter Try.func22, Try.ntmps22
  go_wp2_with fail
  go_loop [5] (fun i => ∃ k : Nat, k ≤ l.length ∧ i = .int .i64 k ∧ Hid (∀ j, (hj : j < l.length) → j < k → eqW l[j] c = false)) (fun i => l.length - (intOf i).toNat)
  case atStart => exact ⟨0, Nat.zero_le _, rfl, fun _ _ h => absurd h (by omega)⟩
  case round =>
    obtain ⟨k, hk, rfl, hall⟩ := hrel
    by_cases hlt : k < l.length
    · obtain ⟨g, off, hao, hcell⟩ := unhide HC (by intro h; rw [h] at hlt; simp at hlt)
      have hcx := hcell k hlt
      clear hcell
      rw [hao]
      cases he : (l[k].toList == c.toList) with
      | true =>
        go_wp2_with fail
        go_ret
        exact ⟨ret_int (by unfold amI; rw [fndL_hit l c k hlt hall.out he, if_pos hlt]), rfl⟩
      | false =>
        go_wp2_with fail
        go_round
        case rel =>
          refine ⟨k + 1, by omega, by go_num, fun j hj hjk => ?_⟩
          by_cases hjk' : j = k
          · subst hjk'; exact he
          · exact hall.out j hj (by omega)
        case measure => simp [intOf]; omega
    · have hd : decide ((k : Int) < (l.length : Int)) = false := by simp; omega
      go_wp2_with fail
      go_ret
      exact ⟨ret_int (by unfold amI; rw [fndL_miss l c (fun j hj => hall.out j hj (by omega)), if_neg (by omega)]), rfl⟩

/-- from behind an open bracket: where the one that belongs to it is -/
def lbW : ByteArray := ⟨#[123]⟩
def rbW : ByteArray := ⟨#[125]⟩
def clo : Nat → List ByteArray → Option Nat
  | _, [] => none
  | d, x :: r => if eqW x lbW then (clo (d + 1) r).map (· + 1) else if eqW x rbW then (if d = 1 then some 0 else (clo (d - 1) r).map (· + 1)) else (clo d r).map (· + 1)
def shI (l : List ByteArray) (i : Nat) : Int := match clo 1 (l.drop (i + 1)) with | some j => (i + 1 + j : Nat) | none => -1

theorem clo_cons {l : List ByteArray} {k : Nat} (hk : k < l.length) (d : Nat) : clo d (l.drop k) = if eqW l[k] lbW then (clo (d + 1) (l.drop (k + 1))).map (· + 1) else if eqW l[k] rbW then (if d = 1 then some 0 else (clo (d - 1) (l.drop (k + 1))).map (· + 1)) else (clo d (l.drop (k + 1))).map (· + 1) := by
  rw [List.drop_eq_getElem_cons hk]; rfl
theorem map_add (o : Option Nat) (k i : Nat) (h : i ≤ k) : (o.map (· + 1)).map (· + (k - i)) = o.map (· + (k + 1 - i)) := by
  cases o with
  | none => rfl
  | some x => simp only [Option.map_some]; congr 1; omega
theorem clo_open {l : List ByteArray} {i k d : Nat} (hk : k < l.length) (hi : i + 1 ≤ k) (h1 : eqW l[k] lbW = true) (h : clo 1 (l.drop (i + 1)) = (clo d (l.drop k)).map (· + (k - (i + 1)))) :
    clo 1 (l.drop (i + 1)) = (clo (d + 1) (l.drop (k + 1))).map (· + (k + 1 - (i + 1))) := by
  rw [h, clo_cons hk, if_pos h1, map_add _ _ _ hi]
theorem clo_shut {l : List ByteArray} {i k d : Nat} (hk : k < l.length) (hi : i + 1 ≤ k) (hd : ¬ d = 1) (h1 : eqW l[k] lbW = false) (h2 : eqW l[k] rbW = true) (h : clo 1 (l.drop (i + 1)) = (clo d (l.drop k)).map (· + (k - (i + 1)))) :
    clo 1 (l.drop (i + 1)) = (clo (d - 1) (l.drop (k + 1))).map (· + (k + 1 - (i + 1))) := by
  rw [h, clo_cons hk, if_neg (by simp [h1]), if_pos h2, if_neg hd, map_add _ _ _ hi]
theorem clo_else {l : List ByteArray} {i k d : Nat} (hk : k < l.length) (hi : i + 1 ≤ k) (h1 : eqW l[k] lbW = false) (h2 : eqW l[k] rbW = false) (h : clo 1 (l.drop (i + 1)) = (clo d (l.drop k)).map (· + (k - (i + 1)))) :
    clo 1 (l.drop (i + 1)) = (clo d (l.drop (k + 1))).map (· + (k + 1 - (i + 1))) := by
  rw [h, clo_cons hk, if_neg (by simp [h1]), if_neg (by simp [h2]), map_add _ _ _ hi]
theorem clo_end {l : List ByteArray} {i k : Nat} (hk : k < l.length) (hi : i + 1 ≤ k) (h1 : eqW l[k] lbW = false) (h2 : eqW l[k] rbW = true) (h : clo 1 (l.drop (i + 1)) = (clo 1 (l.drop k)).map (· + (k - (i + 1)))) :
    shI l i = (k : Int) := by
  unfold shI
  rw [h, clo_cons hk, if_neg (by simp [h1]), if_pos h2, if_pos rfl]
  simp only [Option.map_some]
  omega

end Go.Proofs.Ytciihepbeacppaa
