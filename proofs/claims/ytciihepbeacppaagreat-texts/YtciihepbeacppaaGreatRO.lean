import Derived.Test.YtciihepbeacppaaGreatRN
namespace Go.Proofs.YtciihepbeacppaaGreat
open Go.RowKit

theorem em_l : em.toList = [] := ByteArray.toList_eq _
theorem lbW_l2 : lbW.toList = [123] := ByteArray.toList_eq _
/-- control, from what block keeps -/
theorem rcontrol_all {B f : Nat} {blk : List ByteArray → List Ins → Option (List Ins)} (hblk : RblOK B blk f) : CtlOK B (rct blk) f := by
  intro w v c l cl hstr hB hown hlf hbd hhd
  match l, hstr, hlf, hbd, hhd with
  | [], _, _, _, hhd => simp [eqW, em_l, ifW_l, whW_l] at hhd
  | x :: r, hstr, hlf, hbd, hhd =>
    obtain ⟨g, off, n, cap, hg, rfl, hn, hncap, hm, c0, hcell⟩ := hstr.open
    obtain ⟨b, hb⟩ : ∃ b, fndL (x :: r) clW = b := ⟨_, rfl⟩
    unfold maxLen at hm
    by_cases hbad : n < 2 ∨ (2 ≤ n ∧ eqW ((x :: r)[1]?.getD em) opP = false) ∨ (2 ≤ n ∧ eqW ((x :: r)[1]?.getD em) opP = true ∧ n ≤ b + 1) ∨ (2 ≤ n ∧ eqW ((x :: r)[1]?.getD em) opP = true ∧ b + 1 < n ∧ eqW ((x :: r)[b + 1]?.getD em) lbW = false)
    · exact rcontrol_bad hstr hn hown (by omega) hb hcell hbad
    · have h2 : 2 ≤ n := by omega
      have h3 : eqW ((x :: r)[1]?.getD em) opP = true := by
        cases h : eqW ((x :: r)[1]?.getD em) opP with
        | true => rfl
        | false => exact absurd (Or.inr (Or.inl ⟨h2, h⟩)) hbad
      have h4 : b + 1 < n := by
        rcases Nat.lt_or_ge (b + 1) n with h | h
        · exact h
        · exact absurd (Or.inr (Or.inr (Or.inl ⟨h2, h3, h⟩))) hbad
      have h5 : eqW ((x :: r)[b + 1]?.getD em) lbW = true := by
        cases h : eqW ((x :: r)[b + 1]?.getD em) lbW with
        | true => rfl
        | false => exact absurd (Or.inr (Or.inr (Or.inr ⟨h2, h3, h4, h⟩))) hbad
      have k1 : 1 < (x :: r).length := by omega
      have kb : b + 1 < (x :: r).length := by omega
      have e1 : (x :: r)[1]?.getD em = (x :: r)[1] := by rw [List.getElem?_eq_getElem k1]; rfl
      have eb : (x :: r)[b + 1]?.getD em = (x :: r)[b + 1] := by rw [List.getElem?_eq_getElem kb]; rfl
      have hy : ((x :: r)[1].toList == [40]) = true := by rw [e1] at h3; unfold eqW at h3; rw [opP_l] at h3; exact h3
      have hz : ((x :: r)[b + 1].toList == [123]) = true := by rw [eb] at h5; unfold eqW at h5; rw [lbW_l2] at h5; exact h5
      have hx0 : eqW x clW = false := by
        simp only [List.getElem?_cons_zero, Option.getD_some, Bool.or_eq_true] at hhd
        rcases hhd with h | h
        · exact clW_ne (a := [105, 102]) (by simpa [eqW, ifW_l] using h) rfl
        · exact clW_ne (a := [119, 104, 105, 108, 101]) (by simpa [eqW, whW_l] using h) rfl
      have hb2 : 2 ≤ b := by
        rw [← hb]
        cases r with
        | nil => simp at k1
        | cons y r' => exact fndL_two hx0 (clW_ne (a := [40]) (by simpa using hy) rfl)
      exact rcontrol_good hblk hstr hn hB hown (by omega) (by omega) hncap hm hg hb hcell hb2 h4 c0 (hcell 1 k1) (hcell (b + 1) kb) (hd := x.toList == [119, 104, 105, 108, 101]) rfl hy hz (by simp only [List.getElem?_cons_zero, Option.getD_some]; unfold eqW; rw [whW_l]) h5 (by rw [h3, hb, h5, ← hn]; simp; omega)
/-- block, whole -/
theorem rbl_ok {B : Nat} : ∀ f, RblOK B (rbl f) f := by
  intro f
  induction f with
  | zero => intro w v c l cl _ _ _ h; omega
  | succ f ih =>
    intro w v c l cl hstr hB hown hlf hbd
    exact rblock_walk (rcontrol_all ih) w v c l cl hstr hB hown (by omega) hbd
end Go.Proofs.YtciihepbeacppaaGreat
