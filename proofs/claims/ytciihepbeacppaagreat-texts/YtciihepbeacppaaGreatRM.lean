import Derived.Test.YtciihepbeacppaaGreatRL
namespace Go.Proofs.YtciihepbeacppaaGreat
open Go.RowKit

theorem clo_pos {d : Nat} {l : List ByteArray} {j : Nat} (h : clo d l = some j) : j < l.length := by
  induction l generalizing d j with
  | nil => simp [clo] at h
  | cons x r ih =>
    simp only [clo] at h
    split at h
    · obtain ⟨k, hk, rfl⟩ := Option.map_eq_some_iff.1 h
      have := ih hk; simp; omega
    · split at h
      · split at h
        · simp at h; subst h; simp
        · obtain ⟨k, hk, rfl⟩ := Option.map_eq_some_iff.1 h
          have := ih hk; simp; omega
      · obtain ⟨k, hk, rfl⟩ := Option.map_eq_some_iff.1 h
        have := ih hk; simp; omega
theorem shI_bd {l : List ByteArray} {i : Nat} (h : ¬ shI l i < 0) : ∃ e : Nat, shI l i = (e : Int) ∧ i + 1 ≤ e ∧ e < l.length := by
  unfold shI at *
  cases hc : clo 1 (l.drop (i + 1)) with
  | none => rw [hc] at h; simp at h
  | some j =>
    have := clo_pos hc
    simp only [List.length_drop] at this
    exact ⟨i + 1 + j, rfl, by omega, by omega⟩

theorem find_cl {w : World} {v : Value} {l : List ByteArray} (h : Strs w v l) (hl : l.length ≤ 20000) (b : Nat) (hb : fndL l clW = b) : Calls Tryz.prog 48 #[v, .int .i64 0, .string ⟨#[41]⟩] w fun e w' => e = .returned (.int .i64 b) ∧ w' = w := by
  rw [← hb]; exact find_any clW h hl

/-- the reference's control: a head that is none -/
theorem rcH_none {l : List ByteArray} (h : l.length < 2 ∨ eqW (l[1]?.getD em) opP = false ∨ l.length ≤ fndL l clW + 1 ∨ eqW (l[fndL l clW + 1]?.getD em) lbW = false) : rcH l = none := by
  unfold rcH; rw [if_pos h]
theorem rcH_none2 {l : List ByteArray} (h : rcB ((l.drop 2).take (fndL l clW - 2)) = false ∨ shI l (fndL l clW + 1) < 0) : rcH l = none := by
  unfold rcH; split
  · rfl
  · rfl
theorem rcH_some {l : List ByteArray} (h1 : ¬ (l.length < 2 ∨ eqW (l[1]?.getD em) opP = false ∨ l.length ≤ fndL l clW + 1 ∨ eqW (l[fndL l clW + 1]?.getD em) lbW = false)) (h2 : ¬ (rcB ((l.drop 2).take (fndL l clW - 2)) = false ∨ shI l (fndL l clW + 1) < 0)) : rcH l = some (fndL l clW, (shI l (fndL l clW + 1)).toNat) := by
  unfold rcH; rw [if_neg h1, if_neg h2]
theorem fndL_two {x y : ByteArray} {r : List ByteArray} (hx : eqW x clW = false) (hy : eqW y clW = false) : 2 ≤ fndL (x :: y :: r) clW := by
  simp only [fndL, hx, hy]; simp
theorem opP_l : opP.toList = [40] := ByteArray.toList_eq _
theorem clW_ne {x : ByteArray} {a : List UInt8} (h : x.toList = a) (ha : (a == [41]) = false) : eqW x clW = false := by unfold eqW; rw [clW_l, h]; exact ha

set_option maxRecDepth 100000 in
set_option maxHeartbeats 1000000 in
/-- a head that is none: it comes back at once -/
theorem rcontrol_bad {B : Nat} {blk : List ByteArray → List Ins → Option (List Ins)} {w : World} {c : Value} {l : List ByteArray} {cl : List Ins} {g off n cap b : Nat} (hstr : StrB B w (.slice (some ⟨g, off, none⟩) n cap) l) (hn : n = l.length) (hown : w.ownsRow B 100 6 c cl.length (insCells cl)) (hl : n ≤ 1000)
    (hb : fndL l clW = b) (hcell : ∀ j, (h : j < l.length) → w.cell? ⟨g, off + j, none⟩ = some (.string l[j]))
    (hbad : n < 2 ∨ (2 ≤ n ∧ eqW (l[1]?.getD em) opP = false) ∨ (2 ≤ n ∧ eqW (l[1]?.getD em) opP = true ∧ n ≤ b + 1) ∨ (2 ≤ n ∧ eqW (l[1]?.getD em) opP = true ∧ b + 1 < n ∧ eqW (l[b + 1]?.getD em) lbW = false)) :
    Calls Tryz.prog 73 #[.slice (some ⟨g, off, none⟩) n cap, c] w fun e w' => CtPost B w c cl l.length (rct blk l cl) e w' := by
  have HNONE : Hid (rct blk l cl = none) := hide (by
    have : rcH l = none := rcH_none (by rw [hb, ← hn]; rcases hbad with h | ⟨_, h⟩ | ⟨_, _, h⟩ | ⟨_, _, _, h⟩ <;> simp [h])
    unfold rct; rw [this])
  have HF := hide (find_cl hstr.str (by omega) b hb)
  have HOWN := hide hown
  have HB := hide hb
  clear hb hown hstr
  have HP : Hid (∀ w', w' = w → CtPost B w c cl l.length (rct blk l cl) (.returned (.tuple #[c, .int .i64 0, .bool false])) w') := hide (by
    rintro w' rfl
    exact ⟨c, cl, 0, false, rfl, unhide HOWN, Stp.refl _ _, Nat.le_refl _, Or.inl ⟨rfl, unhide HNONE, by omega⟩⟩)
  rcases hbad with h2 | ⟨h2, h3⟩ | ⟨h2, h3, h4⟩ | ⟨h2, h3, h4, h5⟩
  · clear hcell hn
    go_enter Tryz.func73, Tryz.ntmps73
    go_wp2_with (go_at_call 48; refine (unhide HF).mono ?_; rintro e w' ⟨rfl, rfl⟩)
    go_ret3
    exact unhide HP _ rfl
  · have h1 : 1 < l.length := by omega
    have c1 := hcell 1 h1
    have hx : (l[1].toList == [40]) = false := by
      have : l[1]?.getD em = l[1] := by simp [h1]
      rw [this] at h3; unfold eqW at h3; rw [opP_l] at h3; exact h3
    obtain ⟨y, hy⟩ : ∃ y, y = l[1] := ⟨_, rfl⟩
    rw [← hy] at c1 hx
    clear hcell hn h3 hy h1
    go_enter Tryz.func73, Tryz.ntmps73
    go_wp2_with (go_at_call 48; refine (unhide HF).mono ?_; rintro e w' ⟨rfl, rfl⟩)
    go_ret3
    exact unhide HP _ rfl
  · have h1 : 1 < l.length := by omega
    have c1 := hcell 1 h1
    have hx : (l[1].toList == [40]) = true := by
      have : l[1]?.getD em = l[1] := by simp [h1]
      rw [this] at h3; unfold eqW at h3; rw [opP_l] at h3; exact h3
    obtain ⟨y, hy⟩ : ∃ y, y = l[1] := ⟨_, rfl⟩
    rw [← hy] at c1 hx
    have hbl := fndL_le l clW
    rw [unhide HB, ← hn] at hbl
    clear hcell hn h3 hy h1
    go_enter Tryz.func73, Tryz.ntmps73
    go_wp2_with (go_at_call 48; refine (unhide HF).mono ?_; rintro e w' ⟨rfl, rfl⟩)
    go_ret3
    exact unhide HP _ rfl
  · have h1 : 1 < l.length := by omega
    have hb1 : b + 1 < l.length := by omega
    have c1 := hcell 1 h1
    have cb := hcell (b + 1) hb1
    have hx : (l[1].toList == [40]) = true := by
      have : l[1]?.getD em = l[1] := by simp [h1]
      rw [this] at h3; unfold eqW at h3; rw [opP_l] at h3; exact h3
    have hz : (l[b + 1].toList == [123]) = false := by
      have : l[b + 1]?.getD em = l[b + 1] := by simp [hb1]
      rw [this] at h5; unfold eqW at h5; rw [show lbW.toList = [123] from ByteArray.toList_eq _] at h5; exact h5
    obtain ⟨y, hy⟩ : ∃ y, y = l[1] := ⟨_, rfl⟩
    obtain ⟨z, hzz⟩ : ∃ z, z = l[b + 1] := ⟨_, rfl⟩
    rw [← hy] at c1 hx
    rw [← hzz] at cb hz
    clear hcell hn h3 hy h1 hb1 h5 hzz
    go_enter Tryz.func73, Tryz.ntmps73
    go_wp2_with (go_at_call 48; refine (unhide HF).mono ?_; rintro e w' ⟨rfl, rfl⟩)
    go_ret3
    exact unhide HP _ rfl
end Go.Proofs.YtciihepbeacppaaGreat
