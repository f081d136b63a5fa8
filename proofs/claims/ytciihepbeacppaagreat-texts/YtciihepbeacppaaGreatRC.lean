import Derived.Test.YtciihepbeacppaaGreatRB
import Derived.Deep.LoopGhost
namespace Go.Proofs.YtciihepbeacppaaGreat
open Go.RowKit

theorem oneCell_str (x : ByteArray) : ∀ u ∈ [Value.string x], u.oneCell' = true := by intro u hu; simp at hu; subst hu; rfl
theorem ext_zero (u : ByteArray) (h : 0 < u.size) : u.extract 0 1 = ⟨#[u[0]]⟩ := ext_one u 0 h

set_option maxRecDepth 100000 in
set_option maxHeartbeats 4000000 in
theorem rsplit_any (s : ByteArray) (w : World) (hs : s.size ≤ 20000) :
    Calls Tryz.prog 47 #[.string s] w fun e w' => Below w.heap.size w w' ∧
      ((spl s.data.toList = none ∧ e = .returned (.tuple #[.slice none 0 0, .bool false])) ∨
       ∃ (ws : List ByteArray) (v : Value), spl s.data.toList = some (ws.map (·.data.toList)) ∧ w'.ownsRow w.heap.size 9 1 v ws.length (ws.map Value.string) ∧ e = .returned (.tuple #[v, .bool true])) := by
  obtain ⟨i0, hi, hz0, hz1, hz2⟩ := info_parts Tryz.infoStr
  go_enter Tryz.func47, Tryz.ntmps47
  go_wp2_with fail
  go_loopg [0, 4] s.size (fun m sv v wr => ∃ (u : ByteArray) (ws : List ByteArray), m = u.size ∧ sv = .string u ∧ u.size ≤ s.size ∧ ws.length + u.size ≤ s.size ∧ wr.ownsRow w.heap.size 9 1 v ws.length (ws.map Value.string) ∧ Below w.heap.size w wr ∧ Hid (Got2 s.data.toList u ws))
  case atStart => exact ⟨s, [], rfl, rfl, Nat.le_refl _, by simp, World.ownsRow_nil _ _ _ _, Below.refl _ _, hide (by simp [Got2])⟩
  case round =>
    obtain ⟨u, ws, rfl, rfl, hus, hwu, hown, hbl, hgot⟩ := hrel
    have hsz := hbl.size
    by_cases hu : 0 < u.size
    · go_wp2_with fail
      obtain ⟨wo, hwo⟩ : ∃ wo : World, wo = wr := ⟨_, rfl⟩
      clear hwo
      go_loop [5] (fun n => ∃ k : Nat, k ≤ u.size ∧ n = .int .i64 k ∧ Hid (∀ j, (hj : j < u.data.toList.length) → j < k → letB u.data.toList[j] = true)) (fun n => u.size - (intOf n).toNat)
      case atStart => exact ⟨0, Nat.zero_le _, rfl, fun _ _ h => absurd h (by omega)⟩
      case round =>
        obtain ⟨k, hk, rfl, hall⟩ := hrel
        by_cases hgo : ∃ hlt : k < u.size, letB u[k] = true
        · obtain ⟨hlt, hl⟩ := hgo
          have HL := hide hl
          clear hl
          go_wp2_with (go_at_call 71; rw [ext_one u k hlt]; refine (hasL_any u[k] _).mono ?_; rw [unhide HL]; rintro e w' ⟨rfl, rfl⟩)
          go_round
          case rel => exact ⟨k + 1, by omega, by go_num, letters_step hall.out (fun _ => unhide HL)⟩
          case measure => simp [intOf]; omega
        · have HK : Hid (lettersN u.data.toList = k) := hide (lettersN_stop _ k hall.out (by rw [size_toList]; exact hk) (fun hj => by
            cases hl : letB (u.data.toList[k]'hj) with
            | false => rfl
            | true => exact absurd ⟨by rw [← size_toList]; exact hj, hl⟩ hgo))
          clear hall
          have HGO := hide hgo
          clear hgo
          by_cases hkp : 0 < k
          · have HNB := hide (not_blank_let (lettersN_pos hu (by rw [unhide HK]; exact hkp)))
            have HWL : Hid (wordLen u.data.toList = k) := hide (by rw [wordLen.eq_def, unhide HK, if_pos hkp])
            by_cases hlt : k < u.size
            · have HLF : Hid (letB u[k] = false) := hide (by
                cases hl : letB u[k] with
                | false => rfl
                | true => exact absurd ⟨hlt, hl⟩ (unhide HGO))
              have hle := wordLen_le u.data.toList
              rw [unhide HWL, size_toList] at hle
              go_wp2_with (first | (go_at_call 71; rw [ext_one u k hlt]; refine (hasL_any u[k] _).mono ?_; rw [unhide HLF]; rintro e w' ⟨rfl, rfl⟩) | (at_builtin; refine wpList_append_own _ rfl _ _ 50 rfl w.heap.size 9 i0 (.string ⟨#[]⟩) 1 16 Tryz.underlying50 hi hz0 hz1 hz2 rfl (by decide) _ _ _ rfl (hown.alloc _) ⟨_, 0, none⟩ 1 1 [.string (u.extract 0 k)] rfl rfl (one_new _ _ _) (oneCell_str _) (by unfold maxLen; omega) (by omega) (by simp; omega) ?_))
              intro v' w1 hown' hgrow _
              have R := app_one hown hbl hown' hgrow
              clear hown' hgrow hown hbl
              go_wp2_with fail
              go_roundg (u.extract k u.size).size
              case measure => simp; omega
              case rel => exact ⟨u.extract k u.size, ws ++ [u.extract 0 k], rfl, rfl, by simp; omega, by simp; omega, by simpa using R.1, R.2, hgot.out.word hu (unhide HNB) (unhide HWL) (by omega)⟩
            · have hd : decide ((k : Int) < (u.size : Int)) = false := by simp; omega
              have hle := wordLen_le u.data.toList
              rw [unhide HWL, size_toList] at hle
              go_wp2_with (first | (at_builtin; refine wpList_append_own _ rfl _ _ 50 rfl w.heap.size 9 i0 (.string ⟨#[]⟩) 1 16 Tryz.underlying50 hi hz0 hz1 hz2 rfl (by decide) _ _ _ rfl (hown.alloc _) ⟨_, 0, none⟩ 1 1 [.string (u.extract 0 k)] rfl rfl (one_new _ _ _) (oneCell_str _) (by unfold maxLen; omega) (by omega) (by simp; omega) ?_))
              intro v' w1 hown' hgrow _
              have R := app_one hown hbl hown' hgrow
              clear hown' hgrow hown hbl
              go_wp2_with fail
              go_roundg (u.extract k u.size).size
              case measure => simp; omega
              case rel => exact ⟨u.extract k u.size, ws ++ [u.extract 0 k], rfl, rfl, by simp; omega, by simp; omega, by simpa using R.1, R.2, hgot.out.word hu (unhide HNB) (unhide HWL) (by omega)⟩
          · have HL0 : Hid (¬ 0 < lettersN u.data.toList) := hide (by rw [unhide HK]; exact hkp)
            have hlt : k < u.size := by omega
            have HLF : Hid (letB u[k] = false) := hide (by
              cases hl : letB u[k] with
              | false => rfl
              | true => exact absurd ⟨hlt, hl⟩ (unhide HGO))
            by_cases hb1 : ((u[0].toNat : Int) == 32) = true
            · go_wp2_with (go_at_call 71; rw [ext_one u k hlt]; refine (hasL_any u[k] _).mono ?_; rw [unhide HLF]; rintro e w' ⟨rfl, rfl⟩)
              go_roundg (u.extract 1 u.size).size
              case measure => simp; omega
              case rel => exact ⟨u.extract 1 u.size, ws, rfl, rfl, by simp; omega, by simp; omega, hown, hbl, hgot.out.blank hu (Or.inl ((u8_eq _ 32 (by omega)).1 hb1))⟩
            · have hb1f : ((u[0].toNat : Int) == 32) = false := by simpa using hb1
              by_cases hb2 : ((u[0].toNat : Int) == 10) = true
              · clear hb1
                go_wp2_with (go_at_call 71; rw [ext_one u k hlt]; refine (hasL_any u[k] _).mono ?_; rw [unhide HLF]; rintro e w' ⟨rfl, rfl⟩)
                go_roundg (u.extract 1 u.size).size
                case measure => simp; omega
                case rel => exact ⟨u.extract 1 u.size, ws, rfl, rfl, by simp; omega, by simp; omega, hown, hbl, hgot.out.blank hu (Or.inr ((u8_eq _ 10 (by omega)).1 hb2))⟩
              · have hb2f : ((u[0].toNat : Int) == 10) = false := by simpa using hb2
                have HNB : Hid (¬ (u[0] = 32 ∨ u[0] = 10)) := hide (by
                  rintro (e | e)
                  · exact hb1 ((u8_eq _ 32 (by omega)).2 e)
                  · exact hb2 ((u8_eq _ 10 (by omega)).2 e))
                clear hb1 hb2
                by_cases h2 : u.data.toList.take 2 = [45, 62] ∨ u.data.toList.take 2 = [33, 61]
                · have hu2 : 1 < u.size := by
                    have hl := List.length_take_le' 2 u.data.toList
                    rw [size_toList] at hl
                    rcases h2 with e | e <;> rw [e] at hl <;> simp at hl <;> omega
                  have HWL : Hid (wordLen u.data.toList = 2) := hide (wl_two (unhide HL0) h2)
                  rw [← take_of_extract] at h2
                  by_cases h3 : (u.extract 0 2).toList = [45, 62]
                  · clear h2
                    have hle := wordLen_le u.data.toList
                    rw [unhide HWL, size_toList] at hle
                    go_wp2_with (first | (go_at_call 71; rw [ext_one u k hlt]; refine (hasL_any u[k] _).mono ?_; rw [unhide HLF]; rintro e w' ⟨rfl, rfl⟩) | (at_builtin; refine wpList_append_own _ rfl _ _ 50 rfl w.heap.size 9 i0 (.string ⟨#[]⟩) 1 16 Tryz.underlying50 hi hz0 hz1 hz2 rfl (by decide) _ _ _ rfl (hown.alloc _) ⟨_, 0, none⟩ 1 1 [.string (u.extract 0 2)] rfl rfl (one_new _ _ _) (oneCell_str _) (by unfold maxLen; omega) (by omega) (by simp; omega) ?_))
                    intro v' w1 hown' hgrow _
                    have R := app_one hown hbl hown' hgrow
                    clear hown' hgrow hown hbl
                    go_wp2_with fail
                    go_roundg (u.extract 2 u.size).size
                    case measure => simp; omega
                    case rel => exact ⟨u.extract 2 u.size, ws ++ [u.extract 0 2], rfl, rfl, by simp; omega, by simp; omega, by simpa using R.1, R.2, hgot.out.word hu (unhide HNB) (unhide HWL) (by omega)⟩
                  · have h4 := h2.resolve_left h3
                    clear h2
                    have hle := wordLen_le u.data.toList
                    rw [unhide HWL, size_toList] at hle
                    go_wp2_with (first | (go_at_call 71; rw [ext_one u k hlt]; refine (hasL_any u[k] _).mono ?_; rw [unhide HLF]; rintro e w' ⟨rfl, rfl⟩) | (at_builtin; refine wpList_append_own _ rfl _ _ 50 rfl w.heap.size 9 i0 (.string ⟨#[]⟩) 1 16 Tryz.underlying50 hi hz0 hz1 hz2 rfl (by decide) _ _ _ rfl (hown.alloc _) ⟨_, 0, none⟩ 1 1 [.string (u.extract 0 2)] rfl rfl (one_new _ _ _) (oneCell_str _) (by unfold maxLen; omega) (by omega) (by simp; omega) ?_))
                    intro v' w1 hown' hgrow _
                    have R := app_one hown hbl hown' hgrow
                    clear hown' hgrow hown hbl
                    go_wp2_with fail
                    go_roundg (u.extract 2 u.size).size
                    case measure => simp; omega
                    case rel => exact ⟨u.extract 2 u.size, ws ++ [u.extract 0 2], rfl, rfl, by simp; omega, by simp; omega, by simpa using R.1, R.2, hgot.out.word hu (unhide HNB) (unhide HWL) (by omega)⟩
                · have h3 : ((u.extract 0 2).toList == [45, 62]) = false := by simpa [take_of_extract] using fun e => h2 (Or.inl e)
                  have h4 : ((u.extract 0 2).toList == [33, 61]) = false := by simpa [take_of_extract] using fun e => h2 (Or.inr e)
                  have HWS := hide (wl_sign (unhide HL0) h2 hu)
                  clear h2
                  cases hsg : signB (u[0].toNat : Int) with
                  | true =>
                    have HWL : Hid (wordLen u.data.toList = 1) := hide (by rw [unhide HWS, hsg]; rfl)
                    have HSG := hide hsg
                    clear hsg
                    by_cases hu2 : 1 < u.size
                    · skip
                      have hle := wordLen_le u.data.toList
                      rw [unhide HWL, size_toList] at hle
                      go_wp2_with (first | (go_at_call 71; rw [ext_one u k hlt]; refine (hasL_any u[k] _).mono ?_; rw [unhide HLF]; rintro e w' ⟨rfl, rfl⟩) | (go_at_call 71; rw [ext_zero u hu]; refine (hasS_any u[0] _).mono ?_; rw [unhide HSG]; rintro e w' ⟨rfl, rfl⟩) | (at_builtin; refine wpList_append_own _ rfl _ _ 50 rfl w.heap.size 9 i0 (.string ⟨#[]⟩) 1 16 Tryz.underlying50 hi hz0 hz1 hz2 rfl (by decide) _ _ _ rfl (hown.alloc _) ⟨_, 0, none⟩ 1 1 [.string (u.extract 0 1)] rfl rfl (one_new _ _ _) (oneCell_str _) (by unfold maxLen; omega) (by omega) (by simp; omega) ?_))
                      intro v' w1 hown' hgrow _
                      have R := app_one hown hbl hown' hgrow
                      clear hown' hgrow hown hbl
                      go_wp2_with fail
                      go_roundg (u.extract 1 u.size).size
                      case measure => simp; omega
                      case rel => exact ⟨u.extract 1 u.size, ws ++ [u.extract 0 1], rfl, rfl, by simp; omega, by simp; omega, by simpa using R.1, R.2, hgot.out.word hu (unhide HNB) (unhide HWL) (by omega)⟩
                    · have hu3 : decide ((1 : Int) < (u.size : Int)) = false := by simp; omega
                      have hle := wordLen_le u.data.toList
                      rw [unhide HWL, size_toList] at hle
                      go_wp2_with (first | (go_at_call 71; rw [ext_one u k hlt]; refine (hasL_any u[k] _).mono ?_; rw [unhide HLF]; rintro e w' ⟨rfl, rfl⟩) | (go_at_call 71; rw [ext_zero u hu]; refine (hasS_any u[0] _).mono ?_; rw [unhide HSG]; rintro e w' ⟨rfl, rfl⟩) | (at_builtin; refine wpList_append_own _ rfl _ _ 50 rfl w.heap.size 9 i0 (.string ⟨#[]⟩) 1 16 Tryz.underlying50 hi hz0 hz1 hz2 rfl (by decide) _ _ _ rfl (hown.alloc _) ⟨_, 0, none⟩ 1 1 [.string (u.extract 0 1)] rfl rfl (one_new _ _ _) (oneCell_str _) (by unfold maxLen; omega) (by omega) (by simp; omega) ?_))
                      intro v' w1 hown' hgrow _
                      have R := app_one hown hbl hown' hgrow
                      clear hown' hgrow hown hbl
                      go_wp2_with fail
                      go_roundg (u.extract 1 u.size).size
                      case measure => simp; omega
                      case rel => exact ⟨u.extract 1 u.size, ws ++ [u.extract 0 1], rfl, rfl, by simp; omega, by simp; omega, by simpa using R.1, R.2, hgot.out.word hu (unhide HNB) (unhide HWL) (by omega)⟩
                  | false =>
                    have HWL : Hid (wordLen u.data.toList = 0) := hide (by rw [unhide HWS, hsg]; rfl)
                    have HSG := hide hsg
                    clear hsg
                    go_wp2_with (first | (go_at_call 71; rw [ext_one u k hlt]; refine (hasL_any u[k] _).mono ?_; rw [unhide HLF]; rintro e w' ⟨rfl, rfl⟩) | (go_at_call 71; rw [ext_zero u hu]; refine (hasS_any u[0] _).mono ?_; rw [unhide HSG]; rintro e w' ⟨rfl, rfl⟩))
                    all_goals
                      go_ret2
                      exact ⟨hbl, Or.inl ⟨hgot.out.none hu (unhide HNB) (unhide HWL), rfl⟩⟩
    · have hd : decide ((0 : Int) < (u.size : Int)) = false := decide_eq_false (by omega)
      go_wp2_with fail
      go_ret2
      exact ⟨hbl, Or.inr ⟨ws, _, hgot.out.stop (by omega), hown, rfl⟩⟩
end Go.Proofs.YtciihepbeacppaaGreat
