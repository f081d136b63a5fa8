import Derived.Test.YtciihepbeacppaaRH
namespace Go.Proofs.Ytciihepbeacppaa
open Go.RowKit

theorem rowBelow2 {w w' : World} {B : Nat} {e : TypeId} {sz n : Nat} {v : Value} {xs : List Value} (h : w.ownsRow B e sz v n xs) (hb : Below w.heap.size w w') : w'.ownsRow B e sz v n xs := by
  refine ⟨h.1, ?_⟩
  rcases h.2 with hn | ⟨g, cap, cur, rfl, hB, hg, rest⟩
  · exact .inl hn
  · exact .inr ⟨g, cap, cur, rfl, hB, by rw [hb.block g (Array.getElem?_eq_some_iff.1 hg).1]; exact hg, rest⟩
theorem rapp {W w' w1 : World} {e : TypeId} {sz n : Nat} {v : Value} {xs : List Value} {o o' : Obj} (hown : w'.ownsRow W.heap.size e sz v n xs) (hbl : Below W.heap.size W w') (hg : ((w'.alloc o).alloc o').grownBy w1 v.ownBlock) : Below W.heap.size W w1 :=
  ((hbl.alloc hbl.size o).alloc (by have := hbl.size; simp; omega) o').grown hg (by have := hbl.size; simp; omega) (fun k hk => (hown.lt k hk).1)

set_option maxRecDepth 100000 in
set_option maxHeartbeats 4000000 in
theorem rformula_some {w : World} {l : List ByteArray} {g off cap : Nat} (h : Strs w (.slice (some ⟨g, off, none⟩) l.length cap) l) (hne : l ≠ []) (hl : l.length ≤ 20000) :
    Calls Try.prog 19 #[.slice (some ⟨g, off, none⟩) l.length cap] w fun e w' => Below w.heap.size w w' ∧
      ((rfo [] l = none ∧ e = .returned (.tuple #[.slice none 0 0, .bool false])) ∨ ∃ al v, rfo [] l = some al ∧ w'.ownsRow w.heap.size 46 3 v al.length (raCells al) ∧ e = .returned (.tuple #[v, .bool true])) := by
  obtain ⟨i0, hi, hz0, hz1, hz2⟩ := info_parts Try.infoRAt
  have HST := hide h
  obtain ⟨ao, cap', hv, hn, hm, hc⟩ := h
  simp only [Value.slice.injEq] at hv
  obtain ⟨rfl, _, rfl⟩ := hv
  have hcell : ∀ j, (hj : j < l.length) → w.cell? ⟨g, off + j, none⟩ = some (.string l[j]) := by
    obtain ⟨g', off', hao, hcell⟩ := hc hne
    simp only [Option.some.injEq, Addr.mk.injEq] at hao
    obtain ⟨rfl, rfl, _⟩ := hao
    exact hcell
  have HC := hide hcell
  clear hc hcell
  unfold maxLen at hm
  obtain ⟨n, hnl⟩ : ∃ n, n = l.length := ⟨_, rfl⟩
  have HNL := hide hnl
  rw [← hnl] at hn hl HST ⊢
  clear hnl hne
  go_enter Try.func19, Try.ntmps19
  go_wp2_with fail
  go_loopw [4, 5, 6] (fun out fr i wr => ∃ (k f : Nat) (al : List RAt), i = .int .i64 k ∧ fr = .int .i64 f ∧ k ≤ n + 1 ∧ f ≤ k ∧ al.length ≤ k ∧ wr.ownsRow w.heap.size 46 3 out al.length (raCells al) ∧ Below w.heap.size w wr ∧ Hid (FoAt l k f al)) (fun _ _ i _ => n + 1 - (intOf i).toNat)
  case atStart => exact ⟨0, 0, [], rfl, rfl, Nat.zero_le _, Nat.le_refl _, Nat.le_refl _, World.ownsRow_nil _ _ _ _, Below.refl _ _, FoAt.start l⟩
  case round =>
    obtain ⟨k, f, al, rfl, rfl, hkn, hfk, hak, hown, hbl, hfo⟩ := hrel
    have hsz := hbl.size
    by_cases hle : k ≤ n
    · by_cases hcont : ∃ hlt : k < l.length, eqW l[k] starW = false
      · obtain ⟨hlt, hx⟩ := hcont
        have hlt' : k < n := by rw [unhide HNL]; exact hlt
        have hcx : wr.cell? ⟨g, off + k, none⟩ = some (.string l[k]) := by
          rw [hbl.cell (World.block_lt_of_cell? w _ (unhide HC k hlt))]; exact unhide HC k hlt
        have hx' : (l[k].toList == [42]) = false := by rw [← starW_l]; exact hx
        go_wp2_with fail
        go_roundw
        case rel => exact ⟨k + 1, f, al, by go_num, rfl, by omega, by omega, by omega, hown, hbl, hfo.out.word hlt hx⟩
        case measure => simp [intOf]; omega
      · have HX : Hid ((hk : k < l.length) → eqW l[k] starW = true) := hide (fun hk => by
          cases hx : eqW l[k] starW with
          | true => rfl
          | false => exact absurd ⟨hk, hx⟩ hcont)
        clear hcont
        have hle' : k ≤ l.length := by rw [← unhide HNL]; exact hle
        have HP : ∀ a, (f < cap → a = some ⟨g, off + f, none⟩) → Hid (Strs wr (.slice a (k - f) (cap - f)) ((l.drop f).take (k - f))) := fun a ha => hide (((unhide HST).part rfl f k hfk hle' a (fun g' off' e hlt => by simp only [Option.some.injEq, Addr.mk.injEq] at e; obtain ⟨rfl, rfl, _⟩ := e; exact ha hlt)).below hbl)
        cases hrb : raB ((l.drop f).take (k - f)) with
        | false =>
          have HRB := hide hrb
          have HN : Hid (rfo [] l = none) := hide (hfo.out.bad hle' (unhide HX) hrb)
          clear hrb
          by_cases hlt : k < n
          · skip
            have hltl : k < l.length := by rw [← unhide HNL]; exact hlt
            have hx' : (l[k].toList == [42]) = true := by rw [← starW_l]; exact unhide HX hltl
            have hcx : wr.cell? ⟨g, off + k, none⟩ = some (.string l[k]) := by
              rw [hbl.cell (World.block_lt_of_cell? w _ (unhide HC k hltl))]; exact unhide HC k hltl
            have hfc : ¬ cap = f := by omega
            have hat := ratom_any (unhide (HP (some ⟨g, off + f, none⟩) (fun _ => rfl)))
            rw [unhide HRB] at hat
            have HAT := hide hat
            clear hat
            go_wp2_with fail
            refine (unhide HAT).mono ?_
            rintro e w2 ⟨⟨⟨x, y, z⟩, m, rfl, hra⟩, hb2⟩
            have HRA := hide hra
            have HB2 := hide hb2
            clear hra hb2
            simp only [RAt.cells]
            go_wp2_with fail
            go_ret2
            exact ⟨(hbl.trans ((unhide HB2).mono hsz)).alloc (by have := (unhide HB2).size; omega) _, Or.inl ⟨unhide HN, rfl⟩⟩
          · have hd : decide ((k : Int) < (n : Int)) = false := by simp; omega
            by_cases hfc : cap = f
            · obtain ⟨rfl, rfl, rfl⟩ : f = k ∧ cap = k ∧ n = k := ⟨by omega, by omega, by omega⟩
              have hat := ratom_any (w := wr) (v := .slice (some ⟨g, off, none⟩) 0 0) (l := []) ⟨_, _, rfl, Nat.le_refl _, by decide, fun h => absurd rfl h⟩
              rw [show raB [] = false from rfl] at hat
              have HAT := hide hat
              clear hat HP HRB
              go_wp2_with fail
              refine (unhide HAT).mono ?_
              rintro e w2 ⟨⟨⟨x, y, z⟩, m, rfl, hra⟩, hb2⟩
              have HB2 := hide hb2
              clear hra hb2
              simp only [RAt.cells]
              go_wp2_with fail
              go_ret2
              exact ⟨(hbl.trans ((unhide HB2).mono hsz)).alloc (by have := (unhide HB2).size; omega) _, Or.inl ⟨unhide HN, rfl⟩⟩
            · skip
              have hat := ratom_any (unhide (HP (some ⟨g, off + f, none⟩) (fun _ => rfl)))
              rw [unhide HRB] at hat
              have HAT := hide hat
              clear hat
              go_wp2_with fail
              refine (unhide HAT).mono ?_
              rintro e w2 ⟨⟨⟨x, y, z⟩, m, rfl, hra⟩, hb2⟩
              have HRA := hide hra
              have HB2 := hide hb2
              clear hra hb2
              simp only [RAt.cells]
              go_wp2_with fail
              go_ret2
              exact ⟨(hbl.trans ((unhide HB2).mono hsz)).alloc (by have := (unhide HB2).size; omega) _, Or.inl ⟨unhide HN, rfl⟩⟩
        | true =>
          have HRB := hide hrb
          have HG : Hid (FoAt l (k + 1) (k + 1) (al ++ pce ((l.drop f).take (k - f)))) := hide (hfo.out.good hle' (unhide HX) hrb)
          clear hrb hfo
          by_cases hlt : k < n
          · skip
            have hltl : k < l.length := by rw [← unhide HNL]; exact hlt
            have hx' : (l[k].toList == [42]) = true := by rw [← starW_l]; exact unhide HX hltl
            have hcx : wr.cell? ⟨g, off + k, none⟩ = some (.string l[k]) := by
              rw [hbl.cell (World.block_lt_of_cell? w _ (unhide HC k hltl))]; exact unhide HC k hltl
            have hfc : ¬ cap = f := by omega
            have hat := ratom_any (unhide (HP (some ⟨g, off + f, none⟩) (fun _ => rfl)))
            rw [unhide HRB] at hat
            have HAT := hide hat
            clear hat
            go_wp2_with fail
            refine (unhide HAT).mono ?_
            rintro e w2 ⟨⟨⟨x, y, z⟩, m, rfl, hra⟩, hb2⟩
            have HRA := hide hra
            have HB2 := hide hb2
            clear hra hb2
            simp only [RAt.cells]
            obtain ⟨hra1, hra2⟩ := unhide HRA trivial
            have hz2w := (unhide HB2).size
            cases m with
            | true =>
              have HP0 : Hid (pce ((l.drop f).take (k - f)) = []) := hide (by unfold pce; rw [← hra2]; rfl)
              clear hra1 hra2
              go_wp2_with fail
              go_roundw
              case rel => exact ⟨k + 1, k + 1, al, by go_num, by go_num, by omega, Nat.le_refl _, by omega, (rowBelow2 hown (unhide HB2)).alloc _, (hbl.trans ((unhide HB2).mono hsz)).alloc (by omega) _, by have := unhide HG; rw [unhide HP0, List.append_nil] at this; exact this⟩
              case measure => simp [intOf]; omega
            | false =>
              have HP0 : Hid (pce ((l.drop f).take (k - f)) = [⟨x, y, z⟩]) := hide (by unfold pce; rw [← hra2, ← hra1]; rfl)
              have hown2 := (rowBelow2 hown (unhide HB2))
              have hbl2 := hbl.trans ((unhide HB2).mono hsz)
              clear hra1 hra2
              go_wp2_with (at_builtin; refine wpList_append_own _ rfl (.tmp 40) (.tmp 42) 27 rfl w.heap.size 46 i0 _ 3 48 Try.underlying27 hi hz0 hz1 hz2 rfl (by decide) _ al.length (raCells al) rfl ((hown2.alloc _).alloc _) ⟨_, 0, none⟩ 1 1 [.string x, .string y, .string z] rfl rfl (new_cellsR (w2.alloc _) _ (by simp) [.string x, .string y, .string z] _) (RAt.one ⟨x, y, z⟩) (by unfold maxLen; omega) (by omega) (by simp; omega) ?_)
              intro v' w3 hown3 hgrow3 _
              have R := rapp hown2 hbl2 hgrow3
              have HO3 := hide hown3
              have HR := hide R
              clear hown3 hgrow3 R
              go_wp2_with fail
              go_roundw
              case rel => exact ⟨k + 1, k + 1, al ++ [⟨x, y, z⟩], by go_num, by go_num, by omega, Nat.le_refl _, by simp; omega, own_cast (unhide HO3) (by simp) (by rw [raCells_snoc]; rfl), unhide HR, by have := unhide HG; rw [unhide HP0] at this; exact this⟩
              case measure => simp [intOf]; omega
          · have hd : decide ((k : Int) < (n : Int)) = false := by simp; omega
            by_cases hfc : cap = f
            · have hkf : k - f = 0 := by omega
              have hx := unhide HRB
              rw [hkf, List.take_zero] at hx
              cases hx
            · skip
              have hat := ratom_any (unhide (HP (some ⟨g, off + f, none⟩) (fun _ => rfl)))
              rw [unhide HRB] at hat
              have HAT := hide hat
              clear hat
              go_wp2_with fail
              refine (unhide HAT).mono ?_
              rintro e w2 ⟨⟨⟨x, y, z⟩, m, rfl, hra⟩, hb2⟩
              have HRA := hide hra
              have HB2 := hide hb2
              clear hra hb2
              simp only [RAt.cells]
              obtain ⟨hra1, hra2⟩ := unhide HRA trivial
              have hz2w := (unhide HB2).size
              cases m with
              | true =>
                have HP0 : Hid (pce ((l.drop f).take (k - f)) = []) := hide (by unfold pce; rw [← hra2]; rfl)
                clear hra1 hra2
                go_wp2_with fail
                go_roundw
                case rel => exact ⟨k + 1, k + 1, al, by go_num, by go_num, by omega, Nat.le_refl _, by omega, (rowBelow2 hown (unhide HB2)).alloc _, (hbl.trans ((unhide HB2).mono hsz)).alloc (by omega) _, by have := unhide HG; rw [unhide HP0, List.append_nil] at this; exact this⟩
                case measure => simp [intOf]; omega
              | false =>
                have HP0 : Hid (pce ((l.drop f).take (k - f)) = [⟨x, y, z⟩]) := hide (by unfold pce; rw [← hra2, ← hra1]; rfl)
                have hown2 := (rowBelow2 hown (unhide HB2))
                have hbl2 := hbl.trans ((unhide HB2).mono hsz)
                clear hra1 hra2
                go_wp2_with (at_builtin; refine wpList_append_own _ rfl (.tmp 40) (.tmp 42) 27 rfl w.heap.size 46 i0 _ 3 48 Try.underlying27 hi hz0 hz1 hz2 rfl (by decide) _ al.length (raCells al) rfl ((hown2.alloc _).alloc _) ⟨_, 0, none⟩ 1 1 [.string x, .string y, .string z] rfl rfl (new_cellsR (w2.alloc _) _ (by simp) [.string x, .string y, .string z] _) (RAt.one ⟨x, y, z⟩) (by unfold maxLen; omega) (by omega) (by simp; omega) ?_)
                intro v' w3 hown3 hgrow3 _
                have R := rapp hown2 hbl2 hgrow3
                have HO3 := hide hown3
                have HR := hide R
                clear hown3 hgrow3 R
                go_wp2_with fail
                go_roundw
                case rel => exact ⟨k + 1, k + 1, al ++ [⟨x, y, z⟩], by go_num, by go_num, by omega, Nat.le_refl _, by simp; omega, own_cast (unhide HO3) (by simp) (by rw [raCells_snoc]; rfl), unhide HR, by have := unhide HG; rw [unhide HP0] at this; exact this⟩
                case measure => simp [intOf]; omega
    · have hd : decide ((k : Int) ≤ (n : Int)) = false := by simp; omega
      go_wp2_with fail
      go_ret2
      exact ⟨hbl, Or.inr ⟨al, _, hfo.out.stop (by rw [← unhide HNL]; exact hle), hown, rfl⟩⟩

set_option maxRecDepth 100000 in
set_option maxHeartbeats 400000 in
theorem rformula_nil {w : World} {ao : Option Addr} {cap : Nat} (hm : cap ≤ maxLen) :
    Calls Try.prog 19 #[.slice ao 0 cap] w fun e w' => Below w.heap.size w w' ∧ e = .returned (.tuple #[.slice none 0 0, .bool false]) := by
  have hat : ∀ a c, c ≤ maxLen → Hid (Calls Try.prog 37 #[.slice a 0 c] w fun e w' => (∃ (i : RAt) (m : Bool), e = .returned (.tuple #[.agg i.cells.toArray, .bool m, .bool false]) ∧ (false = true → i = raA [] ∧ m = raE [])) ∧ Below w.heap.size w w') :=
    fun a c hc => hide (ratom_any (w := w) (v := .slice a 0 c) (l := []) ⟨_, _, rfl, Nat.zero_le _, hc, fun h => absurd rfl h⟩)
  unfold maxLen at hm
  have HAT := fun a => hat a cap hm
  clear hat
  go_enter Try.func19, Try.ntmps19
  go_wp2_with fail
  go_loopw [4, 5, 6] (fun out fr i wr => out = .slice none 0 0 ∧ fr = .int .i64 0 ∧ i = .int .i64 0 ∧ wr = w) (fun _ _ _ _ => 0)
  case atStart => exact ⟨rfl, rfl, rfl, rfl⟩
  case round =>
    obtain ⟨rfl, rfl, rfl, rfl⟩ := hrel
    go_wp2_with fail
    all_goals
      refine (unhide (HAT _)).mono ?_
      rintro e w2 ⟨⟨⟨x, y, z⟩, m, rfl, _⟩, hb2⟩
      have HB2 := hide hb2
      clear hb2 HAT
      simp only [RAt.cells]
      go_wp2_with fail
      go_ret2
      exact ⟨(unhide HB2).alloc (unhide HB2).size _, rfl⟩

theorem rformula_any {w : World} {v : Value} {l : List ByteArray} (h : Strs w v l) (hl : l.length ≤ 20000) :
    Calls Try.prog 19 #[v] w fun e w' => Below w.heap.size w w' ∧
      ((rfo [] l = none ∧ e = .returned (.tuple #[.slice none 0 0, .bool false])) ∨ ∃ al v, rfo [] l = some al ∧ w'.ownsRow w.heap.size 46 3 v al.length (raCells al) ∧ e = .returned (.tuple #[v, .bool true])) := by
  by_cases hne : l = []
  · subst hne
    obtain ⟨ao, cap, rfl, _, hm, _⟩ := h
    refine (rformula_nil hm).mono ?_
    rintro e w' ⟨hb, rfl⟩
    exact ⟨hb, Or.inl ⟨rfl, rfl⟩⟩
  · have h' := h
    obtain ⟨ao, cap, rfl, hn, hm, hc⟩ := h
    obtain ⟨g, off, rfl, _⟩ := hc hne
    exact rformula_some h' hne hl
end Go.Proofs.Ytciihepbeacppaa
