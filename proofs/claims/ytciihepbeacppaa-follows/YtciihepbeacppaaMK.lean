import Derived.Test.YtciihepbeacppaaHA
import Derived.Test.YtciihepbeacppaaMB
import Derived.Test.YtciihepbeacppaaMJ
namespace Go.Proofs.Ytciihepbeacppaa
open Go.RowKit

/-! ### the law's side of Entails -/
/-- what a text is as a formula: its error -/
def foE (l : List UInt8) : Nat := if 240 < l.length then 1 else if spl l = none then 2 else if rfo [] (rrW l) = none then 3 else 0
theorem foE_long {l : List UInt8} (h : 240 < l.length) : foE l = 1 := by unfold foE; rw [if_pos h]
theorem foE_lex {l : List UInt8} (h : ¬ 240 < l.length) (h2 : spl l = none) : foE l = 2 := by unfold foE; rw [if_neg h, if_pos h2]
theorem foE_syn {l : List UInt8} (h : ¬ 240 < l.length) (h2 : spl l ≠ none) (h3 : rfo [] (rrW l) = none) : foE l = 3 := by unfold foE; rw [if_neg h, if_neg h2, if_pos h3]
theorem foE_ok {l : List UInt8} (h : ¬ 240 < l.length) (h2 : spl l ≠ none) (h3 : rfo [] (rrW l) ≠ none) : foE l = 0 := by unfold foE; rw [if_neg h, if_neg h2, if_neg h3]
/-- how formula comes back -/
def FoPost (s : ByteArray) (w : World) (e : Ending) (w' : World) : Prop :=
  Below w.heap.size w w' ∧ ((foE s.data.toList ≠ 0 ∧ e = .returned (.tuple #[.slice none 0 0, .slice none 0 0, .int .i64 (foE s.data.toList)])) ∨
    (foE s.data.toList = 0 ∧ ∃ al av wv, rfo [] (rrW s.data.toList) = some al ∧ e = .returned (.tuple #[av, wv, .int .i64 0]) ∧ w'.ownsRow w.heap.size 46 3 av al.length (raCells al) ∧ w'.ownsRow w.heap.size 9 1 wv (rrW s.data.toList).length ((rrW s.data.toList).map Value.string) ∧ (rrW s.data.toList).length ≤ 240))
theorem FoPost.bad {s : ByteArray} {w w' : World} {n : Nat} (hb : Below w.heap.size w w') (h : foE s.data.toList = n) (hn : n ≠ 0) : FoPost s w (.returned (.tuple #[.slice none 0 0, .slice none 0 0, .int .i64 n])) w' :=
  ⟨hb, Or.inl ⟨by rw [h]; exact hn, by rw [h]⟩⟩

set_option maxRecDepth 100000 in
set_option maxHeartbeats 4000000 in
theorem formula_law (s : ByteArray) (w : World) (hs : s.size ≤ 20000) : Calls Try.prog 10 #[.string s] w fun e w' => FoPost s w e w' := by
  by_cases hlong : 240 < s.size
  · have HE : Hid (foE s.data.toList = 1) := hide (foE_long (by rw [size_toList]; exact hlong))
    go_enter Try.func10, Try.ntmps10
    go_wp2_with fail
    go_ret3
    exact FoPost.bad (Below.refl _ _) (unhide HE) (by decide)
  · have HL : Hid (¬ 240 < s.data.toList.length) := hide (by rw [size_toList]; exact hlong)
    have hd : decide ((240 : Int) < (s.size : Int)) = false := by simp; omega
    go_enter Try.func10, Try.ntmps10
    go_wp2_with fail
    refine (rsplit_any s w hs).mono ?_
    rintro e w1 ⟨hbl, (⟨hnone, rfl⟩ | ⟨ws, v, hsome, hown, rfl⟩)⟩
    · have HE : Hid (foE s.data.toList = 2) := hide (foE_lex (unhide HL) hnone)
      have HB := hide hbl
      clear hnone hbl
      go_wp2_with fail
      go_ret3
      exact FoPost.bad (unhide HB) (unhide HE) (by decide)
    · have HW : Hid (rrW s.data.toList = ws) := hide (rrW_of hsome)
      have HN : Hid (spl s.data.toList ≠ none) := hide (by rw [hsome]; simp)
      have hlen : ws.length ≤ 240 := by
        have h1 := (rsplitF_len _ _ _ hsome).2
        simp only [List.length_map] at h1
        have h2 := unhide HL
        omega
      obtain ⟨a1, c1, hv⟩ := slice_of_own hown
      subst hv
      have HO := hide hown
      have HB := hide hbl
      clear hsome hown hbl
      go_wp2_with fail
      refine (rformula_any (Strs.of_own (unhide HO)) (by omega)).mono ?_
      rintro e w2 ⟨hb2, (⟨hno, rfl⟩ | ⟨al, v2, hal, hown2, rfl⟩)⟩
      · have HE : Hid (foE s.data.toList = 3) := hide (foE_syn (unhide HL) (unhide HN) (by rw [unhide HW]; exact hno))
        have HB2 := hide ((unhide HB).trans (hb2.mono (unhide HB).size))
        clear hno hb2
        go_wp2_with fail
        go_ret3
        exact FoPost.bad (unhide HB2) (unhide HE) (by decide)
      · have HE : Hid (foE s.data.toList = 0) := hide (foE_ok (unhide HL) (unhide HN) (by rw [unhide HW, hal]; simp))
        obtain ⟨a2, c2, hv2⟩ := slice_of_own hown2
        subst hv2
        have HO2 := hide hown2
        have HAL := hide hal
        have HO1 := hide (rowBelow2 (unhide HO) hb2)
        have HB2 := hide ((unhide HB).trans (hb2.mono (unhide HB).size))
        have hsz := (unhide HB).size
        clear hb2 hown2 hal
        go_wp2_with fail
        go_ret3
        refine ⟨unhide HB2, Or.inr ⟨unhide HE, al, _, _, by rw [unhide HW]; exact unhide HAL, rfl, ?_, ?_, by rw [unhide HW]; exact hlen⟩⟩
        · rcases (unhide HO2).2 with h0 | ⟨g, cap, cur, hv, hB, hr⟩
          · exact ⟨(unhide HO2).1, .inl h0⟩
          · exact ⟨(unhide HO2).1, .inr ⟨g, cap, cur, hv, Nat.le_trans hsz hB, hr⟩⟩
        · rw [unhide HW]; exact unhide HO1
end Go.Proofs.Ytciihepbeacppaa

namespace Go.Proofs.Ytciihepbeacppaa
open Go.RowKit

/-- Names that go on from names that there are -/
def nmI (z l : List ByteArray) : Nat → List ByteArray
  | 0 => z
  | k + 1 => addIf (lowB (l[k]?.getD em) && !dotB l k) (nmI z l k) (l[k]?.getD em)
theorem nmI_len (z l : List ByteArray) (k : Nat) : (nmI z l k).length ≤ z.length + k := by
  induction k with
  | zero => simp [nmI]
  | succ k ih => have := addIf_len (lowB (l[k]?.getD em) && !dotB l k) (nmI z l k) (l[k]?.getD em); simp only [nmI]; omega
structure Nm2 (B : Nat) (z : List ByteArray) (w wr : World) (l : List ByteArray) (k : Nat) (v h : Value) : Prop where
  rv : wr.ownsRow B 9 1 v (nmI z l k).length ((nmI z l k).map Value.string)
  rh : wr.ownsRow B 9 1 h (nmH l k).length ((nmH l k).map Value.string)
  ap : ∀ b, v.ownBlock = some b → h.ownBlock ≠ some b
  bl : Below B w wr
  sz : B ≤ w.heap.size

theorem Nm2.same {B : Nat} {z : List ByteArray} {w wr : World} {l : List ByteArray} {k : Nat} {v h : Value} (n : Nm2 B z w wr l k v h) (h1 : nmI z l (k + 1) = nmI z l k) (h2 : nmH l (k + 1) = nmH l k) : Nm2 B z w wr l (k + 1) v h := ⟨by rw [h1]; exact n.rv, by rw [h2]; exact n.rh, n.ap, n.bl, n.sz⟩
theorem Nm2.addV {B : Nat} {z : List ByteArray} {w wr w1 : World} {l : List ByteArray} {k : Nat} {v h : Value} {x : ByteArray} {o : Obj} {g cap : Nat} (n : Nm2 B z w wr l k v h) (h1 : nmI z l (k + 1) = nmI z l k ++ [x]) (h2 : nmH l (k + 1) = nmH l k)
    (hown : w1.ownsRow B 9 1 (.slice (some ⟨g, 0, none⟩) ((nmI z l k).length + 1) cap) ((nmI z l k).length + 1) ((nmI z l k).map Value.string ++ [.string x])) (hg : (wr.alloc o).grownBy w1 v.ownBlock) (hb : some g = v.ownBlock ∨ g = wr.heap.size + 1) :
    Nm2 B z w w1 l (k + 1) (.slice (some ⟨g, 0, none⟩) ((nmI z l k).length + 1) cap) h := by
  have hsz : B ≤ wr.heap.size := Nat.le_trans n.sz n.bl.size
  refine ⟨own_cast hown (by rw [h1]; simp) (by rw [h1]; simp), ?_, ?_, ?_, n.sz⟩
  · rw [h2]
    exact (n.rh.alloc o).kept hg (by
      cases hh : h.ownBlock with
      | none => exact Or.inl rfl
      | some b => exact Or.inr (fun e => n.ap b e.symm hh))
  · intro b hb' hh
    simp [Value.ownBlock] at hb'
    subst hb'
    rcases hb with e | e
    · exact n.ap g e.symm hh
    · have := (n.rh.lt g hh).2; omega
  · exact (n.bl.alloc hsz o).grown hg (by simp; omega) (fun k hk => (n.rv.lt k hk).1)
theorem Nm2.addH {B : Nat} {z : List ByteArray} {w wr w1 : World} {l : List ByteArray} {k : Nat} {v h : Value} {x : ByteArray} {o : Obj} {g cap : Nat} (n : Nm2 B z w wr l k v h) (h1 : nmI z l (k + 1) = nmI z l k) (h2 : nmH l (k + 1) = nmH l k ++ [x])
    (hown : w1.ownsRow B 9 1 (.slice (some ⟨g, 0, none⟩) ((nmH l k).length + 1) cap) ((nmH l k).length + 1) ((nmH l k).map Value.string ++ [.string x])) (hg : (wr.alloc o).grownBy w1 h.ownBlock) (hb : some g = h.ownBlock ∨ g = wr.heap.size + 1) :
    Nm2 B z w w1 l (k + 1) v (.slice (some ⟨g, 0, none⟩) ((nmH l k).length + 1) cap) := by
  have hsz : B ≤ wr.heap.size := Nat.le_trans n.sz n.bl.size
  refine ⟨?_, own_cast hown (by rw [h2]; simp) (by rw [h2]; simp), ?_, ?_, n.sz⟩
  · rw [h1]
    exact (n.rv.alloc o).kept hg (by
      cases hh : v.ownBlock with
      | none => exact Or.inl rfl
      | some b => exact Or.inr (fun e => n.ap b hh e.symm))
  · intro b hv' hh
    simp [Value.ownBlock] at hh
    subst hh
    rcases hb with e | e
    · exact n.ap g hv' e.symm
    · have := (n.rv.lt g hv').2; omega
  · exact (n.bl.alloc hsz o).grown hg (by simp; omega) (fun k hk => (n.rh.lt k hk).1)

set_option maxRecDepth 100000 in
set_option maxHeartbeats 4000000 in
theorem names_from {B : Nat} {z : List ByteArray} {w : World} {v v0 : Value} {l : List ByteArray} (h : StrB B w v l) (hl : l.length ≤ 10000) (hz : z.length ≤ 10000) (h0 : w.ownsRow B 9 1 v0 z.length (z.map Value.string)) (hB : B ≤ w.heap.size) :
    Calls Try.prog 11 #[v, v0, .slice none 0 0] w fun e w' => ∃ vv hv, e = .returned (.tuple #[vv, hv]) ∧ Nm2 B z w w' l l.length vv hv := by
  obtain ⟨i0, hi, hz0, hz1, hz2⟩ := info_parts Try.infoStr
  obtain ⟨ao, cap, rfl, hn, hm, hc⟩ := h
  have HC := hide hc
  obtain ⟨za, zc, hv0⟩ := slice_of_own h0
  subst hv0
  have H0 := hide h0
  clear hc h0
  unfold maxLen at hm
  go_enter Try.func11, Try.ntmps11
  go_wp2_with fail
  go_loopw [1, 2, 8] (fun vv hv i wr => ∃ k : Nat, k ≤ l.length ∧ i = .int .i64 k ∧ Hid (Nm2 B z w wr l k vv hv)) (fun _ _ i _ => l.length - (intOf i).toNat)
  case atStart => exact ⟨0, Nat.zero_le _, rfl, ⟨unhide H0, World.ownsRow_nil _ _ _ _, (fun b _ => by simp [Value.ownBlock]), Below.refl _ _, hB⟩⟩
  case round =>
    obtain ⟨k, hk, rfl, hnm⟩ := hrel
    have hsz : w.heap.size ≤ wr.heap.size := (unhide hnm).bl.size
    by_cases hlt : k < l.length
    · obtain ⟨g, off, hgB, hao, hcell⟩ := unhide HC (by intro h; rw [h] at hlt; simp at hlt)
      have hvl := nmI_len z l k
      have hhl := nmH_len l k
      have hcx : wr.cell? ⟨g, off + k, none⟩ = some (.string l[k]) := by
        rw [(unhide hnm).bl.cell (p := ⟨g, off + k, none⟩) hgB]; exact hcell k hlt
      have hgx : l[k]?.getD em = l[k] := by simp [hlt]
      rw [hao]
      cases k with
      | zero =>
        clear hcell
        rw [Nat.add_zero] at hcx
        cases hlo : lowB l[0] with
        | true =>
          have hup := low_up l[0] hlo
          have hdt : dotB l 0 = false := rfl
          by_cases hol : amI (nmI z l (0)) l[0] < 0
          · skip
            have HV1 : Hid (nmI z l (0 + 1) = nmI z l (0) ++ [l[0]]) := hide (by show addIf _ _ _ = _; rw [hgx]; exact addIf_yes (by simp [hlo, hdt]) hol)
            have HH1 : Hid (nmH l (0 + 1) = nmH l (0)) := hide (by show addIf _ _ _ = _; rw [hgx]; exact addIf_no1 hup)
            clear hgx
            go_wp2_with (first | (go_at_call 20; refine (lower_any _ _).mono ?_; rintro e w' ⟨rfl, rfl⟩) | (go_at_call 21; refine (upper_any _ _).mono ?_; rintro e w' ⟨rfl, rfl⟩))
            refine (among_any _ (Strs.of_own (unhide hnm).rv) (by omega)).mono ?_
            rintro e w' ⟨rfl, rfl⟩
            go_wp2_with fail
            refine (among_any _ (Strs.of_own (unhide hnm).rh) (by omega)).mono ?_
            rintro e w' ⟨rfl, rfl⟩
            go_wp2_with (at_builtin; refine wpList_app1 _ rfl (.tmp 61) (.tmp 66) 28 rfl B 9 i0 (.string ⟨#[]⟩) 1 16 Try.underlying28 hi hz0 hz1 hz2 rfl (by decide) _ (nmI z l (0)).length ((nmI z l (0)).map Value.string) rfl ((unhide hnm).rv.alloc _) ⟨_, 0, none⟩ 1 [.string l[0]] rfl rfl (one_new _ _ _) (oneCell_strJ _) (by omega) (by omega) (by simp; omega) ?_)
            intro g2 cap2 w1 hown2 hgrow2 hblk2
            have HNM := hide ((unhide hnm).addV (unhide HV1) (unhide HH1) hown2 hgrow2 (by simpa using hblk2))
            clear hown2 hgrow2 hblk2
            go_wp2_with fail
            go_roundw
            case rel => exact ⟨0 + 1, by omega, by go_num, HNM⟩
            case measure => simp [intOf]; omega
          · skip
            have HV1 : Hid (nmI z l (0 + 1) = nmI z l (0)) := hide (by show addIf _ _ _ = _; rw [hgx]; exact addIf_no2 hol)
            have HH1 : Hid (nmH l (0 + 1) = nmH l (0)) := hide (by show addIf _ _ _ = _; rw [hgx]; exact addIf_no1 hup)
            clear hgx
            go_wp2_with (first | (go_at_call 20; refine (lower_any _ _).mono ?_; rintro e w' ⟨rfl, rfl⟩) | (go_at_call 21; refine (upper_any _ _).mono ?_; rintro e w' ⟨rfl, rfl⟩))
            refine (among_any _ (Strs.of_own (unhide hnm).rv) (by omega)).mono ?_
            rintro e w' ⟨rfl, rfl⟩
            go_wp2_with fail
            refine (among_any _ (Strs.of_own (unhide hnm).rh) (by omega)).mono ?_
            rintro e w' ⟨rfl, rfl⟩
            go_wp2_with fail
            go_roundw
            case rel => exact ⟨0 + 1, by omega, by go_num, hide ((unhide hnm).same (unhide HV1) (unhide HH1))⟩
            case measure => simp [intOf]; omega
        | false =>
          cases hup : upB l[0] with
          | true =>
            by_cases hkn : amI (nmH l (0)) l[0] < 0
            · skip
              have HV1 : Hid (nmI z l (0 + 1) = nmI z l (0)) := hide (by show addIf _ _ _ = _; rw [hgx]; exact addIf_no1 (by simp [hlo]))
              have HH1 : Hid (nmH l (0 + 1) = nmH l (0) ++ [l[0]]) := hide (by show addIf _ _ _ = _; rw [hgx]; exact addIf_yes hup hkn)
              clear hgx
              go_wp2_with (first | (go_at_call 20; refine (lower_any _ _).mono ?_; rintro e w' ⟨rfl, rfl⟩) | (go_at_call 21; refine (upper_any _ _).mono ?_; rintro e w' ⟨rfl, rfl⟩))
              refine (among_any _ (Strs.of_own (unhide hnm).rv) (by omega)).mono ?_
              rintro e w' ⟨rfl, rfl⟩
              go_wp2_with fail
              refine (among_any _ (Strs.of_own (unhide hnm).rh) (by omega)).mono ?_
              rintro e w' ⟨rfl, rfl⟩
              go_wp2_with (at_builtin; refine wpList_app1 _ rfl (.tmp 73) (.tmp 78) 28 rfl B 9 i0 (.string ⟨#[]⟩) 1 16 Try.underlying28 hi hz0 hz1 hz2 rfl (by decide) _ (nmH l (0)).length ((nmH l (0)).map Value.string) rfl ((unhide hnm).rh.alloc _) ⟨_, 0, none⟩ 1 [.string l[0]] rfl rfl (one_new _ _ _) (oneCell_strJ _) (by omega) (by omega) (by simp; omega) ?_)
              intro g2 cap2 w1 hown2 hgrow2 hblk2
              have HNM := hide ((unhide hnm).addH (unhide HV1) (unhide HH1) hown2 hgrow2 (by simpa using hblk2))
              clear hown2 hgrow2 hblk2
              go_wp2_with fail
              go_roundw
              case rel => exact ⟨0 + 1, by omega, by go_num, HNM⟩
              case measure => simp [intOf]; omega
            · skip
              exact absurd (show amI [] l[0] < 0 by simp [amI]) hkn
          | false =>
            have HV1 : Hid (nmI z l (0 + 1) = nmI z l (0)) := hide (by show addIf _ _ _ = _; rw [hgx]; exact addIf_no1 (by simp [hlo]))
            have HH1 : Hid (nmH l (0 + 1) = nmH l (0)) := hide (by show addIf _ _ _ = _; rw [hgx]; exact addIf_no1 hup)
            clear hgx
            go_wp2_with (first | (go_at_call 20; refine (lower_any _ _).mono ?_; rintro e w' ⟨rfl, rfl⟩) | (go_at_call 21; refine (upper_any _ _).mono ?_; rintro e w' ⟨rfl, rfl⟩))
            refine (among_any _ (Strs.of_own (unhide hnm).rv) (by omega)).mono ?_
            rintro e w' ⟨rfl, rfl⟩
            go_wp2_with fail
            refine (among_any _ (Strs.of_own (unhide hnm).rh) (by omega)).mono ?_
            rintro e w' ⟨rfl, rfl⟩
            go_wp2_with fail
            go_roundw
            case rel => exact ⟨0 + 1, by omega, by go_num, hide ((unhide hnm).same (unhide HV1) (unhide HH1))⟩
            case measure => simp [intOf]; omega
      | succ k' =>
        have hlp : k' < l.length := by omega
        have hcp : wr.cell? ⟨g, off + k', none⟩ = some (.string l[k']) := by
          rw [(unhide hnm).bl.cell (p := ⟨g, off + k', none⟩) hgB]; exact hcell k' hlp
        have hgp : l[k']?.getD em = l[k'] := by simp [hlp]
        clear hcell
        cases hlo : lowB l[k' + 1] with
        | true =>
          have hup := low_up l[k' + 1] hlo
          cases hdo : (l[k'].toList == [46]) with
          | true =>
            have hdt : dotB l (k' + 1) = true := by simp only [dotB, hgp, eqW, dotW_l, hdo]
            have HV1 : Hid (nmI z l (k' + 1 + 1) = nmI z l (k' + 1)) := hide (by show addIf _ _ _ = _; rw [hgx]; exact addIf_no1 (by simp [hdt]))
            have HH1 : Hid (nmH l (k' + 1 + 1) = nmH l (k' + 1)) := hide (by show addIf _ _ _ = _; rw [hgx]; exact addIf_no1 hup)
            clear hgx
            go_wp2_with (first | (go_at_call 20; refine (lower_any _ _).mono ?_; rintro e w' ⟨rfl, rfl⟩) | (go_at_call 21; refine (upper_any _ _).mono ?_; rintro e w' ⟨rfl, rfl⟩))
            refine (among_any _ (Strs.of_own (unhide hnm).rv) (by omega)).mono ?_
            rintro e w' ⟨rfl, rfl⟩
            go_wp2_with fail
            refine (among_any _ (Strs.of_own (unhide hnm).rh) (by omega)).mono ?_
            rintro e w' ⟨rfl, rfl⟩
            go_wp2_with fail
            go_roundw
            case rel => exact ⟨k' + 1 + 1, by omega, by go_num, hide ((unhide hnm).same (unhide HV1) (unhide HH1))⟩
            case measure => simp [intOf]; omega
          | false =>
            have hdt : dotB l (k' + 1) = false := by simp only [dotB, hgp, eqW, dotW_l, hdo]
            by_cases hol : amI (nmI z l (k' + 1)) l[k' + 1] < 0
            · skip
              have HV1 : Hid (nmI z l (k' + 1 + 1) = nmI z l (k' + 1) ++ [l[k' + 1]]) := hide (by show addIf _ _ _ = _; rw [hgx]; exact addIf_yes (by simp [hlo, hdt]) hol)
              have HH1 : Hid (nmH l (k' + 1 + 1) = nmH l (k' + 1)) := hide (by show addIf _ _ _ = _; rw [hgx]; exact addIf_no1 hup)
              clear hgx
              go_wp2_with (first | (go_at_call 20; refine (lower_any _ _).mono ?_; rintro e w' ⟨rfl, rfl⟩) | (go_at_call 21; refine (upper_any _ _).mono ?_; rintro e w' ⟨rfl, rfl⟩))
              refine (among_any _ (Strs.of_own (unhide hnm).rv) (by omega)).mono ?_
              rintro e w' ⟨rfl, rfl⟩
              go_wp2_with fail
              refine (among_any _ (Strs.of_own (unhide hnm).rh) (by omega)).mono ?_
              rintro e w' ⟨rfl, rfl⟩
              go_wp2_with (at_builtin; refine wpList_app1 _ rfl (.tmp 61) (.tmp 66) 28 rfl B 9 i0 (.string ⟨#[]⟩) 1 16 Try.underlying28 hi hz0 hz1 hz2 rfl (by decide) _ (nmI z l (k' + 1)).length ((nmI z l (k' + 1)).map Value.string) rfl ((unhide hnm).rv.alloc _) ⟨_, 0, none⟩ 1 [.string l[k' + 1]] rfl rfl (one_new _ _ _) (oneCell_strJ _) (by omega) (by omega) (by simp; omega) ?_)
              intro g2 cap2 w1 hown2 hgrow2 hblk2
              have HNM := hide ((unhide hnm).addV (unhide HV1) (unhide HH1) hown2 hgrow2 (by simpa using hblk2))
              clear hown2 hgrow2 hblk2
              go_wp2_with fail
              go_roundw
              case rel => exact ⟨k' + 1 + 1, by omega, by go_num, HNM⟩
              case measure => simp [intOf]; omega
            · skip
              have HV1 : Hid (nmI z l (k' + 1 + 1) = nmI z l (k' + 1)) := hide (by show addIf _ _ _ = _; rw [hgx]; exact addIf_no2 hol)
              have HH1 : Hid (nmH l (k' + 1 + 1) = nmH l (k' + 1)) := hide (by show addIf _ _ _ = _; rw [hgx]; exact addIf_no1 hup)
              clear hgx
              go_wp2_with (first | (go_at_call 20; refine (lower_any _ _).mono ?_; rintro e w' ⟨rfl, rfl⟩) | (go_at_call 21; refine (upper_any _ _).mono ?_; rintro e w' ⟨rfl, rfl⟩))
              refine (among_any _ (Strs.of_own (unhide hnm).rv) (by omega)).mono ?_
              rintro e w' ⟨rfl, rfl⟩
              go_wp2_with fail
              refine (among_any _ (Strs.of_own (unhide hnm).rh) (by omega)).mono ?_
              rintro e w' ⟨rfl, rfl⟩
              go_wp2_with fail
              go_roundw
              case rel => exact ⟨k' + 1 + 1, by omega, by go_num, hide ((unhide hnm).same (unhide HV1) (unhide HH1))⟩
              case measure => simp [intOf]; omega
        | false =>
          cases hup : upB l[k' + 1] with
          | true =>
            by_cases hkn : amI (nmH l (k' + 1)) l[k' + 1] < 0
            · skip
              have HV1 : Hid (nmI z l (k' + 1 + 1) = nmI z l (k' + 1)) := hide (by show addIf _ _ _ = _; rw [hgx]; exact addIf_no1 (by simp [hlo]))
              have HH1 : Hid (nmH l (k' + 1 + 1) = nmH l (k' + 1) ++ [l[k' + 1]]) := hide (by show addIf _ _ _ = _; rw [hgx]; exact addIf_yes hup hkn)
              clear hgx
              go_wp2_with (first | (go_at_call 20; refine (lower_any _ _).mono ?_; rintro e w' ⟨rfl, rfl⟩) | (go_at_call 21; refine (upper_any _ _).mono ?_; rintro e w' ⟨rfl, rfl⟩))
              refine (among_any _ (Strs.of_own (unhide hnm).rv) (by omega)).mono ?_
              rintro e w' ⟨rfl, rfl⟩
              go_wp2_with fail
              refine (among_any _ (Strs.of_own (unhide hnm).rh) (by omega)).mono ?_
              rintro e w' ⟨rfl, rfl⟩
              go_wp2_with (at_builtin; refine wpList_app1 _ rfl (.tmp 73) (.tmp 78) 28 rfl B 9 i0 (.string ⟨#[]⟩) 1 16 Try.underlying28 hi hz0 hz1 hz2 rfl (by decide) _ (nmH l (k' + 1)).length ((nmH l (k' + 1)).map Value.string) rfl ((unhide hnm).rh.alloc _) ⟨_, 0, none⟩ 1 [.string l[k' + 1]] rfl rfl (one_new _ _ _) (oneCell_strJ _) (by omega) (by omega) (by simp; omega) ?_)
              intro g2 cap2 w1 hown2 hgrow2 hblk2
              have HNM := hide ((unhide hnm).addH (unhide HV1) (unhide HH1) hown2 hgrow2 (by simpa using hblk2))
              clear hown2 hgrow2 hblk2
              go_wp2_with fail
              go_roundw
              case rel => exact ⟨k' + 1 + 1, by omega, by go_num, HNM⟩
              case measure => simp [intOf]; omega
            · skip
              have HV1 : Hid (nmI z l (k' + 1 + 1) = nmI z l (k' + 1)) := hide (by show addIf _ _ _ = _; rw [hgx]; exact addIf_no1 (by simp [hlo]))
              have HH1 : Hid (nmH l (k' + 1 + 1) = nmH l (k' + 1)) := hide (by show addIf _ _ _ = _; rw [hgx]; exact addIf_no2 hkn)
              clear hgx
              go_wp2_with (first | (go_at_call 20; refine (lower_any _ _).mono ?_; rintro e w' ⟨rfl, rfl⟩) | (go_at_call 21; refine (upper_any _ _).mono ?_; rintro e w' ⟨rfl, rfl⟩))
              refine (among_any _ (Strs.of_own (unhide hnm).rv) (by omega)).mono ?_
              rintro e w' ⟨rfl, rfl⟩
              go_wp2_with fail
              refine (among_any _ (Strs.of_own (unhide hnm).rh) (by omega)).mono ?_
              rintro e w' ⟨rfl, rfl⟩
              go_wp2_with fail
              go_roundw
              case rel => exact ⟨k' + 1 + 1, by omega, by go_num, hide ((unhide hnm).same (unhide HV1) (unhide HH1))⟩
              case measure => simp [intOf]; omega
          | false =>
            have HV1 : Hid (nmI z l (k' + 1 + 1) = nmI z l (k' + 1)) := hide (by show addIf _ _ _ = _; rw [hgx]; exact addIf_no1 (by simp [hlo]))
            have HH1 : Hid (nmH l (k' + 1 + 1) = nmH l (k' + 1)) := hide (by show addIf _ _ _ = _; rw [hgx]; exact addIf_no1 hup)
            clear hgx
            go_wp2_with (first | (go_at_call 20; refine (lower_any _ _).mono ?_; rintro e w' ⟨rfl, rfl⟩) | (go_at_call 21; refine (upper_any _ _).mono ?_; rintro e w' ⟨rfl, rfl⟩))
            refine (among_any _ (Strs.of_own (unhide hnm).rv) (by omega)).mono ?_
            rintro e w' ⟨rfl, rfl⟩
            go_wp2_with fail
            refine (among_any _ (Strs.of_own (unhide hnm).rh) (by omega)).mono ?_
            rintro e w' ⟨rfl, rfl⟩
            go_wp2_with fail
            go_roundw
            case rel => exact ⟨k' + 1 + 1, by omega, by go_num, hide ((unhide hnm).same (unhide HV1) (unhide HH1))⟩
            case measure => simp [intOf]; omega
    · have hd : decide ((k : Int) < (l.length : Int)) = false := by simp; omega
      obtain rfl : k = l.length := by omega
      go_wp2_with fail
      go_ret2
      exact ⟨_, _, rfl, unhide hnm⟩
end Go.Proofs.Ytciihepbeacppaa

namespace Go.Proofs.Ytciihepbeacppaa
open Go.RowKit

/-- the variables of two texts -/
def nm2 (a b : List UInt8) : List ByteArray := nmI (nmV (rrW a) (rrW a).length) (rrW b) (rrW b).length
/-- the error of a pair of formulas -/
def paE (a b : List UInt8) : Nat := if foE a ≠ 0 then foE a else if foE b ≠ 0 then foE b else if 4 < (nm2 a b).length ∨ 8 < (nmH (rrW a) (rrW a).length).length ∨ 8 < (nmH (rrW b) (rrW b).length).length then 4 else 0
def PaPost (s t : ByteArray) (w : World) (e : Ending) (w' : World) : Prop :=
  Below w.heap.size w w' ∧ ((paE s.data.toList t.data.toList ≠ 0 ∧ e = .returned (.tuple #[.slice none 0 0, .slice none 0 0, .slice none 0 0, .int .i64 (paE s.data.toList t.data.toList)])) ∨
    (paE s.data.toList t.data.toList = 0 ∧ ∃ al bl av bv vv, rfo [] (rrW s.data.toList) = some al ∧ rfo [] (rrW t.data.toList) = some bl ∧ e = .returned (.tuple #[av, bv, vv, .int .i64 0]) ∧ w'.ownsRow w.heap.size 46 3 av al.length (raCells al) ∧ w'.ownsRow w.heap.size 46 3 bv bl.length (raCells bl) ∧
      w'.ownsRow w.heap.size 9 1 vv (nm2 s.data.toList t.data.toList).length ((nm2 s.data.toList t.data.toList).map Value.string)))
theorem PaPost.bad {s t : ByteArray} {w w' : World} {n : Nat} (hb : Below w.heap.size w w') (h : paE s.data.toList t.data.toList = n) (hn : n ≠ 0) : PaPost s t w (.returned (.tuple #[.slice none 0 0, .slice none 0 0, .slice none 0 0, .int .i64 n])) w' :=
  ⟨hb, Or.inl ⟨by rw [h]; exact hn, by rw [h]⟩⟩
theorem rowLow {w : World} {B B' : Nat} {e : TypeId} {sz n : Nat} {v : Value} {xs : List Value} (h : w.ownsRow B e sz v n xs) (hb : B' ≤ B) : w.ownsRow B' e sz v n xs := by
  refine ⟨h.1, ?_⟩
  rcases h.2 with h0 | ⟨g, cap, cur, hv, hB, hr⟩
  · exact .inl h0
  · exact .inr ⟨g, cap, cur, hv, Nat.le_trans hb hB, hr⟩
theorem rowUnder {w w' : World} {A B : Nat} {e : TypeId} {sz n : Nat} {v : Value} {xs : List Value} (h : w.ownsRow A e sz v n xs) (hb : Below B w w') (hl : ∀ k, v.ownBlock = some k → k < B) : w'.ownsRow A e sz v n xs :=
  ownsRow_of_eq h (fun k hk => hb.block k (hl k hk))

set_option maxRecDepth 100000 in
set_option maxHeartbeats 4000000 in
theorem paired_law (s t : ByteArray) (w : World) (hs : s.size ≤ 20000) (ht : t.size ≤ 20000) : Calls Try.prog 6 #[.string s, .string t] w fun e w' => PaPost s t w e w' := by
  go_enter Try.func6, Try.ntmps6
  go_wp2_with fail
  refine (formula_law s w hs).mono ?_
  rintro e w1 ⟨hb1, (⟨hne, rfl⟩ | ⟨he, al, av, uv, hal, rfl, hra, hru, hul⟩)⟩
  · obtain ⟨n, hn⟩ : ∃ n, n = foE s.data.toList := ⟨_, rfl⟩
    have HP : Hid (paE s.data.toList t.data.toList = n) := hide (by unfold paE; rw [if_pos hne, hn])
    rw [← hn] at hne ⊢
    have hn0 : ((n : Int) != 0) = true := by rw [bne_iff_ne]; omega
    have HB1 := hide hb1
    have HNE := hide hne
    clear hn hne hb1
    go_wp2_with fail
    exact bodyPost_ret (v := .tuple #[.slice none 0 0, .slice none 0 0, .slice none 0 0, .int .i64 n]) (by simp [results, Try.results6, go_sem]) rfl (PaPost.bad (unhide HB1) (unhide HP) (unhide HNE))
  · obtain ⟨a1, c1, hv⟩ := slice_of_own hra
    obtain ⟨a2, c2, hv2⟩ := slice_of_own hru
    subst hv
    subst hv2
    have HE := hide he
    have HAL := hide hal
    have HRA := hide hra
    have HRU := hide hru
    have HB1 := hide hb1
    have HUL := hide hul
    clear he hal hra hru hb1 hul
    go_wp2_with fail
    refine (formula_law t w1 ht).mono ?_
    rintro e w2 ⟨hb2, (⟨hne, rfl⟩ | ⟨he2, bl, bv, vv, hbl, rfl, hrb, hrv, hvl⟩)⟩
    · obtain ⟨n, hn⟩ : ∃ n, n = foE t.data.toList := ⟨_, rfl⟩
      have HP : Hid (paE s.data.toList t.data.toList = n) := hide (by unfold paE; rw [if_neg (by rw [unhide HE]; simp), if_pos hne, hn])
      rw [← hn] at hne ⊢
      have hn0 : ((n : Int) != 0) = true := by rw [bne_iff_ne]; omega
      have HB2 := hide ((unhide HB1).trans (hb2.mono (unhide HB1).size))
      have HNE := hide hne
      clear hn hne hb2
      go_wp2_with fail
      exact bodyPost_ret (v := .tuple #[.slice none 0 0, .slice none 0 0, .slice none 0 0, .int .i64 n]) (by simp [results, Try.results6, go_sem]) rfl (PaPost.bad (unhide HB2) (unhide HP) (unhide HNE))
    · obtain ⟨a3, c3, hv⟩ := slice_of_own hrb
      obtain ⟨a4, c4, hv2⟩ := slice_of_own hrv
      subst hv
      subst hv2
      have HE2 := hide he2
      have HBL := hide hbl
      have HRB := hide hrb
      have HRV := hide hrv
      have HVL := hide hvl
      have HRA2 := hide (rowBelow2 (unhide HRA) hb2)
      have HRU2 := hide (rowBelow2 (unhide HRU) hb2)
      have HB2 := hide ((unhide HB1).trans (hb2.mono (unhide HB1).size))
      have HB12 := hide hb2
      clear he2 hbl hrb hrv hvl hb2
      go_wp2_with fail
      refine (names_any (Strs.of_own (unhide HRU2)) (by have := unhide HUL; omega)).mono ?_
      rintro e w3 ⟨v5, h5, rfl, hN1⟩
      obtain ⟨a5, c5, hv⟩ := slice_of_own hN1.rv
      obtain ⟨a6, c6, hv2⟩ := slice_of_own hN1.rh
      subst hv
      subst hv2
      have HN1 := hide hN1
      clear hN1
      go_wp2_with fail
      refine (names_from (B := w2.heap.size) (StrB.below (StrB.of (Strs.of_own (unhide HRV))) (unhide HN1).bl) (by have := unhide HVL; omega) (by have := unhide HUL; have := nmV_len (rrW s.data.toList) (rrW s.data.toList).length; omega) (unhide HN1).rv (unhide HN1).bl.size).mono ?_
      rintro e w4 ⟨v7, h7, rfl, hN2⟩
      obtain ⟨a7, c7, hv⟩ := slice_of_own hN2.rv
      obtain ⟨a8, c8, hv2⟩ := slice_of_own hN2.rh
      subst hv
      subst hv2
      have HN2 := hide hN2
      have hs23 : w2.heap.size ≤ w3.heap.size := (unhide HN1).bl.size
      have hb4 : Below w2.heap.size w2 w4 := (unhide HN1).bl.trans hN2.bl
      have HB4 := hide ((unhide HB2).trans (hb4.mono (unhide HB2).size))
      have HB24 := hide hb4
      clear hN2 hb4
      by_cases hV : 4 < (nmI (nmV (rrW s.data.toList) (rrW s.data.toList).length) (rrW t.data.toList) (rrW t.data.toList).length).length
      · have HP : Hid (paE s.data.toList t.data.toList = 4) := hide (by unfold paE nm2; rw [if_neg (by rw [unhide HE]; simp), if_neg (by rw [unhide HE2]; simp), if_pos (Or.inl hV)])
        go_wp2_with fail
        exact bodyPost_ret (v := .tuple #[.slice none 0 0, .slice none 0 0, .slice none 0 0, .int .i64 4]) (by simp [results, Try.results6, go_sem]) rfl (PaPost.bad (n := 4) (unhide HB4) (unhide HP) (by decide))
      · have hd1 : decide ((4 : Int) < (((nmI (nmV (rrW s.data.toList) (rrW s.data.toList).length) (rrW t.data.toList) (rrW t.data.toList).length).length : Nat) : Int)) = false := by simp; omega
        by_cases hH1 : 8 < (nmH (rrW s.data.toList) (rrW s.data.toList).length).length
        · have HP : Hid (paE s.data.toList t.data.toList = 4) := hide (by unfold paE nm2; rw [if_neg (by rw [unhide HE]; simp), if_neg (by rw [unhide HE2]; simp), if_pos (Or.inr (Or.inl hH1))])
          go_wp2_with fail
          exact bodyPost_ret (v := .tuple #[.slice none 0 0, .slice none 0 0, .slice none 0 0, .int .i64 4]) (by simp [results, Try.results6, go_sem]) rfl (PaPost.bad (n := 4) (unhide HB4) (unhide HP) (by decide))
        · have hd2 : decide ((8 : Int) < (((nmH (rrW s.data.toList) (rrW s.data.toList).length).length : Nat) : Int)) = false := by simp; omega
          by_cases hH2 : 8 < (nmH (rrW t.data.toList) (rrW t.data.toList).length).length
          · have HP : Hid (paE s.data.toList t.data.toList = 4) := hide (by unfold paE nm2; rw [if_neg (by rw [unhide HE]; simp), if_neg (by rw [unhide HE2]; simp), if_pos (Or.inr (Or.inr hH2))])
            go_wp2_with fail
            exact bodyPost_ret (v := .tuple #[.slice none 0 0, .slice none 0 0, .slice none 0 0, .int .i64 4]) (by simp [results, Try.results6, go_sem]) rfl (PaPost.bad (n := 4) (unhide HB4) (unhide HP) (by decide))
          · have hd3 : decide ((8 : Int) < (((nmH (rrW t.data.toList) (rrW t.data.toList).length).length : Nat) : Int)) = false := by simp; omega
            have HP : Hid (paE s.data.toList t.data.toList = 0) := hide (by
              unfold paE nm2
              rw [if_neg (by rw [unhide HE]; simp), if_neg (by rw [unhide HE2]; simp), if_neg (by
                rintro (h | h | h)
                · exact hV h
                · exact hH1 h
                · exact hH2 h)])
            go_wp2_with fail
            have h12 := (unhide HB12).size
            have h01 := (unhide HB1).size
            refine bodyPost_ret (v := .tuple #[.slice a1 al.length c1, .slice a3 bl.length c3, .slice a7 (nmI (nmV (rrW s.data.toList) (rrW s.data.toList).length) (rrW t.data.toList) (rrW t.data.toList).length).length c7, .int .i64 0]) (by simp [results, Try.results6, go_sem]) rfl ⟨unhide HB4, Or.inr ⟨unhide HP, al, bl, _, _, _, unhide HAL, unhide HBL, rfl, ?_, ?_, ?_⟩⟩
            · exact rowUnder (unhide HRA2) (unhide HB24) (fun k hk => ((unhide HRA2).lt k hk).2)
            · exact rowLow (rowUnder (unhide HRB) (unhide HB24) (fun k hk => ((unhide HRB).lt k hk).2)) h01
            · exact rowLow (unhide HN2).rv (by omega)
end Go.Proofs.Ytciihepbeacppaa

namespace Go.Proofs.Ytciihepbeacppaa
open Go.RowKit

/-- a store and cells -/
structure Hp (vs ad nx : List Int) : Prop where
  sv : ∀ v ∈ vs, 0 ≤ v ∧ v ≤ 1048576
  sa : ∀ v ∈ ad, 0 < v ∧ v ≤ 1048576
  sn : ∀ v ∈ nx, 0 ≤ v ∧ v ≤ 1048576
  up : ad.Pairwise (· < ·)
  ln : nx.length = ad.length
/-- what Entails is to answer -/
def EntP (a c : List UInt8) (y : Bool) (n : Nat) : Prop :=
  (paE a c ≠ 0 → n = paE a c ∧ y = false) ∧
  (paE a c = 0 → (n = 0 ∨ (n = 7 ∧ y = false)) ∧ ∀ al bl vs ad nx, rfo [] (rrW a) = some al → rfo [] (rrW c) = some bl → vs.length = (nm2 a c).length → Hp vs ad nx →
    hold ad nx (nm2 a c) vs al = true → n = 0 ∧ (y = true → hold ad nx (nm2 a c) vs bl = true))

set_option maxRecDepth 100000 in
set_option maxHeartbeats 8000000 in
theorem entailed_bad {s t : ByteArray} {stv cev : Value} (w : World) (hs : s.size ≤ 20000) (ht : t.size ≤ 20000) (h0 : paE s.data.toList t.data.toList ≠ 0)
    (HEnt : ∀ w, Calls Try.prog 5 #[.string s, .string t] w fun e w' => ∃ (y : Bool) (n : Nat), e = .returned (.tuple #[.bool y, .int .i64 n]) ∧ Below w.heap.size w w' ∧ EntP s.data.toList t.data.toList y n) :
    Calls Try.prog 4 #[.string s, .string t, stv, cev] w fun e w' => e = .returned (.bool true) ∧ Below w.heap.size w w' := by
  have HE := hide HEnt
  have H0 := hide h0
  obtain ⟨p, hp⟩ : ∃ p, p = paE s.data.toList t.data.toList := ⟨_, rfl⟩
  have HP := hide hp
  have hp0 : ((p : Int) != 0) = true := by rw [bne_iff_ne]; omega
  have hpp : ((p : Int) == (p : Int)) = true := by simp
  clear HEnt h0 hp
  go_enter Try.func4, Try.ntmps4
  go_wp2_with fail
  refine (unhide HE w).mono ?_
  rintro e w1 ⟨y, n, rfl, hb1, hE⟩
  obtain ⟨rfl, rfl⟩ := hE.1 (unhide H0)
  have HB1 := hide hb1
  rw [← unhide HP]
  clear hb1 hE
  go_wp2_with fail
  refine (paired_law s t w1 hs ht).mono ?_
  rintro e w2 ⟨hb2, (⟨_, rfl⟩ | ⟨hz, _⟩)⟩
  · have HB2 := hide ((unhide HB1).trans (hb2.mono (unhide HB1).size))
    rw [← unhide HP]
    clear hb2
    go_wp2_with fail
    go_ret
    exact ⟨rfl, unhide HB2⟩
  · exact absurd hz (unhide H0)
end Go.Proofs.Ytciihepbeacppaa
