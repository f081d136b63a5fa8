import Derived.Test.YtciihepbeacppaaWN
import Derived.Test.YtciihepbeacppaaRG
namespace Go.Proofs.Ytciihepbeacppaa
open Go.RowKit

/-- behind a full stop? -/
def dotB (l : List ByteArray) : Nat → Bool
  | 0 => false
  | k + 1 => eqW (l[k]?.getD em) dotW
def addIf (c : Bool) (v : List ByteArray) (x : ByteArray) : List ByteArray := if c && decide (amI v x < 0) then v ++ [x] else v
/-- Names: the variables, the hidden names of the first k words -/
def nmV (l : List ByteArray) : Nat → List ByteArray
  | 0 => []
  | k + 1 => addIf (lowB (l[k]?.getD em) && !dotB l k) (nmV l k) (l[k]?.getD em)
def nmH (l : List ByteArray) : Nat → List ByteArray
  | 0 => []
  | k + 1 => addIf (upB (l[k]?.getD em)) (nmH l k) (l[k]?.getD em)
theorem addIf_yes {c : Bool} {v : List ByteArray} {x : ByteArray} (h : c = true) (h2 : amI v x < 0) : addIf c v x = v ++ [x] := by unfold addIf; rw [if_pos (by simp [h, h2])]
theorem addIf_no1 {c : Bool} {v : List ByteArray} {x : ByteArray} (h : c = false) : addIf c v x = v := by unfold addIf; rw [if_neg (by simp [h])]
theorem addIf_no2 {c : Bool} {v : List ByteArray} {x : ByteArray} (h2 : ¬ amI v x < 0) : addIf c v x = v := by unfold addIf; rw [if_neg (by simp; omega)]
theorem addIf_len (c : Bool) (v : List ByteArray) (x : ByteArray) : (addIf c v x).length ≤ v.length + 1 := by unfold addIf; split <;> simp
theorem nmV_len (l : List ByteArray) (k : Nat) : (nmV l k).length ≤ k := by
  induction k with
  | zero => simp [nmV]
  | succ k ih => have := addIf_len (lowB (l[k]?.getD em) && !dotB l k) (nmV l k) (l[k]?.getD em); simp only [nmV]; omega
theorem nmH_len (l : List ByteArray) (k : Nat) : (nmH l k).length ≤ k := by
  induction k with
  | zero => simp [nmH]
  | succ k ih => have := addIf_len (upB (l[k]?.getD em)) (nmH l k) (l[k]?.getD em); simp only [nmH]; omega
theorem low_up (x : ByteArray) (h : lowB x = true) : upB x = false := by
  obtain ⟨c, rfl⟩ := one_of_size x (by
    by_cases hs : x.size = 1
    · exact hs
    · rw [lowB_not x hs] at h; cases h)
  rw [lowB_one] at h
  rw [upB_one]
  simp only [smallB, greatB] at *
  simp at h ⊢
  omega

theorem oneCell_strJ (x : ByteArray) : ∀ u ∈ [Value.string x], u.oneCell' = true := by intro u hu; simp at hu; subst hu; rfl
structure Nm (w wr : World) (l : List ByteArray) (k : Nat) (v h : Value) : Prop where
  rv : wr.ownsRow w.heap.size 9 1 v (nmV l k).length ((nmV l k).map Value.string)
  rh : wr.ownsRow w.heap.size 9 1 h (nmH l k).length ((nmH l k).map Value.string)
  ap : ∀ b, v.ownBlock = some b → h.ownBlock ≠ some b
  bl : Below w.heap.size w wr

theorem Nm.same {w wr : World} {l : List ByteArray} {k : Nat} {v h : Value} (n : Nm w wr l k v h) (h1 : nmV l (k + 1) = nmV l k) (h2 : nmH l (k + 1) = nmH l k) : Nm w wr l (k + 1) v h := ⟨by rw [h1]; exact n.rv, by rw [h2]; exact n.rh, n.ap, n.bl⟩
theorem Nm.addV {w wr w1 : World} {l : List ByteArray} {k : Nat} {v h : Value} {x : ByteArray} {o : Obj} {g cap : Nat} (n : Nm w wr l k v h) (h1 : nmV l (k + 1) = nmV l k ++ [x]) (h2 : nmH l (k + 1) = nmH l k)
    (hown : w1.ownsRow w.heap.size 9 1 (.slice (some ⟨g, 0, none⟩) ((nmV l k).length + 1) cap) ((nmV l k).length + 1) ((nmV l k).map Value.string ++ [.string x])) (hg : (wr.alloc o).grownBy w1 v.ownBlock) (hb : some g = v.ownBlock ∨ g = wr.heap.size + 1) :
    Nm w w1 l (k + 1) (.slice (some ⟨g, 0, none⟩) ((nmV l k).length + 1) cap) h := by
  have hsz := n.bl.size
  refine ⟨own_cast hown (by rw [h1]; simp) (by rw [h1]; simp), ?_, ?_, ?_⟩
  · rw [h2]
    exact (n.rh.alloc o).kept hg (by
      cases hh : h.ownBlock with
      | none => exact Or.inl rfl
      | some b => exact Or.inr (fun e => n.ap b e.symm hh))
  · intro b hb' hh
    simp [Value.ownBlock] at hb'
    subst hb'
    rcases hb with e | e
    · exact n.ap g e.symm hh
    · have := (n.rh.lt g hh).2; omega
  · exact (n.bl.alloc hsz o).grown hg (by simp; omega) (fun k hk => (n.rv.lt k hk).1)
theorem Nm.addH {w wr w1 : World} {l : List ByteArray} {k : Nat} {v h : Value} {x : ByteArray} {o : Obj} {g cap : Nat} (n : Nm w wr l k v h) (h1 : nmV l (k + 1) = nmV l k) (h2 : nmH l (k + 1) = nmH l k ++ [x])
    (hown : w1.ownsRow w.heap.size 9 1 (.slice (some ⟨g, 0, none⟩) ((nmH l k).length + 1) cap) ((nmH l k).length + 1) ((nmH l k).map Value.string ++ [.string x])) (hg : (wr.alloc o).grownBy w1 h.ownBlock) (hb : some g = h.ownBlock ∨ g = wr.heap.size + 1) :
    Nm w w1 l (k + 1) v (.slice (some ⟨g, 0, none⟩) ((nmH l k).length + 1) cap) := by
  have hsz := n.bl.size
  refine ⟨?_, own_cast hown (by rw [h2]; simp) (by rw [h2]; simp), ?_, ?_⟩
  · rw [h1]
    exact (n.rv.alloc o).kept hg (by
      cases hh : v.ownBlock with
      | none => exact Or.inl rfl
      | some b => exact Or.inr (fun e => n.ap b hh e.symm))
  · intro b hv' hh
    simp [Value.ownBlock] at hh
    subst hh
    rcases hb with e | e
    · exact n.ap g hv' e.symm
    · have := (n.rv.lt g hv').2; omega
  · exact (n.bl.alloc hsz o).grown hg (by simp; omega) (fun k hk => (n.rh.lt k hk).1)

set_option maxRecDepth 100000 in
set_option maxHeartbeats 4000000 in
theorem names_any {w : World} {v : Value} {l : List ByteArray} (h : Strs w v l) (hl : l.length ≤ 20000) :
    Calls Try.prog 11 #[v, .slice none 0 0, .slice none 0 0] w fun e w' => ∃ vv hv, e = .returned (.tuple #[vv, hv]) ∧ Nm w w' l l.length vv hv := by
  obtain ⟨i0, hi, hz0, hz1, hz2⟩ := info_parts Try.infoStr
  obtain ⟨ao, cap, rfl, hn, hm, hc⟩ := h
  have HC := hide hc
  clear hc
  unfold maxLen at hm
  go_enter Try.func11, Try.ntmps11
  go_wp2_with fail
  go_loopw [1, 2, 8] (fun vv hv i wr => ∃ k : Nat, k ≤ l.length ∧ i = .int .i64 k ∧ Hid (Nm w wr l k vv hv)) (fun _ _ i _ => l.length - (intOf i).toNat)
  case atStart => exact ⟨0, Nat.zero_le _, rfl, ⟨World.ownsRow_nil _ _ _ _, World.ownsRow_nil _ _ _ _, (fun b hb => by simp [Value.ownBlock] at hb), Below.refl _ _⟩⟩
  case round =>
    obtain ⟨k, hk, rfl, hnm⟩ := hrel
    have hsz := (unhide hnm).bl.size
    by_cases hlt : k < l.length
    · obtain ⟨g, off, hao, hcell⟩ := unhide HC (by intro h; rw [h] at hlt; simp at hlt)
      have hvl := nmV_len l k
      have hhl := nmH_len l k
      have hcx : wr.cell? ⟨g, off + k, none⟩ = some (.string l[k]) := by
        rw [(unhide hnm).bl.cell (World.block_lt_of_cell? w _ (hcell k hlt))]; exact hcell k hlt
      have hgx : l[k]?.getD em = l[k] := by simp [hlt]
      rw [hao]
      cases k with
      | zero =>
        clear hcell
        rw [Nat.add_zero] at hcx
        cases hlo : lowB l[0] with
        | true =>
          have hup := low_up l[0] hlo
          have hdt : dotB l 0 = false := rfl
          by_cases hol : amI (nmV l (0)) l[0] < 0
          · skip
            have HV1 : Hid (nmV l (0 + 1) = nmV l (0) ++ [l[0]]) := hide (by show addIf _ _ _ = _; rw [hgx]; exact addIf_yes (by simp [hlo, hdt]) hol)
            have HH1 : Hid (nmH l (0 + 1) = nmH l (0)) := hide (by show addIf _ _ _ = _; rw [hgx]; exact addIf_no1 hup)
            clear hgx
            go_wp2_with (first | (go_at_call 20; refine (lower_any _ _).mono ?_; rintro e w' ⟨rfl, rfl⟩) | (go_at_call 21; refine (upper_any _ _).mono ?_; rintro e w' ⟨rfl, rfl⟩))
            refine (among_any _ (Strs.of_own (unhide hnm).rv) (by omega)).mono ?_
            rintro e w' ⟨rfl, rfl⟩
            go_wp2_with fail
            refine (among_any _ (Strs.of_own (unhide hnm).rh) (by omega)).mono ?_
            rintro e w' ⟨rfl, rfl⟩
            go_wp2_with (at_builtin; refine wpList_app1 _ rfl (.tmp 61) (.tmp 66) 28 rfl w.heap.size 9 i0 (.string ⟨#[]⟩) 1 16 Try.underlying28 hi hz0 hz1 hz2 rfl (by decide) _ (nmV l (0)).length ((nmV l (0)).map Value.string) rfl ((unhide hnm).rv.alloc _) ⟨_, 0, none⟩ 1 [.string l[0]] rfl rfl (one_new _ _ _) (oneCell_strJ _) (by omega) (by omega) (by simp; omega) ?_)
            intro g2 cap2 w1 hown2 hgrow2 hblk2
            have HNM := hide ((unhide hnm).addV (unhide HV1) (unhide HH1) hown2 hgrow2 (by simpa using hblk2))
            clear hown2 hgrow2 hblk2
            go_wp2_with fail
            go_roundw
            case rel => exact ⟨0 + 1, by omega, by go_num, HNM⟩
            case measure => simp [intOf]; omega
          · skip
            exact absurd (show amI [] l[0] < 0 by simp [amI]) hol
        | false =>
          cases hup : upB l[0] with
          | true =>
            by_cases hkn : amI (nmH l (0)) l[0] < 0
            · skip
              have HV1 : Hid (nmV l (0 + 1) = nmV l (0)) := hide (by show addIf _ _ _ = _; rw [hgx]; exact addIf_no1 (by simp [hlo]))
              have HH1 : Hid (nmH l (0 + 1) = nmH l (0) ++ [l[0]]) := hide (by show addIf _ _ _ = _; rw [hgx]; exact addIf_yes hup hkn)
              clear hgx
              go_wp2_with (first | (go_at_call 20; refine (lower_any _ _).mono ?_; rintro e w' ⟨rfl, rfl⟩) | (go_at_call 21; refine (upper_any _ _).mono ?_; rintro e w' ⟨rfl, rfl⟩))
              refine (among_any _ (Strs.of_own (unhide hnm).rv) (by omega)).mono ?_
              rintro e w' ⟨rfl, rfl⟩
              go_wp2_with fail
              refine (among_any _ (Strs.of_own (unhide hnm).rh) (by omega)).mono ?_
              rintro e w' ⟨rfl, rfl⟩
              go_wp2_with (at_builtin; refine wpList_app1 _ rfl (.tmp 73) (.tmp 78) 28 rfl w.heap.size 9 i0 (.string ⟨#[]⟩) 1 16 Try.underlying28 hi hz0 hz1 hz2 rfl (by decide) _ (nmH l (0)).length ((nmH l (0)).map Value.string) rfl ((unhide hnm).rh.alloc _) ⟨_, 0, none⟩ 1 [.string l[0]] rfl rfl (one_new _ _ _) (oneCell_strJ _) (by omega) (by omega) (by simp; omega) ?_)
              intro g2 cap2 w1 hown2 hgrow2 hblk2
              have HNM := hide ((unhide hnm).addH (unhide HV1) (unhide HH1) hown2 hgrow2 (by simpa using hblk2))
              clear hown2 hgrow2 hblk2
              go_wp2_with fail
              go_roundw
              case rel => exact ⟨0 + 1, by omega, by go_num, HNM⟩
              case measure => simp [intOf]; omega
            · skip
              exact absurd (show amI [] l[0] < 0 by simp [amI]) hkn
          | false =>
            have HV1 : Hid (nmV l (0 + 1) = nmV l (0)) := hide (by show addIf _ _ _ = _; rw [hgx]; exact addIf_no1 (by simp [hlo]))
            have HH1 : Hid (nmH l (0 + 1) = nmH l (0)) := hide (by show addIf _ _ _ = _; rw [hgx]; exact addIf_no1 hup)
            clear hgx
            go_wp2_with (first | (go_at_call 20; refine (lower_any _ _).mono ?_; rintro e w' ⟨rfl, rfl⟩) | (go_at_call 21; refine (upper_any _ _).mono ?_; rintro e w' ⟨rfl, rfl⟩))
            refine (among_any _ (Strs.of_own (unhide hnm).rv) (by omega)).mono ?_
            rintro e w' ⟨rfl, rfl⟩
            go_wp2_with fail
            refine (among_any _ (Strs.of_own (unhide hnm).rh) (by omega)).mono ?_
            rintro e w' ⟨rfl, rfl⟩
            go_wp2_with fail
            go_roundw
            case rel => exact ⟨0 + 1, by omega, by go_num, hide ((unhide hnm).same (unhide HV1) (unhide HH1))⟩
            case measure => simp [intOf]; omega
      | succ k' =>
        have hlp : k' < l.length := by omega
        have hcp : wr.cell? ⟨g, off + k', none⟩ = some (.string l[k']) := by
          rw [(unhide hnm).bl.cell (World.block_lt_of_cell? w _ (hcell k' hlp))]; exact hcell k' hlp
        have hgp : l[k']?.getD em = l[k'] := by simp [hlp]
        clear hcell
        cases hlo : lowB l[k' + 1] with
        | true =>
          have hup := low_up l[k' + 1] hlo
          cases hdo : (l[k'].toList == [46]) with
          | true =>
            have hdt : dotB l (k' + 1) = true := by simp only [dotB, hgp, eqW, dotW_l, hdo]
            have HV1 : Hid (nmV l (k' + 1 + 1) = nmV l (k' + 1)) := hide (by show addIf _ _ _ = _; rw [hgx]; exact addIf_no1 (by simp [hdt]))
            have HH1 : Hid (nmH l (k' + 1 + 1) = nmH l (k' + 1)) := hide (by show addIf _ _ _ = _; rw [hgx]; exact addIf_no1 hup)
            clear hgx
            go_wp2_with (first | (go_at_call 20; refine (lower_any _ _).mono ?_; rintro e w' ⟨rfl, rfl⟩) | (go_at_call 21; refine (upper_any _ _).mono ?_; rintro e w' ⟨rfl, rfl⟩))
            refine (among_any _ (Strs.of_own (unhide hnm).rv) (by omega)).mono ?_
            rintro e w' ⟨rfl, rfl⟩
            go_wp2_with fail
            refine (among_any _ (Strs.of_own (unhide hnm).rh) (by omega)).mono ?_
            rintro e w' ⟨rfl, rfl⟩
            go_wp2_with fail
            go_roundw
            case rel => exact ⟨k' + 1 + 1, by omega, by go_num, hide ((unhide hnm).same (unhide HV1) (unhide HH1))⟩
            case measure => simp [intOf]; omega
          | false =>
            have hdt : dotB l (k' + 1) = false := by simp only [dotB, hgp, eqW, dotW_l, hdo]
            by_cases hol : amI (nmV l (k' + 1)) l[k' + 1] < 0
            · skip
              have HV1 : Hid (nmV l (k' + 1 + 1) = nmV l (k' + 1) ++ [l[k' + 1]]) := hide (by show addIf _ _ _ = _; rw [hgx]; exact addIf_yes (by simp [hlo, hdt]) hol)
              have HH1 : Hid (nmH l (k' + 1 + 1) = nmH l (k' + 1)) := hide (by show addIf _ _ _ = _; rw [hgx]; exact addIf_no1 hup)
              clear hgx
              go_wp2_with (first | (go_at_call 20; refine (lower_any _ _).mono ?_; rintro e w' ⟨rfl, rfl⟩) | (go_at_call 21; refine (upper_any _ _).mono ?_; rintro e w' ⟨rfl, rfl⟩))
              refine (among_any _ (Strs.of_own (unhide hnm).rv) (by omega)).mono ?_
              rintro e w' ⟨rfl, rfl⟩
              go_wp2_with fail
              refine (among_any _ (Strs.of_own (unhide hnm).rh) (by omega)).mono ?_
              rintro e w' ⟨rfl, rfl⟩
              go_wp2_with (at_builtin; refine wpList_app1 _ rfl (.tmp 61) (.tmp 66) 28 rfl w.heap.size 9 i0 (.string ⟨#[]⟩) 1 16 Try.underlying28 hi hz0 hz1 hz2 rfl (by decide) _ (nmV l (k' + 1)).length ((nmV l (k' + 1)).map Value.string) rfl ((unhide hnm).rv.alloc _) ⟨_, 0, none⟩ 1 [.string l[k' + 1]] rfl rfl (one_new _ _ _) (oneCell_strJ _) (by omega) (by omega) (by simp; omega) ?_)
              intro g2 cap2 w1 hown2 hgrow2 hblk2
              have HNM := hide ((unhide hnm).addV (unhide HV1) (unhide HH1) hown2 hgrow2 (by simpa using hblk2))
              clear hown2 hgrow2 hblk2
              go_wp2_with fail
              go_roundw
              case rel => exact ⟨k' + 1 + 1, by omega, by go_num, HNM⟩
              case measure => simp [intOf]; omega
            · skip
              have HV1 : Hid (nmV l (k' + 1 + 1) = nmV l (k' + 1)) := hide (by show addIf _ _ _ = _; rw [hgx]; exact addIf_no2 hol)
              have HH1 : Hid (nmH l (k' + 1 + 1) = nmH l (k' + 1)) := hide (by show addIf _ _ _ = _; rw [hgx]; exact addIf_no1 hup)
              clear hgx
              go_wp2_with (first | (go_at_call 20; refine (lower_any _ _).mono ?_; rintro e w' ⟨rfl, rfl⟩) | (go_at_call 21; refine (upper_any _ _).mono ?_; rintro e w' ⟨rfl, rfl⟩))
              refine (among_any _ (Strs.of_own (unhide hnm).rv) (by omega)).mono ?_
              rintro e w' ⟨rfl, rfl⟩
              go_wp2_with fail
              refine (among_any _ (Strs.of_own (unhide hnm).rh) (by omega)).mono ?_
              rintro e w' ⟨rfl, rfl⟩
              go_wp2_with fail
              go_roundw
              case rel => exact ⟨k' + 1 + 1, by omega, by go_num, hide ((unhide hnm).same (unhide HV1) (unhide HH1))⟩
              case measure => simp [intOf]; omega
        | false =>
          cases hup : upB l[k' + 1] with
          | true =>
            by_cases hkn : amI (nmH l (k' + 1)) l[k' + 1] < 0
            · skip
              have HV1 : Hid (nmV l (k' + 1 + 1) = nmV l (k' + 1)) := hide (by show addIf _ _ _ = _; rw [hgx]; exact addIf_no1 (by simp [hlo]))
              have HH1 : Hid (nmH l (k' + 1 + 1) = nmH l (k' + 1) ++ [l[k' + 1]]) := hide (by show addIf _ _ _ = _; rw [hgx]; exact addIf_yes hup hkn)
              clear hgx
              go_wp2_with (first | (go_at_call 20; refine (lower_any _ _).mono ?_; rintro e w' ⟨rfl, rfl⟩) | (go_at_call 21; refine (upper_any _ _).mono ?_; rintro e w' ⟨rfl, rfl⟩))
              refine (among_any _ (Strs.of_own (unhide hnm).rv) (by omega)).mono ?_
              rintro e w' ⟨rfl, rfl⟩
              go_wp2_with fail
              refine (among_any _ (Strs.of_own (unhide hnm).rh) (by omega)).mono ?_
              rintro e w' ⟨rfl, rfl⟩
              go_wp2_with (at_builtin; refine wpList_app1 _ rfl (.tmp 73) (.tmp 78) 28 rfl w.heap.size 9 i0 (.string ⟨#[]⟩) 1 16 Try.underlying28 hi hz0 hz1 hz2 rfl (by decide) _ (nmH l (k' + 1)).length ((nmH l (k' + 1)).map Value.string) rfl ((unhide hnm).rh.alloc _) ⟨_, 0, none⟩ 1 [.string l[k' + 1]] rfl rfl (one_new _ _ _) (oneCell_strJ _) (by omega) (by omega) (by simp; omega) ?_)
              intro g2 cap2 w1 hown2 hgrow2 hblk2
              have HNM := hide ((unhide hnm).addH (unhide HV1) (unhide HH1) hown2 hgrow2 (by simpa using hblk2))
              clear hown2 hgrow2 hblk2
              go_wp2_with fail
              go_roundw
              case rel => exact ⟨k' + 1 + 1, by omega, by go_num, HNM⟩
              case measure => simp [intOf]; omega
            · skip
              have HV1 : Hid (nmV l (k' + 1 + 1) = nmV l (k' + 1)) := hide (by show addIf _ _ _ = _; rw [hgx]; exact addIf_no1 (by simp [hlo]))
              have HH1 : Hid (nmH l (k' + 1 + 1) = nmH l (k' + 1)) := hide (by show addIf _ _ _ = _; rw [hgx]; exact addIf_no2 hkn)
              clear hgx
              go_wp2_with (first | (go_at_call 20; refine (lower_any _ _).mono ?_; rintro e w' ⟨rfl, rfl⟩) | (go_at_call 21; refine (upper_any _ _).mono ?_; rintro e w' ⟨rfl, rfl⟩))
              refine (among_any _ (Strs.of_own (unhide hnm).rv) (by omega)).mono ?_
              rintro e w' ⟨rfl, rfl⟩
              go_wp2_with fail
              refine (among_any _ (Strs.of_own (unhide hnm).rh) (by omega)).mono ?_
              rintro e w' ⟨rfl, rfl⟩
              go_wp2_with fail
              go_roundw
              case rel => exact ⟨k' + 1 + 1, by omega, by go_num, hide ((unhide hnm).same (unhide HV1) (unhide HH1))⟩
              case measure => simp [intOf]; omega
          | false =>
            have HV1 : Hid (nmV l (k' + 1 + 1) = nmV l (k' + 1)) := hide (by show addIf _ _ _ = _; rw [hgx]; exact addIf_no1 (by simp [hlo]))
            have HH1 : Hid (nmH l (k' + 1 + 1) = nmH l (k' + 1)) := hide (by show addIf _ _ _ = _; rw [hgx]; exact addIf_no1 hup)
            clear hgx
            go_wp2_with (first | (go_at_call 20; refine (lower_any _ _).mono ?_; rintro e w' ⟨rfl, rfl⟩) | (go_at_call 21; refine (upper_any _ _).mono ?_; rintro e w' ⟨rfl, rfl⟩))
            refine (among_any _ (Strs.of_own (unhide hnm).rv) (by omega)).mono ?_
            rintro e w' ⟨rfl, rfl⟩
            go_wp2_with fail
            refine (among_any _ (Strs.of_own (unhide hnm).rh) (by omega)).mono ?_
            rintro e w' ⟨rfl, rfl⟩
            go_wp2_with fail
            go_roundw
            case rel => exact ⟨k' + 1 + 1, by omega, by go_num, hide ((unhide hnm).same (unhide HV1) (unhide HH1))⟩
            case measure => simp [intOf]; omega
    · have hd : decide ((k : Int) < (l.length : Int)) = false := by simp; omega
      obtain rfl : k = l.length := by omega
      go_wp2_with fail
      go_ret2
      exact ⟨_, _, rfl, unhide hnm⟩
end Go.Proofs.Ytciihepbeacppaa
