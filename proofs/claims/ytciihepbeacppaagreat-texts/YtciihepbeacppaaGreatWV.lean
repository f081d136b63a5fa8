import Derived.Test.YtciihepbeacppaaGreatWU
namespace Go.Proofs.YtciihepbeacppaaGreat
open Go.RowKit

theorem cmS_stop {ws : List ByteArray} {c : PS → PS} (n : Nat) {s : PS} (h : (s.failed || acB ws kRB s) = true) : cmS c ws n s = s := by
  cases n with
  | zero => rfl
  | succ n => simp only [cmS]; rw [if_pos h]
theorem cmS_go {ws : List ByteArray} {c : PS → PS} (n : Nat) {s : PS} (h : (s.failed || acB ws kRB s) = false) : cmS c ws (n + 1) s = cmS c ws n (c s) := by
  simp only [cmS]; rw [if_neg (by simp [h])]
theorem exS_failed {ws : List ByteArray} {k : ByteArray} {s : PS} (hk : k.size ≠ 0) (h : s.failed = true) : exS ws k s = s := by
  unfold exS; rw [acB_failed k hk h]
  obtain ⟨a, b, c, d, e⟩ := s
  simp only at h
  subst h
  rfl

section
variable {B : Nat} {WV : Value} {w : World} {P : Nat} {ws : List ByteArray} {s : PS} {F : List Nat} {wv vv hv : Value} {g cap : Nat}

set_option maxRecDepth 100000 in
set_option maxHeartbeats 4000000 in
theorem block_walk {c : PS → PS} {n : Nat}
    (hcmd : ∀ (w : World) (st : PS) (F : List Nat), IsQ B WV w P ws st F → st.failed = false → ws.length < n + st.pos → st.nodes.length + 2 * ws.length ≤ 60000 + 2 * st.pos →
      Calls Tryz.prog 161 #[.pointer (some ⟨P, 0, none⟩)] w fun e w' => e = .returned (.tuple #[]) ∧ ∃ F', IsQ B WV w' P ws (c st) F' ∧ Stp F w F' w')
    (hc : ∀ s, s.pos ≤ (c s).pos ∧ ((c s).failed = false → s.pos < (c s).pos) ∧ (c s).nodes.length + 2 * s.pos ≤ s.nodes.length + 2 * (c s).pos + fb (c s))
    (hfu : s.failed = false → ws.length < n + s.pos) (hphi : s.nodes.length + 2 * ws.length ≤ 60000 + 2 * s.pos) (h : IsQ B WV w P ws s F) :
    Calls Tryz.prog 122 #[.pointer (some ⟨P, 0, none⟩)] w fun e w' => e = .returned (.tuple #[]) ∧ ∃ F', IsQ B WV w' P ws (exS ws kRB (cmS c ws (ws.length + 2) (exS ws kLB s))) F' ∧ Stp F w F' w' := by
  have HQ := hide h
  clear h
  have HCMD := hide hcmd
  have HC := hide hc
  have HFU := hide hfu
  clear hcmd hc hfu
  have e1 := exS_pos (ws := ws) (s := s) kLB
  have e2 : (exS ws kLB s).nodes.length = s.nodes.length := by rw [exS_nodes]
  have HE3 : Hid ((exS ws kLB s).failed = false → ws.length < n + (exS ws kLB s).pos) := hide (fun h => by have := unhide HFU (exS_ok _ h).2.1; omega)
  go_enter Tryz.func122, Tryz.ntmps122
  go_wp2_with fail
  refine (expect_any kLB (by decide) (unhide HQ)).mono ?_
  rintro e w1 ⟨rfl, hI1, hS1⟩
  have HI1 := hide hI1
  have HS1 := hide hS1
  clear hI1 hS1
  go_wp2_with fail
  go_loopg [4] (ws.length + 2) (fun m _ wr => ∃ (st : PS) (F2 : List Nat), IsQ B WV wr P ws st F2 ∧ Stp F w F2 wr ∧ (exS ws kLB s).pos ≤ st.pos ∧
    Hid (cmS c ws (ws.length + 2) (exS ws kLB s) = cmS c ws m st) ∧ Hid (st.failed = false → ws.length < n + st.pos ∧ ws.length < m + st.pos ∧ st.nodes.length + 2 * ws.length ≤ 60000 + 2 * st.pos))
  case atStart =>
    exact ⟨exS ws kLB s, F, unhide HI1, unhide HS1, Nat.le_refl _, rfl, fun h => ⟨unhide HE3 h, by omega, by omega⟩⟩
  case round =>
    obtain ⟨st, F2, hI, hS, hpos, heq, hok⟩ := hrel
    have HI := hide hI
    have HS := hide hS
    obtain ⟨c1, c2, _, _⟩ := hI.m.reads
    have HK := hide (peek_any hI)
    clear hI hS c1
    cases hf : st.failed with
    | true =>
      rw [hf] at c2
      have HEQ : Hid (cmS c ws (ws.length + 2) (exS ws kLB s) = st) := hide (by rw [unhide heq]; exact cmS_stop _ (by simp [hf]))
      clear hf heq hok
      go_wp2_with fail
      refine (expect_any kRB (by decide) (unhide HI)).mono ?_
      rintro e w2 ⟨rfl, hI2, hS2⟩
      have HI2 := hide hI2
      have HS2 := hide ((unhide HS).trans hS2)
      clear hI2 hS2
      go_wp2_with fail
      go_end0
      exact ⟨rfl, F2, by rw [unhide HEQ]; exact unhide HI2, unhide HS2⟩
    | false =>
      rw [hf] at c2
      cases hb : acB ws kRB st with
      | true =>
        have hb' : ((pk ws st).toList == kRB.toList) = true := hb
        rw [show kRB.toList = [125] from (ByteArray.toList_eq _)] at hb'
        have HEQ : Hid (cmS c ws (ws.length + 2) (exS ws kLB s) = st) := hide (by rw [unhide heq]; exact cmS_stop _ (by simp [hb]))
        clear hf hb heq hok
        go_wp2_with (go_at_call 160; refine (unhide HK).mono ?_; rintro e w' ⟨rfl, nn, rfl⟩)
        refine (expect_any kRB (by decide) (w := wr.drewN nn) ⟨(unhide HI).m.drewN nn, (unhide HI).f⟩).mono ?_
        rintro e w2 ⟨rfl, hI2, hS2⟩
        have HI2 := hide hI2
        have HS2 := hide (((unhide HS).drewN nn).trans hS2)
        clear hI2 hS2
        go_wp2_with fail
        go_end0
        exact ⟨rfl, F2, by rw [unhide HEQ]; exact unhide HI2, unhide HS2⟩
      | false =>
        have hb' : ((pk ws st).toList == kRB.toList) = false := hb
        rw [show kRB.toList = [125] from (ByteArray.toList_eq _)] at hb'
        obtain ⟨o1, o2, o3⟩ := unhide hok hf
        have hps := (unhide HI).f.2.1
        obtain ⟨m, rfl⟩ : ∃ m, gk = m + 1 := ⟨gk - 1, by omega⟩
        have HEQ : Hid (cmS c ws (ws.length + 2) (exS ws kLB s) = cmS c ws m (c st)) := hide (by rw [unhide heq]; exact cmS_go _ (by simp [hb, hf]))
        have HF := hide hf
        clear hf hb heq hok
        go_wp2_with (go_at_call 160; refine (unhide HK).mono ?_; rintro e w' ⟨rfl, nn, rfl⟩)
        refine (unhide HCMD (wr.drewN nn) st F2 ⟨(unhide HI).m.drewN nn, (unhide HI).f⟩ (unhide HF) o1 o3).mono ?_
        rintro e w2 ⟨rfl, F3, hI2, hS2⟩
        have HI2 := hide hI2
        have HS2 := hide (((unhide HS).drewN nn).trans hS2)
        clear hI2 hS2
        go_wp2_with fail
        obtain ⟨d1, d2, d3⟩ := unhide HC st
        go_roundg m
        case measure => omega
        case rel =>
          refine ⟨c st, F3, unhide HI2, unhide HS2, by omega, unhide HEQ, fun hcf => ?_⟩
          have := d2 hcf
          rw [fb_ok hcf] at d3
          exact ⟨by omega, by omega, by omega⟩

theorem block_ok (f : Nat) : BlkOK B WV P ws (blS ws f) f := by
  induction f with
  | zero =>
    intro w s F h hfu hphi
    have hps := h.f.2.1
    have hf : s.failed = true := by
      cases hf : s.failed with
      | true => rfl
      | false => have := hfu hf; omega
    have hw := block_walk (c := PS.adv) (n := 0) (B := B) (P := P) (ws := ws) (s := s) (F := F) (w := w) (fun _ st _ hi _ hlt _ => by have := hi.f.2.1; omega) (fun s => ⟨adv_pos, fun _ => Nat.lt_succ_self _, by show s.nodes.length + 2 * s.pos ≤ s.nodes.length + 2 * (s.pos + 1) + _; omega⟩) hfu hphi h
    rw [exS_failed (by decide) hf, cmS_stop _ (by simp [hf]), exS_failed (by decide) hf] at hw
    exact hw
  | succ f ih =>
    intro w s F h hfu hphi
    exact block_walk (n := f + 1) (fun w st F hi _ hlt hph => command_any ih (blS_good f) hlt hph hi) (fun s => ⟨(cmB_good (blS_good f)).1, fun h => ((cmB_good (blS_good f)).2.2.1 h).2, (cmB_good (blS_good f)).2.2.2⟩) hfu hphi h

end
end Go.Proofs.YtciihepbeacppaaGreat
