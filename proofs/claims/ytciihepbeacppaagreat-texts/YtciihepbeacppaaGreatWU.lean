import Derived.Test.YtciihepbeacppaaGreatWT
namespace Go.Proofs.YtciihepbeacppaaGreat
open Go.RowKit

section
variable {B : Nat} {WV : Value} {w : World} {P : Nat} {ws : List ByteArray} {s : PS} {F : List Nat} {wv vv hv : Value} {g cap : Nat}


set_option maxRecDepth 100000 in
set_option maxHeartbeats 4000000 in
theorem branch_any {blk : PS → PS} {f : Nat} (hblk : BlkOK B WV P ws blk f) (gd : Good blk) (hb : acB ws kIf s = true) (hfu : ws.length < f + 1 + s.pos) (hphi : s.nodes.length + 2 * ws.length ≤ 60000 + 2 * s.pos) (h : IsQ B WV w P ws s F) :
    Calls Tryz.prog 186 #[.pointer (some ⟨P, 0, none⟩)] w fun e w' => e = .returned (.tuple #[]) ∧ ∃ F', IsQ B WV w' P ws (brS blk ws s) F' ∧ Stp F w F' w' := by
  have HQ := hide h
  have hp0 := h.f.2.1
  clear h
  have HE : Hid (exS ws kIf s = s.adv) := hide (if_pos hb)
  have hpa : s.adv.pos = s.pos + 1 := rfl
  have hna : s.adv.nodes.length = s.nodes.length := rfl
  have hts := tsS_pos (ws := ws) (s := s.adv)
  have htn := tsS_nodes (ws := ws) (s := s.adv)
  have h1 := gd.pos (tsS ws s.adv)
  have h2 := gd.nodes (tsS ws s.adv)
  have h3 := gd.phi (tsS ws s.adv)
  have HLO : Hid (brA blk ws s = blk (tsS ws s.adv)) := hide (by unfold brA; rw [unhide HE])
  have HBLK := hide hblk
  have HGD := hide gd
  clear hblk hb gd
  obtain ⟨z, hz⟩ : ∃ z, z = blk (tsS ws s.adv) := ⟨_, rfl⟩
  rw [← hz] at h1 h2 h3 HLO
  have HZ := hide hz
  clear hz
  cases he : acB ws kElse z with
  | false =>
    have HE2 : Hid (acS ws kElse z = z) := hide (if_neg (by simp [he]))
    have HS : Hid (brS blk ws s = { z with nodes := setOt s.nodes.length z.nodes.length z.nodes }) := hide (by unfold brS; rw [unhide HLO, he]; rfl)
    have HB2 := hide he
    clear he
    go_enter Tryz.func186, Tryz.ntmps186
    go_wp2_with fail
    refine (expect_any kIf (by decide) (unhide HQ)).mono ?_
    rintro e w1 ⟨rfl, hI1, hS1⟩
    rw [unhide HE] at hI1
    have HI1 := hide hI1
    have HS1 := hide hS1
    clear hI1 hS1
    go_wp2_with fail
    refine (test_any (s := s.adv) (by omega) (unhide HI1)).mono ?_
    rintro e w2 ⟨rfl, F2, hI2, hS2⟩
    have HI2 := hide hI2
    have HS2 := hide ((unhide HS1).trans hS2)
    clear hI2 hS2
    go_wp2_with fail
    refine (unhide HBLK _ _ _ (unhide HI2) (fun _ => by omega) (by omega)).mono ?_
    rintro e w3 ⟨rfl, F3, hI3, hS3⟩
    have HI3 := hide hI3
    have HS3 := hide ((unhide HS2).trans hS3)
    clear hI3 hS3
    rw [← unhide HZ] at HI3
    have hp3 := (unhide HI3).f.2.1
    have HA4 := accept_any kElse (by decide) (unhide HI3)
    rw [unhide HB2, unhide HE2] at HA4
    replace HA4 := hide HA4
    go_wp2_with fail
    refine (unhide HA4).mono ?_
    rintro e w4 ⟨rfl, hI4, hS4⟩
    have HI4 := hide hI4
    have HS4 := hide ((unhide HS3).trans hS4)
    clear hI4 hS4
    obtain ⟨wv, vv, hv, g, cap, hpv⟩ := (unhide HI4).nodesAt (by omega)
    obtain ⟨_, _, _, _, c5, _⟩ := hpv.readsV
    obtain ⟨⟨v4, hv4, hm4⟩, f4⟩ := hpv.nodeCell (s.nodes.length * 6 + 5) (by omega)
    obtain ⟨x4, rfl⟩ := nd_mem_int hm4
    have HPV := hide hpv
    clear hpv hm4
    have hfb := fb_le z
    go_wp2_with fail
    go_region
    go_wp2_with fail
    refine bodyPost_ret (results_none rfl _ _ _) rfl ?_
    have hpv6 := (unhide HPV).setNode (s.nodes.length * 6 + 5) (.int .i64 (z.nodes.length : Int)) (setOt s.nodes.length z.nodes.length z.nodes) (nd_setOt _ _ _) (setOt_length _ _ _)
    exact ⟨rfl, F3, ⟨by rw [unhide HS]; exact hpv6.is.drew, by rw [unhide HS]; exact (unhide HI4).f⟩, ((unhide HS4).setCell (p := ⟨g, s.nodes.length * 6 + 5, none⟩) ((unhide HPV).inF (unhide HS4)) _).drew⟩
  | true =>
    have HE2 : Hid (acS ws kElse z = z.adv) := hide (if_pos he)
    have HS : Hid (brS blk ws s = brC z.nodes.length (blk (brB s.nodes.length z))) := hide (by unfold brS; rw [unhide HLO, he]; rfl)
    have hfz : fb z = 0 := fb_ok (pk_lt (ws := ws) (s := z) (by rw [eq_of_toList he]; decide)).1
    have HB2 := hide he
    clear he
    have hza : z.adv.pos = z.pos + 1 := rfl
    have hzl : z.adv.nodes.length = z.nodes.length := rfl
    have hbp : (brB s.nodes.length z).pos = z.pos + 1 := rfl
    have hbl : (brB s.nodes.length z).nodes.length = z.nodes.length + 1 := by simp [brB, setOt_length, addS, PS.adv]
    have k2 := (unhide HGD).nodes (brB s.nodes.length z)
    have k3 := (unhide HGD).phi (brB s.nodes.length z)
    have k4 := fb_le (blk (brB s.nodes.length z))
    go_enter Tryz.func186, Tryz.ntmps186
    go_wp2_with fail
    refine (expect_any kIf (by decide) (unhide HQ)).mono ?_
    rintro e w1 ⟨rfl, hI1, hS1⟩
    rw [unhide HE] at hI1
    have HI1 := hide hI1
    have HS1 := hide hS1
    clear hI1 hS1
    go_wp2_with fail
    refine (test_any (s := s.adv) (by omega) (unhide HI1)).mono ?_
    rintro e w2 ⟨rfl, F2, hI2, hS2⟩
    have HI2 := hide hI2
    have HS2 := hide ((unhide HS1).trans hS2)
    clear hI2 hS2
    go_wp2_with fail
    refine (unhide HBLK _ _ _ (unhide HI2) (fun _ => by omega) (by omega)).mono ?_
    rintro e w3 ⟨rfl, F3, hI3, hS3⟩
    have HI3 := hide hI3
    have HS3 := hide ((unhide HS2).trans hS3)
    clear hI3 hS3
    rw [← unhide HZ] at HI3
    have hp3 := (unhide HI3).f.2.1
    have HA4 := accept_any kElse (by decide) (unhide HI3)
    rw [unhide HB2, unhide HE2] at HA4
    replace HA4 := hide HA4
    go_wp2_with fail
    refine (unhide HA4).mono ?_
    rintro e w4 ⟨rfl, hI4, hS4⟩
    have HI4 := hide hI4
    have HS4 := hide ((unhide HS3).trans hS4)
    clear hI4 hS4
    go_wp2_with fail
    refine (add_jmp (unhide HI4) (by omega)).mono ?_
    rintro e w5 ⟨rfl, F5, hI5, hS5⟩
    have HI5 := hide hI5
    have HS5 := hide ((unhide HS4).trans hS5)
    clear hI5 hS5
    have hyn : (addS jmp z.adv).nodes.length = z.nodes.length + 1 := by simp [addS, PS.adv]
    obtain ⟨wv, vv, hv, g, cap, hpv⟩ := (unhide HI5).nodesAt (by omega)
    obtain ⟨_, _, _, _, c5, _⟩ := hpv.readsV
    obtain ⟨⟨v4, hv4, hm4⟩, f4⟩ := hpv.nodeCell (s.nodes.length * 6 + 5) (by omega)
    obtain ⟨x4, rfl⟩ := nd_mem_int hm4
    rw [hyn] at c5
    have HPV := hide hpv
    clear hpv hm4
    go_wp2_with fail
    go_region
    go_wp2_with fail
    have hpv6 := (unhide HPV).setNode (s.nodes.length * 6 + 5) (.int .i64 ((z.nodes.length : Int) + 1)) (setOt s.nodes.length (addS jmp z.adv).nodes.length (addS jmp z.adv).nodes) (by rw [nd_setOt, hyn]; rfl) (setOt_length _ _ _)
    have HQ6 : Hid (IsQ B WV ((w5.setCell ⟨g, s.nodes.length * 6 + 5, none⟩ (.int .i64 ((z.nodes.length : Int) + 1))).drew) P ws (brB s.nodes.length z) F5) := hide ⟨hpv6.is.drew, (unhide HI5).f⟩
    have HS6 : Hid (Stp F w F5 ((w5.setCell ⟨g, s.nodes.length * 6 + 5, none⟩ (.int .i64 ((z.nodes.length : Int) + 1))).drew)) := hide ((unhide HS5).setCell (p := ⟨g, s.nodes.length * 6 + 5, none⟩) ((unhide HPV).inF (unhide HS5)) _).drew
    clear hpv6 c5 hv4 f4
    generalize (w5.setCell ⟨g, s.nodes.length * 6 + 5, none⟩ (.int .i64 ((z.nodes.length : Int) + 1))).drew = w6 at HQ6 HS6 ⊢
    refine (unhide HBLK _ _ _ (unhide HQ6) (fun _ => by omega) (by omega)).mono ?_
    rintro e w7 ⟨rfl, F7, hI7, hS7⟩
    have HI7 := hide hI7
    have HS7 := hide ((unhide HS6).trans hS7)
    have hp7 := hI7.f.2.1
    clear hI7 hS7
    obtain ⟨y, hy⟩ : ∃ y, y = blk (brB s.nodes.length z) := ⟨_, rfl⟩
    rw [← hy] at HI7 k2 k3 k4 hp7 HS
    clear hy
    obtain ⟨wv, vv, hv, g2, cap2, hpv⟩ := (unhide HI7).nodesAt (by omega)
    obtain ⟨_, _, _, _, c5, _⟩ := hpv.readsV
    obtain ⟨⟨v4, hv4, hm4⟩, f4⟩ := hpv.nodeCell (z.nodes.length * 6 + 4) (by omega)
    obtain ⟨x4, rfl⟩ := nd_mem_int hm4
    have HPV7 := hide hpv
    clear hpv hm4
    go_wp2_with fail
    go_region
    go_end0
    have hpv8 := (unhide HPV7).setNode (z.nodes.length * 6 + 4) (.int .i64 (y.nodes.length : Int)) (setNx z.nodes.length y.nodes.length y.nodes) (nd_setNx _ _ _) (setNx_length _ _ _)
    exact ⟨rfl, F7, ⟨by rw [unhide HS]; exact hpv8.is.drew, by rw [unhide HS]; exact (unhide HI7).f⟩, ((unhide HS7).setCell (p := ⟨g2, z.nodes.length * 6 + 4, none⟩) ((unhide HPV7).inF (unhide HS7)) _).drew⟩


set_option maxRecDepth 100000 in
set_option maxHeartbeats 4000000 in
theorem command_any {blk : PS → PS} {f : Nat} (hblk : BlkOK B WV P ws blk f) (gd : Good blk) (hfu : ws.length < f + 1 + s.pos) (hphi : s.nodes.length + 2 * ws.length ≤ 60000 + 2 * s.pos) (h : IsQ B WV w P ws s F) :
    Calls Tryz.prog 161 #[.pointer (some ⟨P, 0, none⟩)] w fun e w' => e = .returned (.tuple #[]) ∧ ∃ F', IsQ B WV w' P ws (cmB blk ws s) F' ∧ Stp F w F' w' := by
  have HQ := hide h
  have hp0 := h.f.2.1
  have HK := hide (peek_any h)
  clear h
  cases hb : acB ws kIf s with
  | true =>
    have HS : Hid (cmB blk ws s = brS blk ws s) := hide (if_pos hb)
    have hb' : ((pk ws s).toList == kIf.toList) = true := hb
    have HBR := fun n => hide (branch_any (w := w.drewN n) hblk gd hb hfu hphi ⟨(unhide HQ).m.drewN n, (unhide HQ).f⟩)
    rw [show kIf.toList = [105, 102] from (ByteArray.toList_eq _)] at hb'
    clear hb hblk gd
    go_enter Tryz.func161, Tryz.ntmps161
    go_wp2_with (first | (go_at_call 160; refine (unhide HK).mono ?_; rintro e w' ⟨rfl, n, rfl⟩) | (go_at_call 186; refine (unhide (HBR n)).mono ?_; rintro e w2 ⟨rfl, F2, hI2, hS2⟩))
    go_end0
    exact ⟨rfl, F2, by rw [unhide HS]; exact hI2, ((Stp.refl F w).drewN n).trans hS2⟩
  | false =>
    have hb' : ((pk ws s).toList == kIf.toList) = false := hb
    rw [show kIf.toList = [105, 102] from (ByteArray.toList_eq _)] at hb'
    cases hb2 : acB ws kWhile s with
    | true =>
      have HS : Hid (cmB blk ws s = loS blk ws s) := hide (by unfold cmB; rw [hb, hb2]; rfl)
      have hb2' : ((pk ws s).toList == kWhile.toList) = true := hb2
      have HBR := fun n => hide (loop_any (w := w.drewN n) hblk gd hb2 hfu hphi ⟨(unhide HQ).m.drewN n, (unhide HQ).f⟩)
      rw [show kWhile.toList = [119, 104, 105, 108, 101] from (ByteArray.toList_eq _)] at hb2'
      clear hb hb2 hblk gd
      go_enter Tryz.func161, Tryz.ntmps161
      go_wp2_with (first | (go_at_call 160; refine (unhide HK).mono ?_; rintro e w' ⟨rfl, n, rfl⟩) | (go_at_call 187; refine (unhide (HBR n)).mono ?_; rintro e w2 ⟨rfl, F2, hI2, hS2⟩))
      go_end0
      exact ⟨rfl, F2, by rw [unhide HS]; exact hI2, ((Stp.refl F w).drewN n).trans hS2⟩
    | false =>
      have HS : Hid (cmB blk ws s = scS ws s) := hide (by unfold cmB; rw [hb, hb2]; rfl)
      have hb2' : ((pk ws s).toList == kWhile.toList) = false := hb2
      rw [show kWhile.toList = [119, 104, 105, 108, 101] from (ByteArray.toList_eq _)] at hb2'
      clear hb hb2 hblk gd
      go_enter Tryz.func161, Tryz.ntmps161
      go_wp2_with (go_at_call 160; refine (unhide HK).mono ?_; rintro e w' ⟨rfl, n, rfl⟩)
      refine (simple_any (w := w.drewN n) ⟨(unhide HQ).m.drewN n, (unhide HQ).f⟩).mono ?_
      rintro e w1 ⟨rfl, F1, hI1, hS1⟩
      have HI1 := hide hI1
      have HS1 := hide (((Stp.refl F w).drewN n).trans hS1)
      clear hI1 hS1
      obtain ⟨A0, hA0⟩ : ∃ A0, A0 = siN ws s := ⟨_, rfl⟩
      have HA0 := hide hA0
      rw [← hA0]
      clear hA0
      obtain ⟨n0, n1, n2, n3, n4, n5⟩ := A0
      simp only [Nd.cells]
      go_wp2_with fail
      refine (expect_any kSemi (by decide) ((unhide HI1).alloc _)).mono ?_
      rintro e w2 ⟨rfl, hI2, hS2⟩
      obtain ⟨hb2, hn2, hl2⟩ := loc_new (unhide HI1).m hS2
      obtain ⟨⟨q0, q1, q2, q3, q4, q5⟩, _⟩ := cellsR hb2
      have hadd := add_any ⟨n0, n1, n2, n3, n4, n5⟩ hI2 (by rw [exS_nodes, siS_nodes]; omega)
      simp only [Nd.cells] at hadd
      have HADD := hide hadd
      have HS2 := hide ((unhide HS1).trans (((Stp.refl F1 w1).alloc _).trans hS2))
      clear hadd hI2 hS2 hb2
      go_wp2_with fail
      refine (unhide HADD).mono ?_
      rintro e w3 ⟨rfl, F3, hI3, hS3⟩
      have HI3 := hide hI3
      have HS3 := hide ((unhide HS2).trans hS3)
      clear hI3 hS3
      go_wp2_with fail
      go_end0
      refine ⟨rfl, F3, ?_, unhide HS3⟩
      rw [unhide HS]; unfold scS; rw [← unhide HA0]; exact unhide HI3

end
end Go.Proofs.YtciihepbeacppaaGreat
