import Derived.Test.YtciihepbeacppaaGreatWS
namespace Go.Proofs.YtciihepbeacppaaGreat
open Go.RowKit

/-- the reader of a block keeps its word, where 'ok' -/
def BlkOK (B : Nat) (WV : Value) (P : Nat) (ws : List ByteArray) (blk : PS → PS) (f : Nat) : Prop :=
  ∀ (w : World) (s : PS) (F : List Nat), IsQ B WV w P ws s F → (s.failed = false → ws.length < f + s.pos) → s.nodes.length + 2 * ws.length ≤ 60000 + 2 * s.pos →
    Calls Tryz.prog 122 #[.pointer (some ⟨P, 0, none⟩)] w fun e w' => e = .returned (.tuple #[]) ∧ ∃ F', IsQ B WV w' P ws (blk s) F' ∧ Stp F w F' w'

section
variable {B : Nat} {WV : Value} {w : World} {P : Nat} {ws : List ByteArray} {s : PS} {F : List Nat} {wv vv hv : Value} {g cap : Nat}

theorem add_jmp (h : IsQ B WV w P ws s F) (hn : s.nodes.length ≤ 100000) :
    Calls Tryz.prog 123 #[.pointer (some ⟨P, 0, none⟩), .agg #[.int .i64 10, .int .i64 0, .int .i64 0, .int .i64 0, .int .i64 0, .int .i64 0]] w fun e w' => e = .returned (.int .i64 s.nodes.length) ∧ ∃ F', IsQ B WV w' P ws (addS jmp s) F' ∧ Stp F w F' w' :=
  add_any jmp h hn
theorem IsPv.inF {w0 : World} {F0 : List Nat} {n : Nat} {j : Nat} (h : IsPv B WV w P ws s F wv vv hv (.slice (some ⟨g, 0, none⟩) n cap)) (hS : Stp F0 w0 F w) : (⟨g, j, none⟩ : Addr).block ∈ F0 ∨ w0.heap.size ≤ (⟨g, j, none⟩ : Addr).block :=
  hS.foot g (by rw [h.2.2.2.2.2.2.1]; simp [Value.ownBlock])
theorem IsQ.nodesAt (h : IsQ B WV w P ws s F) (hn : 0 < s.nodes.length) : ∃ wv vv hv g cap, IsPv B WV w P ws s F wv vv hv (.slice (some ⟨g, 0, none⟩) s.nodes.length cap) := by
  obtain ⟨wv, vv, hv, nv, hpv⟩ := h.m.named
  rcases hpv.2.2.2.2.2.1.2 with ⟨_, h0⟩ | ⟨g, cap, cur, rfl, _⟩
  · omega
  · exact ⟨wv, vv, hv, g, cap, hpv⟩


set_option maxRecDepth 100000 in
set_option maxHeartbeats 2000000 in
theorem loop_any {blk : PS → PS} {f : Nat} (hblk : BlkOK B WV P ws blk f) (gd : Good blk) (hb : acB ws kWhile s = true) (hfu : ws.length < f + 1 + s.pos) (hphi : s.nodes.length + 2 * ws.length ≤ 60000 + 2 * s.pos) (h : IsQ B WV w P ws s F) :
    Calls Tryz.prog 187 #[.pointer (some ⟨P, 0, none⟩)] w fun e w' => e = .returned (.tuple #[]) ∧ ∃ F', IsQ B WV w' P ws (loS blk ws s) F' ∧ Stp F w F' w' := by
  have HQ := hide h
  have hp0 := h.f.2.1
  clear h
  have HE : Hid (exS ws kWhile s = s.adv) := hide (if_pos hb)
  have hpa : s.adv.pos = s.pos + 1 := rfl
  have hna : s.adv.nodes.length = s.nodes.length := rfl
  have hts := tsS_pos (ws := ws) (s := s.adv)
  have htn := tsS_nodes (ws := ws) (s := s.adv)
  have h1 := gd.pos (tsS ws s.adv)
  have h2 := gd.nodes (tsS ws s.adv)
  have h3 := gd.phi (tsS ws s.adv)
  have h4 := fb_le (blk (tsS ws s.adv))
  have HLO : Hid (loA blk ws s = blk (tsS ws s.adv)) := hide (by unfold loA; rw [unhide HE])
  have HBLK := hide hblk
  clear hblk hb
  go_enter Tryz.func187, Tryz.ntmps187
  go_wp2_with fail
  refine (expect_any kWhile (by decide) (unhide HQ)).mono ?_
  rintro e w1 ⟨rfl, hI1, hS1⟩
  rw [unhide HE] at hI1
  have HI1 := hide hI1
  have HS1 := hide hS1
  clear hI1 hS1
  go_wp2_with fail
  refine (test_any (s := s.adv) (by omega) (unhide HI1)).mono ?_
  rintro e w2 ⟨rfl, F2, hI2, hS2⟩
  have HI2 := hide hI2
  have HS2 := hide ((unhide HS1).trans hS2)
  clear hI2 hS2
  go_wp2_with fail
  refine (unhide HBLK _ _ _ (unhide HI2) (fun _ => by omega) (by omega)).mono ?_
  rintro e w3 ⟨rfl, F3, hI3, hS3⟩
  have HI3 := hide hI3
  have HS3 := hide ((unhide HS2).trans hS3)
  clear hI3 hS3
  have hp3 := (unhide HI3).f.2.1
  go_wp2_with fail
  refine (add_jmp (unhide HI3) (by omega)).mono ?_
  rintro e w4 ⟨rfl, F4, hI4, hS4⟩
  have HI4 := hide hI4
  have HS4 := hide ((unhide HS3).trans hS4)
  clear hI4 hS4
  obtain ⟨z, hz⟩ : ∃ z, z = blk (tsS ws s.adv) := ⟨_, rfl⟩
  rw [← hz] at HI4 h1 h2 h3 h4 HLO ⊢
  clear hz
  have hzn : (addS jmp z).nodes.length = z.nodes.length + 1 := by simp [addS]
  obtain ⟨wv, vv, hv, g, cap, hpv⟩ := (unhide HI4).nodesAt (by omega)
  obtain ⟨_, _, _, _, c5, _⟩ := hpv.readsV
  obtain ⟨⟨v4, hv4, hm4⟩, f4⟩ := hpv.nodeCell (z.nodes.length * 6 + 4) (by omega)
  obtain ⟨x4, rfl⟩ := nd_mem_int hm4
  rw [hzn] at c5
  have HPV := hide hpv
  clear hpv hm4
  go_wp2_with fail
  have hpv5 := (unhide HPV).setNode (z.nodes.length * 6 + 4) (.int .i64 (s.nodes.length : Int)) (setNx z.nodes.length s.nodes.length (addS jmp z).nodes) (nd_setNx _ _ _) (setNx_length _ _ _)
  have hst5 := (unhide HS4).setCell (p := ⟨g, z.nodes.length * 6 + 4, none⟩) (w := w4) ((unhide HPV).inF (unhide HS4)) (.int .i64 (s.nodes.length : Int))
  generalize w4.setCell ⟨g, z.nodes.length * 6 + 4, none⟩ (.int .i64 (s.nodes.length : Int)) = w5 at hpv5 hst5 ⊢
  clear c5 hv4 f4
  obtain ⟨y, hy⟩ : ∃ y : PS, y = { addS jmp z with nodes := setNx z.nodes.length s.nodes.length (addS jmp z).nodes } := ⟨_, rfl⟩
  have hyn : y.nodes.length = z.nodes.length + 1 := by rw [hy]; simp [setNx_length, addS]
  rw [← hy] at hpv5
  have HY := hide hy
  clear hy
  rw [show (addS jmp z).nodes.length = y.nodes.length by rw [hyn, hzn]] at hpv5
  obtain ⟨_, _, _, _, c5, _⟩ := hpv5.readsV
  obtain ⟨⟨v5, hv5, hm5⟩, f5⟩ := hpv5.nodeCell (s.nodes.length * 6 + 5) (by omega)
  obtain ⟨x5, rfl⟩ := nd_mem_int hm5
  have HPV5 := hide hpv5
  have HST5 := hide hst5
  clear hpv5 hst5 hm5
  rw [hyn] at c5
  go_region
  go_end0
  have hpv6 := (unhide HPV5).setNode (s.nodes.length * 6 + 5) (.int .i64 ((z.nodes.length : Int) + 1)) (setOt s.nodes.length (z.nodes.length + 1) y.nodes) (nd_setOt _ _ _) (setOt_length _ _ _)
  have hfin : loS blk ws s = { y with nodes := setOt s.nodes.length (z.nodes.length + 1) y.nodes } := by unfold loS; rw [unhide HLO, unhide HY, hzn]
  have hfit : Fit ws (loS blk ws s) := by rw [hfin, unhide HY]; exact (unhide HI4).f
  exact ⟨rfl, F4, ⟨by rw [hfin]; exact hpv6.is.drew, hfit⟩, ((unhide HST5).setCell (p := ⟨g, s.nodes.length * 6 + 5, none⟩) ((unhide HPV5).inF (unhide HST5)) _).drew⟩

end
end Go.Proofs.YtciihepbeacppaaGreat
