import Derived.Test.YtciihepbeacppaaGreatWP
namespace Go.Proofs.YtciihepbeacppaaGreat
open Go.RowKit

section
variable {ws : List ByteArray} {s : PS}
theorem exS_nodes (k : ByteArray) : (exS ws k s).nodes = s.nodes := by unfold exS; split <;> rfl
theorem vaS_nodes : (vaS ws s).nodes = s.nodes := by unfold vaS; split <;> rfl
theorem valS_nodes : (valS ws s).nodes = s.nodes := by unfold valS; split; rfl; exact vaS_nodes
theorem teS_nodes : (teS ws s).nodes = s.nodes := by unfold teS; split; rfl; exact valS_nodes
theorem coT_nodes : (coT ws s).nodes = s.nodes := by unfold coT; split; rfl; exact exS_nodes _
theorem coS_nodes : (coS ws s).nodes = s.nodes := by unfold coS; split; rfl; rw [valS_nodes, coT_nodes, vaS_nodes]
theorem tsP_nodes : (tsP ws s).nodes = s.nodes := by unfold tsP; rw [exS_nodes, coS_nodes, exS_nodes]
theorem asS_nodes : (asS ws s).nodes = s.nodes := by unfold asS; split; rfl; split; rw [exS_nodes]; exact valS_nodes; exact valS_nodes
theorem siS_nodes : (siS ws s).nodes = s.nodes := by
  unfold siS; split; rfl; split; rw [vaS_nodes]; rfl; split
  · rw [valS_nodes]; unfold siL; rw [exS_nodes, exS_nodes]; exact vaS_nodes
  · rw [asS_nodes, exS_nodes, vaS_nodes]
end

section
variable {B : Nat} {WV : Value} {w : World} {P : Nat} {ws : List ByteArray} {s : PS} {F : List Nat}


set_option maxRecDepth 100000 in
set_option maxHeartbeats 2000000 in
theorem test_any (hn : s.nodes.length ≤ 100000) (h : IsQ B WV w P ws s F) :
    Calls Tryz.prog 214 #[.pointer (some ⟨P, 0, none⟩)] w fun e w' => e = .returned (.int .i64 s.nodes.length) ∧ ∃ F', IsQ B WV w' P ws (tsS ws s) F' ∧ Stp F w F' w' := by
  have HQ := hide h
  clear h
  go_enter Tryz.func214, Tryz.ntmps214
  go_wp2_with fail
  refine (expect_any kOpen (by decide) (unhide HQ)).mono ?_
  rintro e w1 ⟨rfl, hI1, hS1⟩
  have HI1 := hide hI1
  have HS1 := hide hS1
  clear hI1 hS1
  go_wp2_with fail
  refine (condition_any (unhide HI1)).mono ?_
  rintro e w2 ⟨rfl, F2, hI2, hS2⟩
  have HI2 := hide hI2
  have HS2 := hide ((unhide HS1).trans hS2)
  clear hI2 hS2
  obtain ⟨A0, hA0⟩ : ∃ A0, A0 = coN ws (exS ws kOpen s) := ⟨_, rfl⟩
  have HA0 := hide hA0
  rw [← hA0]
  clear hA0
  obtain ⟨n0, n1, n2, n3, n4, n5⟩ := A0
  simp only [Nd.cells]
  go_wp2_with fail
  refine (expect_any kClose (by decide) ((unhide HI2).alloc _)).mono ?_
  rintro e w3 ⟨rfl, hI3, hS3⟩
  have hT3 := ((Stp.refl F2 w2).alloc _).trans hS3
  obtain ⟨hba3, hna3, hla3⟩ := loc_new (unhide HI2).m hS3
  have HBa3 := hide hba3
  have HI3 := hide hI3
  have HS3 := hide ((unhide HS2).trans hT3)
  clear hI3 hS3 hT3 hba3
  obtain ⟨⟨q0, q1, q2, q3, q4, q5⟩, _⟩ := cellsR (unhide HBa3)
  have hadd := add_any ⟨n0, n1, n2, n3, n4, n5⟩ (unhide HI3) (by show (tsP ws s).nodes.length ≤ 100000; rw [tsP_nodes]; exact hn)
  simp only [Nd.cells] at hadd
  have HADD := hide hadd
  clear hadd
  go_wp2_with fail
  refine (unhide HADD).mono ?_
  rintro e w4 ⟨rfl, F4, hI4, hS4⟩
  have HI4 := hide hI4
  have HS4 := hide ((unhide HS3).trans hS4)
  clear hI4 hS4
  go_wp2_with fail
  go_ret
  refine ⟨ret_int (by show (((tsP ws s).nodes.length : Nat) : Int) = _; rw [tsP_nodes]), F4, ?_, unhide HS4⟩
  unfold tsS; rw [← unhide HA0]; exact unhide HI4


set_option maxRecDepth 100000 in
set_option maxHeartbeats 2000000 in
theorem assignment_any (v : Nat) (h : IsQ B WV w P ws s F) :
    Calls Tryz.prog 216 #[.pointer (some ⟨P, 0, none⟩), .int .i64 (v : Int)] w fun e w' => e = .returned (.agg (asN ws v s).cells.toArray) ∧ ∃ F', IsQ B WV w' P ws (asS ws s) F' ∧ Stp F w F' w' := by
  have HQ := hide h
  clear h
  cases hb : acB ws kNew s with
  | true =>
    have HN : Hid (asN ws v s = ⟨4, v, 0, 0, 0, 0⟩) := hide (if_pos hb)
    have HS : Hid (asS ws s = s.adv) := hide (if_pos hb)
    have HE : Hid (acS ws kNew s = s.adv) := hide (if_pos hb)
    have HB := hide hb
    clear hb
    go_enter Tryz.func216, Tryz.ntmps216
    have HA1 := fun o => hide (accept_any kNew (by decide) ((unhide HQ).alloc o))
    simp only [unhide HB, unhide HE] at HA1
    go_wp2_with fail
    refine (unhide (HA1 _)).mono ?_
    rintro e w1 ⟨rfl, hI1, hS1⟩
    have hT1 := ((Stp.refl F w).alloc _).trans hS1
    obtain ⟨hbr1, hnr1, hlr1⟩ := loc_new (unhide HQ).m hS1
    have HBr1 := hide hbr1
    have HI1 := hide hI1
    have HS1 := hide hT1
    clear hI1 hS1 hT1 hbr1
    obtain ⟨⟨qr0, qr1, qr2, qr3, qr4, qr5⟩, zr0, zr1, zr2, zr3, zr4, zr5⟩ := cellsR (unhide HBr1)
    clear HBr1
    go_wp2_with fail
    refine bodyPost_ret (v := .agg #[.int .i64 4, .int .i64 v, .int .i64 0, .int .i64 0, .int .i64 0, .int .i64 0]) (by simp [results, Tryz.results216, go_sem, qr0, qr1, qr2, qr3, qr4, qr5]) rfl ⟨by rw [unhide HN]; rfl, F, ?_, ?_⟩
    · rw [unhide HS]; exact (((((((unhide HI1).setOther hnr1 _).setOther hnr1 _).setOther hnr1 _).setOther hnr1 _).setOther hnr1 _).setOther hnr1 _)
    · exact (((((((unhide HS1).setCell (Or.inr (Nat.le_refl _)) _).setCell (Or.inr (Nat.le_refl _)) _).setCell (Or.inr (Nat.le_refl _)) _).setCell (Or.inr (Nat.le_refl _)) _).setCell (Or.inr (Nat.le_refl _)) _).setCell (Or.inr (Nat.le_refl _)) _)
  | false =>
    have HE : Hid (acS ws kNew s = s) := hide (if_neg (by simp [hb]))
    have HB := hide hb
    cases hk : (valK ws s == 1) with
    | false =>
      have HN : Hid (asN ws v s = ⟨1, v, valK ws s, valI ws s, 0, 0⟩) := hide (by unfold asN asD; rw [hb, hk]; rfl)
      have HS : Hid (asS ws s = valS ws s) := hide (by unfold asS asD; rw [hb, hk]; rfl)
      have hkf : (((valK ws s : Nat) : Int) == 1) = false := by simp at hk ⊢; omega
      clear hb hk
      go_enter Tryz.func216, Tryz.ntmps216
      have HA1 := fun o => hide (accept_any kNew (by decide) ((unhide HQ).alloc o))
      simp only [unhide HB, unhide HE] at HA1
      go_wp2_with fail
      refine (unhide (HA1 _)).mono ?_
      rintro e w1 ⟨rfl, hI1, hS1⟩
      have hT1 := ((Stp.refl F w).alloc _).trans hS1
      obtain ⟨hbr1, hnr1, hlr1⟩ := loc_new (unhide HQ).m hS1
      have HBr1 := hide hbr1
      have HI1 := hide hI1
      have HS1 := hide hT1
      clear hI1 hS1 hT1 hbr1
      go_wp2_with fail
      refine (value_any (unhide HI1)).mono ?_
      rintro e w2 ⟨rfl, F2, hI2, hS2⟩
      obtain ⟨hbr2, hnr2, hlr2⟩ := loc_keep (unhide HBr1) hnr1 hS2
      have HBr2 := hide hbr2
      have HI2 := hide hI2
      have HS2 := hide ((unhide HS1).trans hS2)
      clear hI2 hS2 hbr2
      obtain ⟨⟨qr0, qr1, qr2, qr3, qr4, qr5⟩, zr0, zr1, zr2, zr3, zr4, zr5⟩ := cellsR (unhide HBr2)
      clear HBr2
      go_wp2_with fail
      refine bodyPost_ret (v := .agg #[.int .i64 1, .int .i64 v, .int .i64 (valK ws s), .int .i64 (valI ws s), .int .i64 0, .int .i64 0]) (by simp [results, Tryz.results216, go_sem, World.cell?_alloc_past, hlr2, qr0, qr1, qr2, qr3, qr4, qr5]) rfl ⟨by rw [unhide HN]; rfl, F2, ?_, ?_⟩
      · rw [unhide HS]; exact (((((((unhide HI2).setOther hnr2 _).setOther hnr2 _).setOther hnr2 _).setOther hnr2 _).setOther hnr2 _).setOther hnr2 _).alloc _
      · exact (((((((unhide HS2).setCell (Or.inr (Nat.le_refl _)) _).setCell (Or.inr (Nat.le_refl _)) _).setCell (Or.inr (Nat.le_refl _)) _).setCell (Or.inr (Nat.le_refl _)) _).setCell (Or.inr (Nat.le_refl _)) _).setCell (Or.inr (Nat.le_refl _)) _).alloc _
    | true =>
      have hkt : (((valK ws s : Nat) : Int) == 1) = true := by simp at hk ⊢; omega
      cases hd : acB ws kDot (valS ws s) with
      | false =>
        have HN : Hid (asN ws v s = ⟨1, v, valK ws s, valI ws s, 0, 0⟩) := hide (by unfold asN asD; rw [hb, hk, hd]; rfl)
        have HS : Hid (asS ws s = valS ws s) := hide (by unfold asS asD; rw [hb, hk, hd]; rfl)
        have HE2 : Hid (acS ws kDot (valS ws s) = valS ws s) := hide (if_neg (by simp [hd]))
        have HB2 := hide hd
        clear hb hk hd
        go_enter Tryz.func216, Tryz.ntmps216
        have HA1 := fun o => hide (accept_any kNew (by decide) ((unhide HQ).alloc o))
        simp only [unhide HB, unhide HE] at HA1
        go_wp2_with fail
        refine (unhide (HA1 _)).mono ?_
        rintro e w1 ⟨rfl, hI1, hS1⟩
        have hT1 := ((Stp.refl F w).alloc _).trans hS1
        obtain ⟨hbr1, hnr1, hlr1⟩ := loc_new (unhide HQ).m hS1
        have HBr1 := hide hbr1
        have HI1 := hide hI1
        have HS1 := hide hT1
        clear hI1 hS1 hT1 hbr1
        go_wp2_with fail
        refine (value_any (unhide HI1)).mono ?_
        rintro e w2 ⟨rfl, F2, hI2, hS2⟩
        obtain ⟨hbr2, hnr2, hlr2⟩ := loc_keep (unhide HBr1) hnr1 hS2
        have HBr2 := hide hbr2
        have HI2 := hide hI2
        have HS2 := hide ((unhide HS1).trans hS2)
        clear hI2 hS2 hbr2
        have HA3 := fun o => hide (accept_any kDot (by decide) ((unhide HI2).alloc o))
        simp only [unhide HB2, unhide HE2] at HA3
        go_wp2_with fail
        refine (unhide (HA3 _)).mono ?_
        rintro e w3 ⟨rfl, hI3, hS3⟩
        have hT3 := ((Stp.refl F2 w2).alloc _).trans hS3
        obtain ⟨hbr3, hnr3, hlr3⟩ := loc_keep (unhide HBr2) hnr2 hT3
        obtain ⟨hbb3, hnb3, hlb3⟩ := loc_new (unhide HI2).m hS3
        have HBr3 := hide hbr3
        have HBb3 := hide hbb3
        have HI3 := hide hI3
        have HS3 := hide ((unhide HS2).trans hT3)
        clear hI3 hS3 hT3 hbr3 hbb3
        obtain ⟨⟨qr0, qr1, qr2, qr3, qr4, qr5⟩, zr0, zr1, zr2, zr3, zr4, zr5⟩ := cellsR (unhide HBr3)
        clear HBr3
        obtain ⟨⟨qb0, qb1⟩, zb0, zb1⟩ := cells2 (unhide HBb3)
        go_wp2_with fail
        refine bodyPost_ret (v := .agg #[.int .i64 1, .int .i64 v, .int .i64 (valK ws s), .int .i64 (valI ws s), .int .i64 0, .int .i64 0]) (by simp [results, Tryz.results216, go_sem, qr0, qr1, qr2, qr3, qr4, qr5]) rfl ⟨by rw [unhide HN]; rfl, F2, ?_, ?_⟩
        · rw [unhide HS]; exact (((((((unhide HI3).setOther hnr3 _).setOther hnr3 _).setOther hnr3 _).setOther hnr3 _).setOther hnr3 _).setOther hnr3 _)
        · exact (((((((unhide HS3).setCell (Or.inr (Nat.le_refl _)) _).setCell (Or.inr (Nat.le_refl _)) _).setCell (Or.inr (Nat.le_refl _)) _).setCell (Or.inr (Nat.le_refl _)) _).setCell (Or.inr (Nat.le_refl _)) _).setCell (Or.inr (Nat.le_refl _)) _)
      | true =>
        have HN : Hid (asN ws v s = ⟨2, v, valK ws s, valI ws s, 0, 0⟩) := hide (by unfold asN asD; rw [hb, hk, hd]; rfl)
        have HS : Hid (asS ws s = exS ws kN (valS ws s).adv) := hide (by unfold asS asD; rw [hb, hk, hd]; rfl)
        have HE2 : Hid (acS ws kDot (valS ws s) = (valS ws s).adv) := hide (if_pos hd)
        have HB2 := hide hd
        clear hb hk hd
        go_enter Tryz.func216, Tryz.ntmps216
        have HA1 := fun o => hide (accept_any kNew (by decide) ((unhide HQ).alloc o))
        simp only [unhide HB, unhide HE] at HA1
        go_wp2_with fail
        refine (unhide (HA1 _)).mono ?_
        rintro e w1 ⟨rfl, hI1, hS1⟩
        have hT1 := ((Stp.refl F w).alloc _).trans hS1
        obtain ⟨hbr1, hnr1, hlr1⟩ := loc_new (unhide HQ).m hS1
        have HBr1 := hide hbr1
        have HI1 := hide hI1
        have HS1 := hide hT1
        clear hI1 hS1 hT1 hbr1
        go_wp2_with fail
        refine (value_any (unhide HI1)).mono ?_
        rintro e w2 ⟨rfl, F2, hI2, hS2⟩
        obtain ⟨hbr2, hnr2, hlr2⟩ := loc_keep (unhide HBr1) hnr1 hS2
        have HBr2 := hide hbr2
        have HI2 := hide hI2
        have HS2 := hide ((unhide HS1).trans hS2)
        clear hI2 hS2 hbr2
        have HA3 := fun o => hide (accept_any kDot (by decide) ((unhide HI2).alloc o))
        simp only [unhide HB2, unhide HE2] at HA3
        go_wp2_with fail
        refine (unhide (HA3 _)).mono ?_
        rintro e w3 ⟨rfl, hI3, hS3⟩
        have hT3 := ((Stp.refl F2 w2).alloc _).trans hS3
        obtain ⟨hbr3, hnr3, hlr3⟩ := loc_keep (unhide HBr2) hnr2 hT3
        obtain ⟨hbb3, hnb3, hlb3⟩ := loc_new (unhide HI2).m hS3
        have HBr3 := hide hbr3
        have HBb3 := hide hbb3
        have HI3 := hide hI3
        have HS3 := hide ((unhide HS2).trans hT3)
        clear hI3 hS3 hT3 hbr3 hbb3
        go_wp2_with fail
        refine (expect_any kN (by decide) (unhide HI3)).mono ?_
        rintro e w4 ⟨rfl, hI4, hS4⟩
        obtain ⟨hbr4, hnr4, hlr4⟩ := loc_keep (unhide HBr3) hnr3 hS4
        obtain ⟨hbb4, hnb4, hlb4⟩ := loc_keep (unhide HBb3) hnb3 hS4
        have HBr4 := hide hbr4
        have HBb4 := hide hbb4
        have HI4 := hide hI4
        have HS4 := hide ((unhide HS3).trans hS4)
        clear hI4 hS4 hbr4 hbb4
        obtain ⟨⟨qr0, qr1, qr2, qr3, qr4, qr5⟩, zr0, zr1, zr2, zr3, zr4, zr5⟩ := cellsR (unhide HBr4)
        clear HBr4
        obtain ⟨⟨qb0, qb1⟩, zb0, zb1⟩ := cells2 (unhide HBb4)
        go_wp2_with fail
        refine bodyPost_ret (v := .agg #[.int .i64 2, .int .i64 v, .int .i64 (valK ws s), .int .i64 (valI ws s), .int .i64 0, .int .i64 0]) (by simp [results, Tryz.results216, go_sem, qr0, qr1, qr2, qr3, qr4, qr5]) rfl ⟨by rw [unhide HN]; rfl, F2, ?_, ?_⟩
        · rw [unhide HS]; exact (((((((unhide HI4).setOther hnr4 _).setOther hnr4 _).setOther hnr4 _).setOther hnr4 _).setOther hnr4 _).setOther hnr4 _)
        · exact (((((((unhide HS4).setCell (Or.inr (Nat.le_refl _)) _).setCell (Or.inr (Nat.le_refl _)) _).setCell (Or.inr (Nat.le_refl _)) _).setCell (Or.inr (Nat.le_refl _)) _).setCell (Or.inr (Nat.le_refl _)) _).setCell (Or.inr (Nat.le_refl _)) _)


set_option maxRecDepth 100000 in
set_option maxHeartbeats 2000000 in
theorem simple_any (h : IsQ B WV w P ws s F) :
    Calls Tryz.prog 188 #[.pointer (some ⟨P, 0, none⟩)] w fun e w' => e = .returned (.agg (siN ws s).cells.toArray) ∧ ∃ F', IsQ B WV w' P ws (siS ws s) F' ∧ Stp F w F' w' := by
  have HQ := hide h
  clear h
  cases hb : acB ws kSkip s with
  | true =>
    have HN : Hid (siN ws s = ⟨6, 0, 0, 0, 0, 0⟩) := hide (if_pos hb)
    have HS : Hid (siS ws s = s.adv) := hide (if_pos hb)
    have HE : Hid (acS ws kSkip s = s.adv) := hide (if_pos hb)
    have HB := hide hb
    clear hb
    go_enter Tryz.func188, Tryz.ntmps188
    have HA1 := fun o => hide (accept_any kSkip (by decide) ((unhide HQ).alloc o))
    simp only [unhide HB, unhide HE] at HA1
    go_wp2_with fail
    refine (unhide (HA1 _)).mono ?_
    rintro e w1 ⟨rfl, hI1, hS1⟩
    have hT1 := ((Stp.refl F w).alloc _).trans hS1
    obtain ⟨hbr1, hnr1, hlr1⟩ := loc_new (unhide HQ).m hS1
    have HBr1 := hide hbr1
    have HI1 := hide hI1
    have HS1 := hide hT1
    clear hI1 hS1 hT1 hbr1
    obtain ⟨⟨qr0, qr1, qr2, qr3, qr4, qr5⟩, zr0, zr1, zr2, zr3, zr4, zr5⟩ := cellsR (unhide HBr1)
    clear HBr1
    go_wp2_with fail
    refine bodyPost_ret (v := .agg #[.int .i64 6, .int .i64 0, .int .i64 0, .int .i64 0, .int .i64 0, .int .i64 0]) (by simp [results, Tryz.results188, go_sem, qr0, qr1, qr2, qr3, qr4, qr5]) rfl ⟨by rw [unhide HN]; rfl, F, ?_, ?_⟩
    · rw [unhide HS]; exact (((((((unhide HI1).setOther hnr1 _).setOther hnr1 _).setOther hnr1 _).setOther hnr1 _).setOther hnr1 _).setOther hnr1 _)
    · exact (((((((unhide HS1).setCell (Or.inr (Nat.le_refl _)) _).setCell (Or.inr (Nat.le_refl _)) _).setCell (Or.inr (Nat.le_refl _)) _).setCell (Or.inr (Nat.le_refl _)) _).setCell (Or.inr (Nat.le_refl _)) _).setCell (Or.inr (Nat.le_refl _)) _)
  | false =>
    have HE : Hid (acS ws kSkip s = s) := hide (if_neg (by simp [hb]))
    have HB := hide hb
    cases hb2 : acB ws kFree s with
    | true =>
      have HN : Hid (siN ws s = ⟨5, vaI ws s.adv, 0, 0, 0, 0⟩) := hide (by unfold siN; rw [hb, hb2]; rfl)
      have HS : Hid (siS ws s = vaS ws s.adv) := hide (by unfold siS; rw [hb, hb2]; rfl)
      have HE2 : Hid (acS ws kFree s = s.adv) := hide (if_pos hb2)
      have HB2 := hide hb2
      clear hb hb2
      go_enter Tryz.func188, Tryz.ntmps188
      have HA1 := fun o => hide (accept_any kSkip (by decide) ((unhide HQ).alloc o))
      simp only [unhide HB, unhide HE] at HA1
      go_wp2_with fail
      refine (unhide (HA1 _)).mono ?_
      rintro e w1 ⟨rfl, hI1, hS1⟩
      have hT1 := ((Stp.refl F w).alloc _).trans hS1
      obtain ⟨hbr1, hnr1, hlr1⟩ := loc_new (unhide HQ).m hS1
      have HBr1 := hide hbr1
      have HI1 := hide hI1
      have HS1 := hide hT1
      clear hI1 hS1 hT1 hbr1
      have HA2 := accept_any kFree (by decide) (unhide HI1)
      rw [unhide HB2, unhide HE2] at HA2
      replace HA2 := hide HA2
      go_wp2_with fail
      refine (unhide HA2).mono ?_
      rintro e w2 ⟨rfl, hI2, hS2⟩
      obtain ⟨hbr2, hnr2, hlr2⟩ := loc_keep (unhide HBr1) hnr1 hS2
      have HBr2 := hide hbr2
      have HI2 := hide hI2
      have HS2 := hide ((unhide HS1).trans hS2)
      clear hI2 hS2 hbr2
      go_wp2_with fail
      refine (variable_any (unhide HI2)).mono ?_
      rintro e w3 ⟨rfl, F3, hI3, hS3⟩
      obtain ⟨hbr3, hnr3, hlr3⟩ := loc_keep (unhide HBr2) hnr2 hS3
      have HBr3 := hide hbr3
      have HI3 := hide hI3
      have HS3 := hide ((unhide HS2).trans hS3)
      clear hI3 hS3 hbr3
      obtain ⟨⟨qr0, qr1, qr2, qr3, qr4, qr5⟩, zr0, zr1, zr2, zr3, zr4, zr5⟩ := cellsR (unhide HBr3)
      clear HBr3
      go_wp2_with fail
      refine bodyPost_ret (v := .agg #[.int .i64 5, .int .i64 (vaI ws s.adv), .int .i64 0, .int .i64 0, .int .i64 0, .int .i64 0]) (by simp [results, Tryz.results188, go_sem, qr0, qr1, qr2, qr3, qr4, qr5]) rfl ⟨by rw [unhide HN]; rfl, F3, ?_, ?_⟩
      · rw [unhide HS]; exact (((((((unhide HI3).setOther hnr3 _).setOther hnr3 _).setOther hnr3 _).setOther hnr3 _).setOther hnr3 _).setOther hnr3 _)
      · exact (((((((unhide HS3).setCell (Or.inr (Nat.le_refl _)) _).setCell (Or.inr (Nat.le_refl _)) _).setCell (Or.inr (Nat.le_refl _)) _).setCell (Or.inr (Nat.le_refl _)) _).setCell (Or.inr (Nat.le_refl _)) _).setCell (Or.inr (Nat.le_refl _)) _)
    | false =>
      have HE2 : Hid (acS ws kFree s = s) := hide (if_neg (by simp [hb2]))
      have HB2 := hide hb2
      cases hb3 : acB ws kDot (vaS ws s) with
      | true =>
        have HN : Hid (siN ws s = ⟨3, vaI ws s, valK ws (siL ws (vaS ws s)), valI ws (siL ws (vaS ws s)), 0, 0⟩) := hide (by unfold siN; rw [hb, hb2, hb3]; rfl)
        have HS : Hid (siS ws s = valS ws (siL ws (vaS ws s))) := hide (by unfold siS; rw [hb, hb2, hb3]; rfl)
        have HE3 : Hid (acS ws kDot (vaS ws s) = (vaS ws s).adv) := hide (if_pos hb3)
        have HL : Hid (exS ws kEq (exS ws kN (vaS ws s).adv) = siL ws (vaS ws s)) := hide rfl
        have HB3 := hide hb3
        clear hb hb2 hb3
        go_enter Tryz.func188, Tryz.ntmps188
        have HA1 := fun o => hide (accept_any kSkip (by decide) ((unhide HQ).alloc o))
        simp only [unhide HB, unhide HE] at HA1
        go_wp2_with fail
        refine (unhide (HA1 _)).mono ?_
        rintro e w1 ⟨rfl, hI1, hS1⟩
        have hT1 := ((Stp.refl F w).alloc _).trans hS1
        obtain ⟨hbr1, hnr1, hlr1⟩ := loc_new (unhide HQ).m hS1
        have HBr1 := hide hbr1
        have HI1 := hide hI1
        have HS1 := hide hT1
        clear hI1 hS1 hT1 hbr1
        have HA2 := accept_any kFree (by decide) (unhide HI1)
        rw [unhide HB2, unhide HE2] at HA2
        replace HA2 := hide HA2
        go_wp2_with fail
        refine (unhide HA2).mono ?_
        rintro e w2 ⟨rfl, hI2, hS2⟩
        obtain ⟨hbr2, hnr2, hlr2⟩ := loc_keep (unhide HBr1) hnr1 hS2
        have HBr2 := hide hbr2
        have HI2 := hide hI2
        have HS2 := hide ((unhide HS1).trans hS2)
        clear hI2 hS2 hbr2
        go_wp2_with fail
        refine (variable_any (unhide HI2)).mono ?_
        rintro e w3 ⟨rfl, F3, hI3, hS3⟩
        obtain ⟨hbr3, hnr3, hlr3⟩ := loc_keep (unhide HBr2) hnr2 hS3
        have HBr3 := hide hbr3
        have HI3 := hide hI3
        have HS3 := hide ((unhide HS2).trans hS3)
        clear hI3 hS3 hbr3
        have HA4 := accept_any kDot (by decide) (unhide HI3)
        rw [unhide HB3, unhide HE3] at HA4
        replace HA4 := hide HA4
        go_wp2_with fail
        refine (unhide HA4).mono ?_
        rintro e w4 ⟨rfl, hI4, hS4⟩
        obtain ⟨hbr4, hnr4, hlr4⟩ := loc_keep (unhide HBr3) hnr3 hS4
        have HBr4 := hide hbr4
        have HI4 := hide hI4
        have HS4 := hide ((unhide HS3).trans hS4)
        clear hI4 hS4 hbr4
        go_wp2_with fail
        refine (expect_any kN (by decide) (unhide HI4)).mono ?_
        rintro e w5 ⟨rfl, hI5, hS5⟩
        obtain ⟨hbr5, hnr5, hlr5⟩ := loc_keep (unhide HBr4) hnr4 hS5
        have HBr5 := hide hbr5
        have HI5 := hide hI5
        have HS5 := hide ((unhide HS4).trans hS5)
        clear hI5 hS5 hbr5
        go_wp2_with fail
        refine (expect_any kEq (by decide) (unhide HI5)).mono ?_
        rintro e w6 ⟨rfl, hI6, hS6⟩
        rw [unhide HL] at hI6
        obtain ⟨hbr6, hnr6, hlr6⟩ := loc_keep (unhide HBr5) hnr5 hS6
        have HBr6 := hide hbr6
        have HI6 := hide hI6
        have HS6 := hide ((unhide HS5).trans hS6)
        clear hI6 hS6 hbr6
        go_wp2_with fail
        refine (value_any (unhide HI6)).mono ?_
        rintro e w7 ⟨rfl, F7, hI7, hS7⟩
        obtain ⟨hbr7, hnr7, hlr7⟩ := loc_keep (unhide HBr6) hnr6 hS7
        have HBr7 := hide hbr7
        have HI7 := hide hI7
        have HS7 := hide ((unhide HS6).trans hS7)
        clear hI7 hS7 hbr7
        obtain ⟨⟨qr0, qr1, qr2, qr3, qr4, qr5⟩, zr0, zr1, zr2, zr3, zr4, zr5⟩ := cellsR (unhide HBr7)
        clear HBr7
        go_wp2_with fail
        refine bodyPost_ret (v := .agg #[.int .i64 3, .int .i64 (vaI ws s), .int .i64 (valK ws (siL ws (vaS ws s))), .int .i64 (valI ws (siL ws (vaS ws s))), .int .i64 0, .int .i64 0]) (by simp [results, Tryz.results188, go_sem, World.cell?_alloc_past, hlr7, qr0, qr1, qr2, qr3, qr4, qr5]) rfl ⟨by rw [unhide HN]; rfl, F7, ?_, ?_⟩
        · rw [unhide HS]; exact (((((((unhide HI7).setOther hnr7 _).setOther hnr7 _).setOther hnr7 _).setOther hnr7 _).setOther hnr7 _).setOther hnr7 _).alloc _
        · exact (((((((unhide HS7).setCell (Or.inr (Nat.le_refl _)) _).setCell (Or.inr (Nat.le_refl _)) _).setCell (Or.inr (Nat.le_refl _)) _).setCell (Or.inr (Nat.le_refl _)) _).setCell (Or.inr (Nat.le_refl _)) _).setCell (Or.inr (Nat.le_refl _)) _).alloc _
      | false =>
        have HN : Hid (siN ws s = asN ws (vaI ws s) (exS ws kEq (vaS ws s))) := hide (by unfold siN; rw [hb, hb2, hb3]; rfl)
        have HS : Hid (siS ws s = asS ws (exS ws kEq (vaS ws s))) := hide (by unfold siS; rw [hb, hb2, hb3]; rfl)
        have HE3 : Hid (acS ws kDot (vaS ws s) = vaS ws s) := hide (if_neg (by simp [hb3]))
        have HB3 := hide hb3
        clear hb hb2 hb3
        go_enter Tryz.func188, Tryz.ntmps188
        have HA1 := fun o => hide (accept_any kSkip (by decide) ((unhide HQ).alloc o))
        simp only [unhide HB, unhide HE] at HA1
        go_wp2_with fail
        refine (unhide (HA1 _)).mono ?_
        rintro e w1 ⟨rfl, hI1, hS1⟩
        have hT1 := ((Stp.refl F w).alloc _).trans hS1
        obtain ⟨hbr1, hnr1, hlr1⟩ := loc_new (unhide HQ).m hS1
        have HBr1 := hide hbr1
        have HI1 := hide hI1
        have HS1 := hide hT1
        clear hI1 hS1 hT1 hbr1
        have HA2 := accept_any kFree (by decide) (unhide HI1)
        rw [unhide HB2, unhide HE2] at HA2
        replace HA2 := hide HA2
        go_wp2_with fail
        refine (unhide HA2).mono ?_
        rintro e w2 ⟨rfl, hI2, hS2⟩
        obtain ⟨hbr2, hnr2, hlr2⟩ := loc_keep (unhide HBr1) hnr1 hS2
        have HBr2 := hide hbr2
        have HI2 := hide hI2
        have HS2 := hide ((unhide HS1).trans hS2)
        clear hI2 hS2 hbr2
        go_wp2_with fail
        refine (variable_any (unhide HI2)).mono ?_
        rintro e w3 ⟨rfl, F3, hI3, hS3⟩
        obtain ⟨hbr3, hnr3, hlr3⟩ := loc_keep (unhide HBr2) hnr2 hS3
        have HBr3 := hide hbr3
        have HI3 := hide hI3
        have HS3 := hide ((unhide HS2).trans hS3)
        clear hI3 hS3 hbr3
        have HA4 := accept_any kDot (by decide) (unhide HI3)
        rw [unhide HB3, unhide HE3] at HA4
        replace HA4 := hide HA4
        go_wp2_with fail
        refine (unhide HA4).mono ?_
        rintro e w4 ⟨rfl, hI4, hS4⟩
        obtain ⟨hbr4, hnr4, hlr4⟩ := loc_keep (unhide HBr3) hnr3 hS4
        have HBr4 := hide hbr4
        have HI4 := hide hI4
        have HS4 := hide ((unhide HS3).trans hS4)
        clear hI4 hS4 hbr4
        go_wp2_with fail
        refine (expect_any kEq (by decide) (unhide HI4)).mono ?_
        rintro e w5 ⟨rfl, hI5, hS5⟩
        obtain ⟨hbr5, hnr5, hlr5⟩ := loc_keep (unhide HBr4) hnr4 hS5
        have HBr5 := hide hbr5
        have HI5 := hide hI5
        have HS5 := hide ((unhide HS4).trans hS5)
        clear hI5 hS5 hbr5
        go_wp2_with fail
        refine (assignment_any (vaI ws s) (unhide HI5)).mono ?_
        rintro e w6 ⟨rfl, F6, hI6, hS6⟩
        obtain ⟨hbr6, hnr6, hlr6⟩ := loc_keep (unhide HBr5) hnr5 hS6
        have HBr6 := hide hbr6
        have HI6 := hide hI6
        have HS6 := hide ((unhide HS5).trans hS6)
        clear hI6 hS6 hbr6
        obtain ⟨A0, hA0⟩ : ∃ A0, A0 = asN ws (vaI ws s) (exS ws kEq (vaS ws s)) := ⟨_, rfl⟩
        have HA0 := hide hA0
        rw [← hA0] at HN ⊢
        clear hA0
        obtain ⟨n0, n1, n2, n3, n4, n5⟩ := A0
        simp only [Nd.cells]
        obtain ⟨⟨qr0, qr1, qr2, qr3, qr4, qr5⟩, zr0, zr1, zr2, zr3, zr4, zr5⟩ := cellsR (unhide HBr6)
        clear HBr6
        go_wp2_with fail
        refine bodyPost_ret (v := .agg #[.int .i64 n0, .int .i64 n1, .int .i64 n2, .int .i64 n3, .int .i64 n4, .int .i64 n5]) (by simp [results, Tryz.results188, go_sem, qr0, qr1, qr2, qr3, qr4, qr5]) rfl ⟨by rw [unhide HN]; rfl, F6, ?_, ?_⟩
        · rw [unhide HS]; exact (((((((unhide HI6).setOther hnr6 _).setOther hnr6 _).setOther hnr6 _).setOther hnr6 _).setOther hnr6 _).setOther hnr6 _)
        · exact (((((((unhide HS6).setCell (Or.inr (Nat.le_refl _)) _).setCell (Or.inr (Nat.le_refl _)) _).setCell (Or.inr (Nat.le_refl _)) _).setCell (Or.inr (Nat.le_refl _)) _).setCell (Or.inr (Nat.le_refl _)) _).setCell (Or.inr (Nat.le_refl _)) _)

end
end Go.Proofs.YtciihepbeacppaaGreat
