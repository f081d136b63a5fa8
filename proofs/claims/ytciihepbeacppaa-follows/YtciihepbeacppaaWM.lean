import Derived.Test.YtciihepbeacppaaWL
import Derived.Deep.LoopGhost
namespace Go.Proofs.Ytciihepbeacppaa
open Go.RowKit

def atS (ws : List ByteArray) (s : PS) : PS := if acB ws kEmp s then s.adv else if acB ws kLs s then liS ws s.adv else teS ws (relS ws (teS ws s))
def atA (ws : List ByteArray) (s : PS) : Atm :=
  if acB ws kEmp s then ⟨0, 0, 0, 0, 0⟩ else if acB ws kLs s then liA ws s.adv else ⟨relK ws (teS ws s), teK ws s, teI ws s, teK ws (relS ws (teS ws s)), teI ws (relS ws (teS ws s))⟩
def atCells (l : List Atm) : List Value := l.flatMap Atm.cells

/-- the atoms behind the first -/
def foG (ws : List ByteArray) : Nat → PS → List Atm × PS
  | 0, s => ([], s)
  | n + 1, s => if acB ws kStar s then (atA ws s.adv :: (foG ws n (atS ws s.adv)).1, (foG ws n (atS ws s.adv)).2) else ([], s)
def foA (ws : List ByteArray) (s : PS) : List Atm := atA ws s :: (foG ws (ws.length + 1) (atS ws s)).1
def foS (ws : List ByteArray) (s : PS) : PS := (foG ws (ws.length + 1) (atS ws s)).2

section
variable {ws : List ByteArray} {s : PS}
theorem adv_pos : s.pos ≤ s.adv.pos := Nat.le_succ _
theorem exS_pos (k : ByteArray) : s.pos ≤ (exS ws k s).pos := by unfold exS; split; exact adv_pos; exact Nat.le_refl _
theorem vaS_pos : s.pos ≤ (vaS ws s).pos := by unfold vaS; split; exact Nat.le_succ _; exact Nat.le_refl _
theorem valS_pos : s.pos ≤ (valS ws s).pos := by unfold valS; split; exact adv_pos; exact vaS_pos
theorem teS_pos : s.pos ≤ (teS ws s).pos := by unfold teS; split; exact Nat.le_succ _; exact valS_pos
theorem relS_pos : s.pos ≤ (relS ws s).pos := by unfold relS; split; exact adv_pos; split; exact adv_pos; exact exS_pos _
theorem liS_pos : s.pos ≤ (liS ws s).pos := by
  unfold liS liS2 liS1
  exact Nat.le_trans (Nat.le_trans (Nat.le_trans (Nat.le_trans (exS_pos _) teS_pos) (exS_pos _)) teS_pos) (exS_pos _)
theorem atS_pos : s.pos ≤ (atS ws s).pos := by
  unfold atS; split
  · exact adv_pos
  · split
    · exact Nat.le_trans adv_pos liS_pos
    · exact Nat.le_trans (Nat.le_trans teS_pos relS_pos) teS_pos
end

section
variable {B : Nat} {WV : Value} {w : World} {P : Nat} {ws : List ByteArray} {s : PS} {F : List Nat} {wv vv hv nv : Value}

set_option maxRecDepth 100000 in
set_option maxHeartbeats 2000000 in
theorem atom_any (h : IsQ B WV w P ws s F) :
    Calls Try.prog 41 #[.pointer (some ⟨P, 0, none⟩)] w fun e w' => e = .returned (.agg (atA ws s).cells.toArray) ∧ ∃ F', IsQ B WV w' P ws (atS ws s) F' ∧ Stp F w F' w' := by
  have HQ := hide h
  have HA := fun o => hide (accept_any kEmp (by decide) (h.alloc o))
  clear h
  cases hb : acB ws kEmp s with
  | true =>
    have HK : Hid (atA ws s = ⟨0, 0, 0, 0, 0⟩) := hide (if_pos hb)
    have HS : Hid (atS ws s = acS ws kEmp s) := hide (by unfold atS acS; rw [if_pos hb, if_pos hb])
    simp only [hb] at HA
    clear hb
    go_enter Try.func41, Try.ntmps41
    go_wp2_with fail
    refine (unhide (HA _)).mono ?_
    rintro e w1 ⟨rfl, hI1, hS1⟩
    obtain ⟨hb1, hn1, hl1⟩ := loc_new (unhide HQ).m hS1
    obtain ⟨⟨a0, a1, a2, a3, a4⟩, g0, g1, g2, g3, g4⟩ := cells5 hb1
    have HI1 := hide hI1
    have HS1 := hide (((Stp.refl F w).alloc _).trans hS1)
    clear hb1 hI1 hS1
    go_wp2_with fail
    refine bodyPost_ret (v := .agg #[.int .i64 0, .int .i64 0, .int .i64 0, .int .i64 0, .int .i64 0]) (by simp [results, Try.results41, go_sem, a0, a1, a2, a3, a4]) rfl ⟨by rw [unhide HK]; rfl, F, ?_, ?_⟩
    · rw [unhide HS]; exact (((((unhide HI1).setOther hn1 _).setOther hn1 _).setOther hn1 _).setOther hn1 _).setOther hn1 _
    · exact (((((unhide HS1).setCell (Or.inr (Nat.le_refl _)) _).setCell (Or.inr (Nat.le_refl _)) _).setCell (Or.inr (Nat.le_refl _)) _).setCell (Or.inr (Nat.le_refl _)) _).setCell (Or.inr (Nat.le_refl _)) _
  | false =>
    have HS0 : Hid (acS ws kEmp s = s) := hide (if_neg (by simp [hb]))
    simp only [hb] at HA
    cases hb2 : acB ws kLs s with
    | true =>
      have HK : Hid (atA ws s = liA ws s.adv) := hide (by unfold atA; rw [hb, hb2]; rfl)
      have HS : Hid (atS ws s = liS ws s.adv) := hide (by unfold atS; rw [hb, hb2]; rfl)
      have HS02 : Hid (acS ws kLs s = s.adv) := hide (if_pos hb2)
      have HB2 := hide hb2
      clear hb hb2
      go_enter Try.func41, Try.ntmps41
      go_wp2_with fail
      refine (unhide (HA _)).mono ?_
      rintro e w1 ⟨rfl, hI1, hS1⟩
      obtain ⟨hb1, hn1, hl1⟩ := loc_new (unhide HQ).m hS1
      rw [unhide HS0] at hI1
      have HB1 := hide hb1
      have HS1 := hide (((Stp.refl F w).alloc _).trans hS1)
      have HA2 := accept_any kLs (by decide) hI1
      rw [unhide HB2, unhide HS02] at HA2
      replace HA2 := hide HA2
      clear hb1 hI1 hS1
      go_wp2_with fail
      refine (unhide HA2).mono ?_
      rintro e w2 ⟨rfl, hI2, hS2⟩
      obtain ⟨hb2, hn2, hl2⟩ := loc_keep (unhide HB1) hn1 hS2
      have HB2 := hide hb2
      have HI2 := hide hI2
      have HS2 := hide ((unhide HS1).trans hS2)
      clear hb2 hI2 hS2
      go_wp2_with fail
      refine (list_any (unhide HI2)).mono ?_
      rintro e w3 ⟨rfl, F3, hI3, hS3⟩
      obtain ⟨hb3, hn3, hl3⟩ := loc_keep (unhide HB2) hn2 hS3
      obtain ⟨⟨a0, a1, a2, a3, a4⟩, g0, g1, g2, g3, g4⟩ := cells5 hb3
      have HI3 := hide hI3
      have HS3 := hide ((unhide HS2).trans hS3)
      clear hb3 hI3 hS3
      obtain ⟨k0, k1, k2, k3, k4, hat⟩ : ∃ k0 k1 k2 k3 k4, liA ws s.adv = ⟨k0, k1, k2, k3, k4⟩ := ⟨_, _, _, _, _, rfl⟩
      rw [hat] at HK ⊢
      clear hat
      simp only [Atm.cells]
      go_wp2_with fail
      refine bodyPost_ret (v := .agg #[.int .i64 k0, .int .i64 k1, .int .i64 k2, .int .i64 k3, .int .i64 k4]) (by simp [results, Try.results41, go_sem, a0, a1, a2, a3, a4]) rfl ⟨by rw [unhide HK]; rfl, F3, ?_, ?_⟩
      · rw [unhide HS]; exact (((((unhide HI3).setOther hn3 _).setOther hn3 _).setOther hn3 _).setOther hn3 _).setOther hn3 _
      · exact (((((unhide HS3).setCell (Or.inr (Nat.le_refl _)) _).setCell (Or.inr (Nat.le_refl _)) _).setCell (Or.inr (Nat.le_refl _)) _).setCell (Or.inr (Nat.le_refl _)) _).setCell (Or.inr (Nat.le_refl _)) _
    | false =>
      have HK : Hid (atA ws s = ⟨relK ws (teS ws s), teK ws s, teI ws s, teK ws (relS ws (teS ws s)), teI ws (relS ws (teS ws s))⟩) := hide (by unfold atA; rw [hb, hb2]; rfl)
      have HS : Hid (atS ws s = teS ws (relS ws (teS ws s))) := hide (by unfold atS; rw [hb, hb2]; rfl)
      have HS02 : Hid (acS ws kLs s = s) := hide (if_neg (by simp [hb2]))
      have HB2 := hide hb2
      clear hb hb2
      go_enter Try.func41, Try.ntmps41
      go_wp2_with fail
      refine (unhide (HA _)).mono ?_
      rintro e w1 ⟨rfl, hI1, hS1⟩
      obtain ⟨hb1, hn1, hl1⟩ := loc_new (unhide HQ).m hS1
      rw [unhide HS0] at hI1
      have HB1 := hide hb1
      have HS1 := hide (((Stp.refl F w).alloc _).trans hS1)
      have HA2 := accept_any kLs (by decide) hI1
      rw [unhide HB2, unhide HS02] at HA2
      replace HA2 := hide HA2
      clear hb1 hI1 hS1
      go_wp2_with fail
      refine (unhide HA2).mono ?_
      rintro e w2 ⟨rfl, hI2, hS2⟩
      obtain ⟨hb2, hn2, hl2⟩ := loc_keep (unhide HB1) hn1 hS2
      have HB2 := hide hb2
      have HI2 := hide hI2
      have HS2 := hide ((unhide HS1).trans hS2)
      clear hb2 hI2 hS2
      go_wp2_with fail
      refine (term_any (unhide HI2)).mono ?_
      rintro e w3 ⟨rfl, F3, hI3, hS3⟩
      obtain ⟨hb3, hn3, hl3⟩ := loc_keep (unhide HB2) hn2 hS3
      have HB3 := hide hb3
      have HI3 := hide hI3
      have HS3 := hide ((unhide HS2).trans hS3)
      clear hb3 hI3 hS3
      go_wp2_with fail
      refine (relation_any ((unhide HI3).alloc _)).mono ?_
      rintro e w4 ⟨rfl, hI4, hS4⟩
      obtain ⟨hb4, hn4, hl4⟩ := loc_keep (unhide HB3) hn3 (((Stp.refl F3 w3).alloc _).trans hS4)
      obtain ⟨hc4, hm4, hk4⟩ := loc_new (unhide HI3).m hS4
      have HB4 := hide hb4
      have HC4 := hide hc4
      have HI4 := hide hI4
      have HS4 := hide ((unhide HS3).trans (((Stp.refl F3 w3).alloc _).trans hS4))
      clear hb4 hc4 hI4 hS4
      go_wp2_with fail
      refine (term_any (unhide HI4)).mono ?_
      rintro e w5 ⟨rfl, F5, hI5, hS5⟩
      obtain ⟨hb5, hn5, hl5⟩ := loc_keep (unhide HB4) hn4 hS5
      obtain ⟨hc5, hm5, hk5⟩ := loc_keep (unhide HC4) hm4 hS5
      obtain ⟨⟨a0, a1, a2, a3, a4⟩, g0, g1, g2, g3, g4⟩ := cells5 hb5
      obtain ⟨⟨d0, d1⟩, e0, e1⟩ := cells2 hc5
      have HI5 := hide hI5
      have HS5 := hide ((unhide HS4).trans hS5)
      clear hb5 hc5 hI5 hS5
      go_wp2_with fail
      refine bodyPost_ret (v := .agg #[.int .i64 (relK ws (teS ws s)), .int .i64 (teK ws s), .int .i64 (teI ws s), .int .i64 (teK ws (relS ws (teS ws s))), .int .i64 (teI ws (relS ws (teS ws s)))]) (by simp [results, Try.results41, go_sem, World.cell?_alloc_past, hl5, a0, a1, a2, a3, a4]) rfl ⟨by rw [unhide HK]; rfl, F5, ?_, ?_⟩
      · rw [unhide HS]; exact ((((((unhide HI5).setOther hn5 _).setOther hn5 _).setOther hn5 _).setOther hn5 _).setOther hn5 _).alloc _
      · exact ((((((unhide HS5).setCell (Or.inr (Nat.le_refl _)) _).setCell (Or.inr (Nat.le_refl _)) _).setCell (Or.inr (Nat.le_refl _)) _).setCell (Or.inr (Nat.le_refl _)) _).setCell (Or.inr (Nat.le_refl _)) _).alloc _
end
end Go.Proofs.Ytciihepbeacppaa
