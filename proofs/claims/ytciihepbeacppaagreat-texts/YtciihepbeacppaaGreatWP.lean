import Derived.Test.YtciihepbeacppaaGreatWO
namespace Go.Proofs.YtciihepbeacppaaGreat
open Go.RowKit

def kNew : ByteArray := ⟨#[110, 101, 119]⟩
def kDot : ByteArray := ⟨#[46]⟩
def kN : ByteArray := ⟨#[110]⟩
def kSkip : ByteArray := ⟨#[115, 107, 105, 112]⟩
def kFree : ByteArray := ⟨#[102, 114, 101, 101]⟩

/-- condition: the sign -/
def coT (ws : List ByteArray) (s : PS) : PS := if acB ws kNe s then s.adv else exS ws kEq s
def coO (ws : List ByteArray) (s : PS) : Nat := if acB ws kNe s then 9 else 8
def coS (ws : List ByteArray) (s : PS) : PS := if acB ws kStar s then s.adv else valS ws (coT ws (vaS ws s))
def coN (ws : List ByteArray) (s : PS) : Nd :=
  if acB ws kStar s then ⟨7, 0, 0, 0, 0, 0⟩ else ⟨coO ws (vaS ws s), vaI ws s, valK ws (coT ws (vaS ws s)), valI ws (coT ws (vaS ws s)), 0, 0⟩
/-- test -/
def tsP (ws : List ByteArray) (s : PS) : PS := exS ws kClose (coS ws (exS ws kOpen s))
def tsS (ws : List ByteArray) (s : PS) : PS := addS (coN ws (exS ws kOpen s)) (tsP ws s)
/-- assignment -/
def asD (ws : List ByteArray) (s : PS) : Bool := valK ws s == 1 && acB ws kDot (valS ws s)
def asS (ws : List ByteArray) (s : PS) : PS := if acB ws kNew s then s.adv else if asD ws s then exS ws kN (valS ws s).adv else valS ws s
def asN (ws : List ByteArray) (v : Nat) (s : PS) : Nd := if acB ws kNew s then ⟨4, v, 0, 0, 0, 0⟩ else if asD ws s then ⟨2, v, valK ws s, valI ws s, 0, 0⟩ else ⟨1, v, valK ws s, valI ws s, 0, 0⟩
/-- simple -/
def siL (ws : List ByteArray) (s : PS) : PS := exS ws kEq (exS ws kN s.adv)
def siS (ws : List ByteArray) (s : PS) : PS :=
  if acB ws kSkip s then s.adv else if acB ws kFree s then vaS ws s.adv else if acB ws kDot (vaS ws s) then valS ws (siL ws (vaS ws s)) else asS ws (exS ws kEq (vaS ws s))
def siN (ws : List ByteArray) (s : PS) : Nd :=
  if acB ws kSkip s then ⟨6, 0, 0, 0, 0, 0⟩ else if acB ws kFree s then ⟨5, vaI ws s.adv, 0, 0, 0, 0⟩ else
  if acB ws kDot (vaS ws s) then ⟨3, vaI ws s, valK ws (siL ws (vaS ws s)), valI ws (siL ws (vaS ws s)), 0, 0⟩ else asN ws (vaI ws s) (exS ws kEq (vaS ws s))

section
variable {B : Nat} {WV : Value} {w : World} {P : Nat} {ws : List ByteArray} {s : PS} {F : List Nat}


set_option maxRecDepth 100000 in
set_option maxHeartbeats 2000000 in
theorem condition_any (h : IsQ B WV w P ws s F) :
    Calls Tryz.prog 247 #[.pointer (some ⟨P, 0, none⟩)] w fun e w' => e = .returned (.agg (coN ws s).cells.toArray) ∧ ∃ F', IsQ B WV w' P ws (coS ws s) F' ∧ Stp F w F' w' := by
  have HQ := hide h
  clear h
  cases hb : acB ws kStar s with
  | true =>
    have HN : Hid (coN ws s = ⟨7, 0, 0, 0, 0, 0⟩) := hide (if_pos hb)
    have HS : Hid (coS ws s = s.adv) := hide (if_pos hb)
    have HE : Hid (acS ws kStar s = s.adv) := hide (if_pos hb)
    have HB := hide hb
    clear hb
    go_enter Tryz.func247, Tryz.ntmps247
    have HA1 := fun o => hide (accept_any kStar (by decide) ((unhide HQ).alloc o))
    simp only [unhide HB, unhide HE] at HA1
    go_wp2_with fail
    refine (unhide (HA1 _)).mono ?_
    rintro e w1 ⟨rfl, hI1, hS1⟩
    have hT1 := ((Stp.refl F w).alloc _).trans hS1
    obtain ⟨hbr1, hnr1, hlr1⟩ := loc_new (unhide HQ).m hS1
    have HBr1 := hide hbr1
    have HI1 := hide hI1
    have HS1 := hide hT1
    clear hI1 hS1 hT1 hbr1
    obtain ⟨⟨qr0, qr1, qr2, qr3, qr4, qr5⟩, zr0, zr1, zr2, zr3, zr4, zr5⟩ := cellsR (unhide HBr1)
    clear HBr1
    go_wp2_with fail
    refine bodyPost_ret (v := .agg #[.int .i64 7, .int .i64 0, .int .i64 0, .int .i64 0, .int .i64 0, .int .i64 0]) (by simp [results, Tryz.results247, go_sem, qr0, qr1, qr2, qr3, qr4, qr5]) rfl ⟨by rw [unhide HN]; rfl, F, ?_, ?_⟩
    · rw [unhide HS]; exact (((((((unhide HI1).setOther hnr1 _).setOther hnr1 _).setOther hnr1 _).setOther hnr1 _).setOther hnr1 _).setOther hnr1 _)
    · exact (((((((unhide HS1).setCell (Or.inr (Nat.le_refl _)) _).setCell (Or.inr (Nat.le_refl _)) _).setCell (Or.inr (Nat.le_refl _)) _).setCell (Or.inr (Nat.le_refl _)) _).setCell (Or.inr (Nat.le_refl _)) _).setCell (Or.inr (Nat.le_refl _)) _)
  | false =>
    have HE : Hid (acS ws kStar s = s) := hide (if_neg (by simp [hb]))
    have HN : Hid (coN ws s = ⟨coO ws (vaS ws s), vaI ws s, valK ws (coT ws (vaS ws s)), valI ws (coT ws (vaS ws s)), 0, 0⟩) := hide (if_neg (by simp [hb]))
    have HS : Hid (coS ws s = valS ws (coT ws (vaS ws s))) := hide (if_neg (by simp [hb]))
    have HB := hide hb
    clear hb
    cases hb2 : acB ws kNe (vaS ws s) with
    | true =>
      have HO : Hid (coO ws (vaS ws s) = 9) := hide (if_pos hb2)
      have HT : Hid (coT ws (vaS ws s) = (vaS ws s).adv) := hide (if_pos hb2)
      have HE2 : Hid (acS ws kNe (vaS ws s) = (vaS ws s).adv) := hide (if_pos hb2)
      have HB2 := hide hb2
      clear hb2
      rw [unhide HO, unhide HT] at HN
      rw [unhide HT] at HS
      go_enter Tryz.func247, Tryz.ntmps247
      have HA1 := fun o => hide (accept_any kStar (by decide) ((unhide HQ).alloc o))
      simp only [unhide HB, unhide HE] at HA1
      go_wp2_with fail
      refine (unhide (HA1 _)).mono ?_
      rintro e w1 ⟨rfl, hI1, hS1⟩
      have hT1 := ((Stp.refl F w).alloc _).trans hS1
      obtain ⟨hbr1, hnr1, hlr1⟩ := loc_new (unhide HQ).m hS1
      have HBr1 := hide hbr1
      have HI1 := hide hI1
      have HS1 := hide hT1
      clear hI1 hS1 hT1 hbr1
      go_wp2_with fail
      refine (variable_any (unhide HI1)).mono ?_
      rintro e w2 ⟨rfl, F2, hI2, hS2⟩
      obtain ⟨hbr2, hnr2, hlr2⟩ := loc_keep (unhide HBr1) hnr1 hS2
      have HBr2 := hide hbr2
      have HI2 := hide hI2
      have HS2 := hide ((unhide HS1).trans hS2)
      clear hI2 hS2 hbr2
      have HA3 := accept_any kNe (by decide) (unhide HI2)
      rw [unhide HB2, unhide HE2] at HA3
      replace HA3 := hide HA3
      go_wp2_with fail
      refine (unhide HA3).mono ?_
      rintro e w3 ⟨rfl, hI3, hS3⟩
      obtain ⟨hbr3, hnr3, hlr3⟩ := loc_keep (unhide HBr2) hnr2 hS3
      have HBr3 := hide hbr3
      have HI3 := hide hI3
      have HS3 := hide ((unhide HS2).trans hS3)
      clear hI3 hS3 hbr3
      go_wp2_with fail
      refine (value_any (unhide HI3)).mono ?_
      rintro e w4 ⟨rfl, F4, hI4, hS4⟩
      obtain ⟨hbr4, hnr4, hlr4⟩ := loc_keep (unhide HBr3) hnr3 hS4
      have HBr4 := hide hbr4
      have HI4 := hide hI4
      have HS4 := hide ((unhide HS3).trans hS4)
      clear hI4 hS4 hbr4
      obtain ⟨⟨qr0, qr1, qr2, qr3, qr4, qr5⟩, zr0, zr1, zr2, zr3, zr4, zr5⟩ := cellsR (unhide HBr4)
      clear HBr4
      go_wp2_with fail
      refine bodyPost_ret (v := .agg #[.int .i64 9, .int .i64 (vaI ws s), .int .i64 (valK ws (vaS ws s).adv), .int .i64 (valI ws (vaS ws s).adv), .int .i64 0, .int .i64 0]) (by simp [results, Tryz.results247, go_sem, World.cell?_alloc_past, hlr4, qr0, qr1, qr2, qr3, qr4, qr5]) rfl ⟨by rw [unhide HN]; rfl, F4, ?_, ?_⟩
      · rw [unhide HS]; exact (((((((unhide HI4).setOther hnr4 _).setOther hnr4 _).setOther hnr4 _).setOther hnr4 _).setOther hnr4 _).setOther hnr4 _).alloc _
      · exact (((((((unhide HS4).setCell (Or.inr (Nat.le_refl _)) _).setCell (Or.inr (Nat.le_refl _)) _).setCell (Or.inr (Nat.le_refl _)) _).setCell (Or.inr (Nat.le_refl _)) _).setCell (Or.inr (Nat.le_refl _)) _).setCell (Or.inr (Nat.le_refl _)) _).alloc _
    | false =>
      have HO : Hid (coO ws (vaS ws s) = 8) := hide (if_neg (by simp [hb2]))
      have HT : Hid (coT ws (vaS ws s) = exS ws kEq (vaS ws s)) := hide (if_neg (by simp [hb2]))
      have HE2 : Hid (acS ws kNe (vaS ws s) = vaS ws s) := hide (if_neg (by simp [hb2]))
      have HB2 := hide hb2
      clear hb2
      rw [unhide HO, unhide HT] at HN
      rw [unhide HT] at HS
      go_enter Tryz.func247, Tryz.ntmps247
      have HA1 := fun o => hide (accept_any kStar (by decide) ((unhide HQ).alloc o))
      simp only [unhide HB, unhide HE] at HA1
      go_wp2_with fail
      refine (unhide (HA1 _)).mono ?_
      rintro e w1 ⟨rfl, hI1, hS1⟩
      have hT1 := ((Stp.refl F w).alloc _).trans hS1
      obtain ⟨hbr1, hnr1, hlr1⟩ := loc_new (unhide HQ).m hS1
      have HBr1 := hide hbr1
      have HI1 := hide hI1
      have HS1 := hide hT1
      clear hI1 hS1 hT1 hbr1
      go_wp2_with fail
      refine (variable_any (unhide HI1)).mono ?_
      rintro e w2 ⟨rfl, F2, hI2, hS2⟩
      obtain ⟨hbr2, hnr2, hlr2⟩ := loc_keep (unhide HBr1) hnr1 hS2
      have HBr2 := hide hbr2
      have HI2 := hide hI2
      have HS2 := hide ((unhide HS1).trans hS2)
      clear hI2 hS2 hbr2
      have HA3 := accept_any kNe (by decide) (unhide HI2)
      rw [unhide HB2, unhide HE2] at HA3
      replace HA3 := hide HA3
      go_wp2_with fail
      refine (unhide HA3).mono ?_
      rintro e w3 ⟨rfl, hI3, hS3⟩
      obtain ⟨hbr3, hnr3, hlr3⟩ := loc_keep (unhide HBr2) hnr2 hS3
      have HBr3 := hide hbr3
      have HI3 := hide hI3
      have HS3 := hide ((unhide HS2).trans hS3)
      clear hI3 hS3 hbr3
      go_wp2_with fail
      refine (expect_any kEq (by decide) (unhide HI3)).mono ?_
      rintro e w4 ⟨rfl, hI4, hS4⟩
      obtain ⟨hbr4, hnr4, hlr4⟩ := loc_keep (unhide HBr3) hnr3 hS4
      have HBr4 := hide hbr4
      have HI4 := hide hI4
      have HS4 := hide ((unhide HS3).trans hS4)
      clear hI4 hS4 hbr4
      go_wp2_with fail
      refine (value_any (unhide HI4)).mono ?_
      rintro e w5 ⟨rfl, F5, hI5, hS5⟩
      obtain ⟨hbr5, hnr5, hlr5⟩ := loc_keep (unhide HBr4) hnr4 hS5
      have HBr5 := hide hbr5
      have HI5 := hide hI5
      have HS5 := hide ((unhide HS4).trans hS5)
      clear hI5 hS5 hbr5
      obtain ⟨⟨qr0, qr1, qr2, qr3, qr4, qr5⟩, zr0, zr1, zr2, zr3, zr4, zr5⟩ := cellsR (unhide HBr5)
      clear HBr5
      go_wp2_with fail
      refine bodyPost_ret (v := .agg #[.int .i64 8, .int .i64 (vaI ws s), .int .i64 (valK ws (exS ws kEq (vaS ws s))), .int .i64 (valI ws (exS ws kEq (vaS ws s))), .int .i64 0, .int .i64 0]) (by simp [results, Tryz.results247, go_sem, World.cell?_alloc_past, hlr5, qr0, qr1, qr2, qr3, qr4, qr5]) rfl ⟨by rw [unhide HN]; rfl, F5, ?_, ?_⟩
      · rw [unhide HS]; exact (((((((unhide HI5).setOther hnr5 _).setOther hnr5 _).setOther hnr5 _).setOther hnr5 _).setOther hnr5 _).setOther hnr5 _).alloc _
      · exact (((((((unhide HS5).setCell (Or.inr (Nat.le_refl _)) _).setCell (Or.inr (Nat.le_refl _)) _).setCell (Or.inr (Nat.le_refl _)) _).setCell (Or.inr (Nat.le_refl _)) _).setCell (Or.inr (Nat.le_refl _)) _).setCell (Or.inr (Nat.le_refl _)) _).alloc _

end
end Go.Proofs.YtciihepbeacppaaGreat
