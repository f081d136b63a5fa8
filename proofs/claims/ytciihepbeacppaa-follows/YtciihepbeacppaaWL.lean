import Derived.Test.YtciihepbeacppaaWK
namespace Go.Proofs.Ytciihepbeacppaa
open Go.RowKit

def kEq : ByteArray := ⟨#[61]⟩
def kNe : ByteArray := ⟨#[33, 61]⟩
def kTo : ByteArray := ⟨#[45, 62]⟩
def kOpen : ByteArray := ⟨#[40]⟩
def kComma : ByteArray := ⟨#[44]⟩
def kClose : ByteArray := ⟨#[41]⟩
def kEmp : ByteArray := ⟨#[101, 109, 112]⟩
def kLs : ByteArray := ⟨#[108, 115]⟩
def kStar : ByteArray := ⟨#[42]⟩

def relK (ws : List ByteArray) (s : PS) : Nat := if acB ws kEq s then 1 else if acB ws kNe s then 2 else 3
def relS (ws : List ByteArray) (s : PS) : PS := if acB ws kEq s then s.adv else if acB ws kNe s then s.adv else exS ws kTo s

/-- an atom: Kind, Left, Right -/
structure Atm where
  k : Nat
  lk : Nat
  li : Nat
  rk : Nat
  ri : Nat
def Atm.cells (a : Atm) : List Value := [.int .i64 a.k, .int .i64 a.lk, .int .i64 a.li, .int .i64 a.rk, .int .i64 a.ri]

section
variable {B : Nat} {WV : Value} {w : World} {P : Nat} {ws : List ByteArray} {s : PS} {F : List Nat} {wv vv hv nv : Value}

set_option maxRecDepth 100000 in
set_option maxHeartbeats 2000000 in
theorem relation_any (h : IsQ B WV w P ws s F) :
    Calls Try.prog 52 #[.pointer (some ⟨P, 0, none⟩)] w fun e w' => e = .returned (.int .i64 (relK ws s)) ∧ IsQ B WV w' P ws (relS ws s) F ∧ Stp F w F w' := by
  have HQ := hide h
  have HA := hide (accept_any kEq (by decide) h)
  clear h
  cases hb : acB ws kEq s with
  | true =>
    have HK : Hid (relK ws s = 1) := hide (if_pos hb)
    have HS : Hid (relS ws s = acS ws kEq s) := hide (by unfold relS acS; rw [if_pos hb, if_pos hb])
    simp only [hb] at HA
    clear hb
    go_enter Try.func52, Try.ntmps52
    go_wp2_with (go_at_call 42; refine (unhide HA).mono ?_; rintro e w' ⟨rfl, hI, hS⟩)
    go_ret
    exact ⟨ret_int (by rw [unhide HK]; rfl), by rw [unhide HS]; exact hI, hS⟩
  | false =>
    have HS0 : Hid (acS ws kEq s = s) := hide (if_neg (by simp [hb]))
    simp only [hb] at HA
    cases hb2 : acB ws kNe s with
    | true =>
      have HK : Hid (relK ws s = 2) := hide (by unfold relK; rw [hb, hb2]; rfl)
      have HS : Hid (relS ws s = acS ws kNe s) := hide (by unfold relS acS; rw [hb, hb2]; rfl)
      have HB2 := hide hb2
      clear hb hb2
      go_enter Try.func52, Try.ntmps52
      go_wp2_with fail
      refine (unhide HA).mono ?_
      rintro e w1 ⟨rfl, hI, hS⟩
      rw [unhide HS0] at hI
      have HA2 := accept_any kNe (by decide) hI
      rw [unhide HB2] at HA2
      have HA2 := hide HA2
      clear hI
      have HS1 := hide hS
      clear hS
      go_wp2_with fail
      refine (unhide HA2).mono ?_
      rintro e w2 ⟨rfl, hI2, hS2⟩
      go_wp2_with fail
      go_ret
      exact ⟨ret_int (by rw [unhide HK]; rfl), by rw [unhide HS]; exact hI2, (unhide HS1).trans hS2⟩
    | false =>
      have HK : Hid (relK ws s = 3) := hide (by unfold relK; rw [hb, hb2]; rfl)
      have HS : Hid (relS ws s = exS ws kTo s) := hide (by unfold relS; rw [hb, hb2]; rfl)
      have HS02 : Hid (acS ws kNe s = s) := hide (if_neg (by simp [hb2]))
      have HB2 := hide hb2
      clear hb hb2
      go_enter Try.func52, Try.ntmps52
      go_wp2_with fail
      refine (unhide HA).mono ?_
      rintro e w1 ⟨rfl, hI, hS⟩
      rw [unhide HS0] at hI
      have HA2 := accept_any kNe (by decide) hI
      rw [unhide HB2, unhide HS02] at HA2
      have HA2 := hide HA2
      clear hI
      have HS1 := hide hS
      clear hS
      go_wp2_with fail
      refine (unhide HA2).mono ?_
      rintro e w2 ⟨rfl, hI2, hS2⟩
      have HE := hide (expect_any kTo (by decide) hI2)
      clear hI2
      go_wp2_with fail
      refine (unhide HE).mono ?_
      rintro e w3 ⟨rfl, hI3, hS3⟩
      go_wp2_with fail
      go_ret
      exact ⟨ret_int (by rw [unhide HK]; rfl), by rw [unhide HS]; exact hI3, ((unhide HS1).trans hS2).trans hS3⟩

theorem cells5 {r : Nat} {a b c d e : Value} {T : TypeId} (h : w.heap[r]? = some (.cells #[a, b, c, d, e] T (0, 0))) :
    (w.cell? ⟨r, 0, none⟩ = some a ∧ w.cell? ⟨r, 1, none⟩ = some b ∧ w.cell? ⟨r, 2, none⟩ = some c ∧ w.cell? ⟨r, 3, none⟩ = some d ∧ w.cell? ⟨r, 4, none⟩ = some e) ∧
    w.frozen? ⟨r, 0, none⟩ = false ∧ w.frozen? ⟨r, 1, none⟩ = false ∧ w.frozen? ⟨r, 2, none⟩ = false ∧ w.frozen? ⟨r, 3, none⟩ = false ∧ w.frozen? ⟨r, 4, none⟩ = false := by
  refine ⟨⟨?_, ?_, ?_, ?_, ?_⟩, ?_, ?_, ?_, ?_, ?_⟩ <;> simp [World.cell?, World.frozen?, h]

def liS1 (ws : List ByteArray) (s : PS) : PS := exS ws kOpen s
def liS2 (ws : List ByteArray) (s : PS) : PS := exS ws kComma (teS ws (liS1 ws s))
def liS (ws : List ByteArray) (s : PS) : PS := exS ws kClose (teS ws (liS2 ws s))
def liA (ws : List ByteArray) (s : PS) : Atm := ⟨4, teK ws (liS1 ws s), teI ws (liS1 ws s), teK ws (liS2 ws s), teI ws (liS2 ws s)⟩

set_option maxRecDepth 100000 in
set_option maxHeartbeats 2000000 in
theorem list_any (h : IsQ B WV w P ws s F) :
    Calls Try.prog 50 #[.pointer (some ⟨P, 0, none⟩)] w fun e w' => e = .returned (.agg (liA ws s).cells.toArray) ∧ ∃ F', IsQ B WV w' P ws (liS ws s) F' ∧ Stp F w F' w' := by
  have HQ := hide h
  have HA := fun o => hide (expect_any kOpen (by decide) (h.alloc o))
  clear h
  go_enter Try.func50, Try.ntmps50
  go_wp2_with fail
  refine (unhide (HA _)).mono ?_
  rintro e w1 ⟨rfl, hI1, hS1⟩
  obtain ⟨hb1, hn1, hl1⟩ := loc_new (unhide HQ).m hS1
  have HB1 := hide hb1
  have HI1 := hide hI1
  have HS1 := hide (((Stp.refl F w).alloc _).trans hS1)
  clear hb1 hI1 hS1
  go_wp2_with fail
  refine (term_any (unhide HI1)).mono ?_
  rintro e w2 ⟨rfl, F2, hI2, hS2⟩
  obtain ⟨hb2, hn2, hl2⟩ := loc_keep (unhide HB1) hn1 hS2
  have HB2 := hide hb2
  have HI2 := hide hI2
  have HS2 := hide ((unhide HS1).trans hS2)
  clear hb2 hI2 hS2
  go_wp2_with fail
  refine (expect_any kComma (by decide) ((unhide HI2).alloc _)).mono ?_
  rintro e w3 ⟨rfl, hI3, hS3⟩
  obtain ⟨hb3, hn3, hl3⟩ := loc_keep (unhide HB2) hn2 (((Stp.refl F2 w2).alloc _).trans hS3)
  obtain ⟨hc3, hm3, hk3⟩ := loc_new (unhide HI2).m hS3
  have HB3 := hide hb3
  have HC3 := hide hc3
  have HI3 := hide hI3
  have HS3 := hide ((unhide HS2).trans (((Stp.refl F2 w2).alloc _).trans hS3))
  clear hb3 hc3 hI3 hS3
  go_wp2_with fail
  refine (term_any (unhide HI3)).mono ?_
  rintro e w4 ⟨rfl, F4, hI4, hS4⟩
  obtain ⟨hb4, hn4, hl4⟩ := loc_keep (unhide HB3) hn3 hS4
  obtain ⟨hc4, hm4, hk4⟩ := loc_keep (unhide HC3) hm3 hS4
  have HB4 := hide hb4
  have HC4 := hide hc4
  have HI4 := hide hI4
  have HS4 := hide ((unhide HS3).trans hS4)
  clear hb4 hc4 hI4 hS4
  go_wp2_with fail
  refine (expect_any kClose (by decide) ((unhide HI4).alloc _)).mono ?_
  rintro e w5 ⟨rfl, hI5, hS5⟩
  have hS5' := ((Stp.refl F4 w4).alloc _).trans hS5
  obtain ⟨hb5, hn5, hl5⟩ := loc_keep (unhide HB4) hn4 hS5'
  obtain ⟨hc5, hm5, hk5⟩ := loc_keep (unhide HC4) hm4 hS5'
  obtain ⟨hd5, ho5, hp5⟩ := loc_new (unhide HI4).m hS5
  obtain ⟨⟨a0, a1, a2, a3, a4⟩, g0, g1, g2, g3, g4⟩ := cells5 hb5
  obtain ⟨⟨d0, d1⟩, e0, e1⟩ := cells2 hc5
  obtain ⟨⟨x0, x1⟩, y0, y1⟩ := cells2 hd5
  have HI5 := hide hI5
  have HS5 := hide ((unhide HS4).trans hS5')
  clear hb5 hc5 hd5 hI5 hS5 hS5'
  go_wp2_with fail
  refine bodyPost_ret (v := .agg (liA ws s).cells.toArray) (by simp [results, Try.results50, go_sem, a0, a1, a2, a3, a4, liA, Atm.cells, liS1, liS2]) rfl ⟨rfl, F4, ?_, ?_⟩
  · exact (((((unhide HI5).setOther hn5 _).setOther hn5 _).setOther hn5 _).setOther hn5 _).setOther hn5 _
  · exact (((((unhide HS5).setCell (Or.inr (Nat.le_refl _)) _).setCell (Or.inr (Nat.le_refl _)) _).setCell (Or.inr (Nat.le_refl _)) _).setCell (Or.inr (Nat.le_refl _)) _).setCell (Or.inr (Nat.le_refl _)) _
end
end Go.Proofs.Ytciihepbeacppaa
