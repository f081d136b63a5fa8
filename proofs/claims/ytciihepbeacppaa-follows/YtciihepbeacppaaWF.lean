import Derived.Test.YtciihepbeacppaaWE
namespace Go.Proofs.Ytciihepbeacppaa
open Go.RowKit

/-! ### The parser's small steps, as they are meant -/
/-- the next word, or the empty one -/
def pk (ws : List ByteArray) (s : PS) : ByteArray := if s.failed = true then ⟨#[]⟩ else ws[s.pos]?.getD ⟨#[]⟩
def acB (ws : List ByteArray) (k : ByteArray) (s : PS) : Bool := (pk ws s).toList == k.toList
def PS.adv (s : PS) : PS := { s with pos := s.pos + 1 }
def PS.fail (s : PS) : PS := { s with failed := true }
/-- accept -/
def acS (ws : List ByteArray) (k : ByteArray) (s : PS) : PS := if acB ws k s then s.adv else s
/-- expect -/
def exS (ws : List ByteArray) (k : ByteArray) (s : PS) : PS := if acB ws k s then s.adv else s.fail

theorem pk_failed {ws : List ByteArray} {s : PS} (h : s.failed = true) : pk ws s = ⟨#[]⟩ := if_pos h
theorem pk_end {ws : List ByteArray} {s : PS} (h : ws.length ≤ s.pos) : pk ws s = ⟨#[]⟩ := by
  unfold pk; split
  · rfl
  · rw [List.getElem?_eq_none h]; rfl
theorem pk_at {ws : List ByteArray} {s : PS} (h : s.failed = false) (hp : s.pos < ws.length) : pk ws s = ws[s.pos] := by
  unfold pk; rw [if_neg (by simp [h]), List.getElem?_eq_getElem hp]; rfl

theorem drewN2 (w : World) (a b : Nat) : (w.drewN a).drewN b = w.drewN (a + b) := by simp [World.drewN, Nat.add_assoc]

/-- the numbers that are kept in bounds -/
def Fit (ws : List ByteArray) (s : PS) : Prop := ws.length ≤ 240 ∧ s.pos ≤ ws.length ∧ s.vars.length ≤ 240 + s.pos ∧ s.hid.length ≤ s.pos
theorem Fit.adv {ws : List ByteArray} {s : PS} (h : Fit ws s) (hp : s.pos < ws.length) : Fit ws s.adv := by
  obtain ⟨a, b, c, d⟩ := h
  simp only [Fit, PS.adv]; omega
theorem pk_lt {ws : List ByteArray} {s : PS} (h : (pk ws s).size ≠ 0) : s.failed = false ∧ s.pos < ws.length := by
  by_cases hp : s.pos < ws.length
  · refine ⟨?_, hp⟩
    cases hf : s.failed with
    | false => rfl
    | true => rw [pk_failed hf] at h; exact absurd rfl h
  · rw [pk_end (by omega)] at h; exact absurd rfl h
theorem eq_of_toList {a b : ByteArray} (h : (a.toList == b.toList) = true) : a = b := by
  rw [ByteArray.toList_eq, ByteArray.toList_eq] at h
  obtain ⟨⟨x⟩⟩ := a
  obtain ⟨⟨y⟩⟩ := b
  have : x = y := by simpa using h
  rw [this]
theorem acB_lt {ws : List ByteArray} {k : ByteArray} {s : PS} (hk : k.size ≠ 0) (h : acB ws k s = true) : s.pos < ws.length := by
  have := eq_of_toList h
  exact (pk_lt (by rw [this]; exact hk)).2

/-- a parser in memory, within its bounds -/
structure IsQ (B : Nat) (WV : Value) (w : World) (P : Nat) (ws : List ByteArray) (s : PS) (F : List Nat) : Prop where
  m : IsP B WV w P ws s F
  f : Fit ws s

section
variable {B : Nat} {WV : Value} {w : World} {P : Nat} {ws : List ByteArray} {s : PS} {F : List Nat}

set_option maxRecDepth 100000 in
set_option maxHeartbeats 1000000 in
theorem peek_any (h : IsQ B WV w P ws s F) :
    Calls Try.prog 53 #[.pointer (some ⟨P, 0, none⟩)] w fun e w' => e = .returned (.string (pk ws s)) ∧ ∃ n, w' = w.drewN n := by
  obtain ⟨⟨wv, vv, hv, nv, hP, hB, h1, h2, h3, h4, hF, hN⟩, hfit⟩ := h
  obtain ⟨hl, hp, _, _⟩ := hfit
  obtain ⟨⟨c0, c1, c2, _, _, _⟩, fz⟩ := cells6 hP
  clear h2 h3 h4 hF hN hB hP fz
  obtain ⟨ao, cap, rfl, hn, hm, hc⟩ := Strs.of_own h1
  have HC := hide hc
  clear hc h1
  unfold maxLen at hm
  cases hf : s.failed with
  | true =>
    rw [pk_failed hf]
    rw [hf] at c2
    clear hf
    go_enter Try.func53, Try.ntmps53
    go_wp2_with fail
    go_quiet (fail)
    go_wp2_with fail
    go_ret
    exact ⟨rfl, _, rfl⟩
  | false =>
    rw [hf] at c2
    by_cases hlt : s.pos < ws.length
    · obtain ⟨g, off, hao, hcell⟩ := unhide HC (by intro h; rw [h] at hlt; simp at hlt)
      have hcx := hcell s.pos hlt
      rw [pk_at hf hlt]
      have hd : decide ((ws.length : Int) ≤ (s.pos : Int)) = false := by simp; omega
      clear hcell hf
      rw [hao] at c0
      go_enter Try.func53, Try.ntmps53
      go_wp2_with fail
      go_quiet (fail)
      go_wp2_with fail
      go_quiet (fail)
      go_wp2_with fail
      go_ret
      exact ⟨rfl, _, drewN2 _ _ _⟩
    · rw [pk_end (by omega)]
      have hd : decide ((ws.length : Int) ≤ (s.pos : Int)) = true := by simp; omega
      clear hf
      go_enter Try.func53, Try.ntmps53
      go_wp2_with fail
      go_quiet (fail)
      go_wp2_with fail
      go_ret
      exact ⟨rfl, _, rfl⟩

/-- a store into the struct -/
theorem set6 {w : World} {P : Nat} {xs : Array Value} {t : TypeId} {j : Nat} (h : w.heap[P]? = some (.cells xs t (0, 0))) (u : Value) :
    (w.setCell ⟨P, j, none⟩ u).heap[P]? = some (.cells (xs.setIfInBounds j u) t (0, 0)) := by
  simp [World.setCell, Array.getElem?_modify, h]

theorem IsP.setPos (h : IsP B WV w P ws s F) (n : Nat) : IsP B WV (w.setCell ⟨P, 1, none⟩ (.int .i64 n)) P ws { s with pos := n } F := by
  obtain ⟨wv, vv, hv, nv, hP, hB, h1, h2, h3, h4, hF, hN⟩ := h
  have hne : ∀ k, wv.ownBlock = some k ∨ vv.ownBlock = some k ∨ hv.ownBlock = some k ∨ nv.ownBlock = some k → k ≠ P := by
    rw [hF] at hN
    rintro k hk rfl
    exact (List.nodup_cons.1 hN).1 (by simpa using hk)
  have hk : ∀ k, wv.ownBlock = some k ∨ vv.ownBlock = some k ∨ hv.ownBlock = some k ∨ nv.ownBlock = some k → (w.setCell ⟨P, 1, none⟩ (.int .i64 n)).heap[k]? = w.heap[k]? :=
    fun k hk => Below.heap_setCell _ _ _ _ (hne k hk)
  exact ⟨wv, vv, hv, nv, set6 hP _, hB, ownsRow_of_eq h1 (fun k h => hk k (by simp [h])), ownsRow_of_eq h2 (fun k h => hk k (by simp [h])), ownsRow_of_eq h3 (fun k h => hk k (by simp [h])), ownsRow_of_eq h4 (fun k h => hk k (by simp [h])), hF, hN⟩
theorem IsP.setFailed (h : IsP B WV w P ws s F) (b : Bool) : IsP B WV (w.setCell ⟨P, 2, none⟩ (.bool b)) P ws { s with failed := b } F := by
  obtain ⟨wv, vv, hv, nv, hP, hB, h1, h2, h3, h4, hF, hN⟩ := h
  have hne : ∀ k, wv.ownBlock = some k ∨ vv.ownBlock = some k ∨ hv.ownBlock = some k ∨ nv.ownBlock = some k → k ≠ P := by
    rw [hF] at hN
    rintro k hk rfl
    exact (List.nodup_cons.1 hN).1 (by simpa using hk)
  have hk : ∀ k, wv.ownBlock = some k ∨ vv.ownBlock = some k ∨ hv.ownBlock = some k ∨ nv.ownBlock = some k → (w.setCell ⟨P, 2, none⟩ (.bool b)).heap[k]? = w.heap[k]? :=
    fun k hk => Below.heap_setCell _ _ _ _ (hne k hk)
  exact ⟨wv, vv, hv, nv, set6 hP _, hB, ownsRow_of_eq h1 (fun k h => hk k (by simp [h])), ownsRow_of_eq h2 (fun k h => hk k (by simp [h])), ownsRow_of_eq h3 (fun k h => hk k (by simp [h])), ownsRow_of_eq h4 (fun k h => hk k (by simp [h])), hF, hN⟩

/-- what a walk reads and writes of the struct -/
theorem IsP.reads (h : IsP B WV w P ws s F) : w.cell? ⟨P, 1, none⟩ = some (.int .i64 s.pos) ∧ w.cell? ⟨P, 2, none⟩ = some (.bool s.failed) ∧ w.frozen? ⟨P, 1, none⟩ = false ∧ w.frozen? ⟨P, 2, none⟩ = false := by
  obtain ⟨wv, vv, hv, nv, hP, _⟩ := h
  obtain ⟨⟨c0, c1, c2, _, _, _⟩, fz⟩ := cells6 hP
  exact ⟨c1, c2, fz 1, fz 2⟩

set_option maxRecDepth 100000 in
set_option maxHeartbeats 1000000 in
theorem accept_any (k : ByteArray) (hk : k.size ≠ 0) (h : IsQ B WV w P ws s F) :
    Calls Try.prog 42 #[.pointer (some ⟨P, 0, none⟩), .string k] w fun e w' => e = .returned (.bool (acB ws k s)) ∧ IsQ B WV w' P ws (acS ws k s) F ∧ Stp F w F w' := by
  have HP := hide h
  cases hb : acB ws k s with
  | true =>
    have hb' : ((pk ws s).toList == k.toList) = true := hb
    have HS : Hid (acS ws k s = s.adv) := if_pos hb
    clear hb
    obtain ⟨c1, c2, f1, f2⟩ := h.m.reads
    obtain ⟨hl, hp, _, _⟩ := h.f
    clear h c2 f2
    go_enter Try.func42, Try.ntmps42
    go_wp2_with (go_at_call 53; refine (peek_any (unhide HP)).mono ?_; rintro e w' ⟨rfl, n, rfl⟩)
    go_ret
    exact ⟨rfl, by rw [unhide HS]; exact ⟨((unhide HP).m.drewN n).setPos _, (unhide HP).f.adv (acB_lt hk hb')⟩, ((Stp.refl F w).drewN n).setCell (Or.inl (unhide HP).m.memP) _⟩
  | false =>
    have hb' : ((pk ws s).toList == k.toList) = false := hb
    have HS : Hid (acS ws k s = s) := if_neg (by simp [hb])
    clear hb h
    go_enter Try.func42, Try.ntmps42
    go_wp2_with (go_at_call 53; refine (peek_any (unhide HP)).mono ?_; rintro e w' ⟨rfl, n, rfl⟩)
    go_ret
    exact ⟨rfl, by rw [unhide HS]; exact ⟨(unhide HP).m.drewN n, (unhide HP).f⟩, (Stp.refl F w).drewN n⟩

set_option maxRecDepth 100000 in
set_option maxHeartbeats 1000000 in
theorem expect_any (k : ByteArray) (hk : k.size ≠ 0) (h : IsQ B WV w P ws s F) :
    Calls Try.prog 60 #[.pointer (some ⟨P, 0, none⟩), .string k] w fun e w' => e = .returned (.tuple #[]) ∧ IsQ B WV w' P ws (exS ws k s) F ∧ Stp F w F w' := by
  have HP := hide h
  clear h
  have HA := hide (accept_any k hk (unhide HP))
  cases hb : acB ws k s with
  | true =>
    have HS : Hid (acS ws k s = exS ws k s) := hide (by unfold acS exS; rw [if_pos hb, if_pos hb])
    rw [hb] at HA
    clear hb
    go_enter Try.func60, Try.ntmps60
    go_wp2_with (go_at_call 42; refine (unhide HA).mono ?_; rintro e w' ⟨rfl, hI, hS⟩)
    go_end0
    exact ⟨rfl, by rw [← unhide HS]; exact hI, hS⟩
  | false =>
    have HS : Hid (exS ws k s = (acS ws k s).fail) := hide (by unfold acS exS; rw [if_neg (by simp [hb]), if_neg (by simp [hb])])
    rw [hb] at HA
    clear hb
    go_enter Try.func60, Try.ntmps60
    go_wp2_with (go_at_call 42; refine (unhide HA).mono ?_; rintro e w' ⟨rfl, hI, hS⟩; obtain ⟨c1, c2, f1, f2⟩ := hI.m.reads; have HI := hide hI; clear hI)
    go_end0
    exact ⟨rfl, by rw [unhide HS]; exact ⟨(unhide HI).m.setFailed true, (unhide HI).f⟩, hS.setCell (Or.inl (unhide HI).m.memP) _⟩
end

end Go.Proofs.Ytciihepbeacppaa
