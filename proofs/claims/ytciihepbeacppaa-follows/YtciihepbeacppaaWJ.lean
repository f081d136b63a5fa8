import Derived.Test.YtciihepbeacppaaWI
namespace Go.Proofs.Ytciihepbeacppaa
open Go.RowKit

def kNil : ByteArray := ⟨#[110, 105, 108]⟩
def valK (ws : List ByteArray) (s : PS) : Nat := if acB ws kNil s then 0 else 1
def valI (ws : List ByteArray) (s : PS) : Nat := if acB ws kNil s then 0 else vaI ws s
def valS (ws : List ByteArray) (s : PS) : PS := if acB ws kNil s then s.adv else vaS ws s

section
variable {B : Nat} {WV : Value} {w : World} {P : Nat} {ws : List ByteArray} {s : PS} {F : List Nat}

/-- a block of the call's own, laid ahead of a callee: it is none of the parser's -/
theorem loc_new {w1 : World} {F' : List Nat} {xs : Array Value} {T : TypeId} (h0 : IsP B WV w P ws s F) (hS : Stp F (w.alloc (.cells xs T)) F' w1) :
    w1.heap[w.heap.size]? = some (.cells xs T (0, 0)) ∧ w.heap.size ∉ F' ∧ w.heap.size < w1.heap.size := by
  have hn : w.heap.size ∉ F := fun hm => by have := (h0.mem _ hm).2; omega
  refine ⟨?_, ?_, ?_⟩
  · rw [hS.block _ (by simp) hn]; exact heap_alloc_new w _
  · intro hm
    rcases hS.foot _ hm with h | h
    · exact hn h
    · simp at h; omega
  · have := hS.size; simp at this; omega
/-- what has been known of a block that is none of the parser's stays so -/
theorem loc_keep {w0 w1 : World} {F' : List Nat} {r : Nat} {o : Obj} (hr : w0.heap[r]? = some o) (hn : r ∉ F) (hS : Stp F w0 F' w1) : w1.heap[r]? = some o ∧ r ∉ F' ∧ r < w1.heap.size := by
  have hl := (Array.getElem?_eq_some_iff.1 hr).1
  refine ⟨?_, ?_, ?_⟩
  · rw [hS.block _ hl hn]; exact hr
  · intro hm
    rcases hS.foot _ hm with h | h
    · exact hn h
    · omega
  · have := hS.size; omega
theorem cells2 {r : Nat} {a b : Value} {T : TypeId} (h : w.heap[r]? = some (.cells #[a, b] T (0, 0))) : (w.cell? ⟨r, 0, none⟩ = some a ∧ w.cell? ⟨r, 1, none⟩ = some b) ∧ w.frozen? ⟨r, 0, none⟩ = false ∧ w.frozen? ⟨r, 1, none⟩ = false := by
  refine ⟨⟨?_, ?_⟩, ?_, ?_⟩ <;> simp [World.cell?, World.frozen?, h]

theorem IsQ.alloc (h : IsQ B WV w P ws s F) (o : Obj) : IsQ B WV (w.alloc o) P ws s F := ⟨h.m.alloc o, h.f⟩
theorem IsQ.setOther (h : IsQ B WV w P ws s F) {p : Addr} (hp : p.block ∉ F) (u : Value) : IsQ B WV (w.setCell p u) P ws s F := ⟨h.m.setOther hp u, h.f⟩

set_option maxRecDepth 100000 in
set_option maxHeartbeats 2000000 in
theorem value_any (h : IsQ B WV w P ws s F) :
    Calls Try.prog 63 #[.pointer (some ⟨P, 0, none⟩)] w fun e w' => e = .returned (.agg #[.int .i64 (valK ws s), .int .i64 (valI ws s)]) ∧ ∃ F', IsQ B WV w' P ws (valS ws s) F' ∧ Stp F w F' w' := by
  have HQ := hide h
  have HA := fun o => hide (accept_any kNil (by decide) (h.alloc o))
  clear h
  cases hb : acB ws kNil s with
  | true =>
    have HK : Hid (valK ws s = 0) := hide (if_pos hb)
    have HI : Hid (valI ws s = 0) := hide (if_pos hb)
    have HS : Hid (valS ws s = acS ws kNil s) := hide (by unfold valS acS; rw [if_pos hb, if_pos hb])
    simp only [hb] at HA
    clear hb
    go_enter Try.func63, Try.ntmps63
    go_wp2_with (go_at_call 42; refine (unhide (HA _)).mono ?_; rintro e w' ⟨rfl, hI, hS⟩; obtain ⟨hb, hn, hl⟩ := loc_new (unhide HQ).m hS; obtain ⟨⟨d0, d1⟩, e0, e1⟩ := cells2 hb; have HI2 := hide hI; have HS2 := hide hS; clear hI hS hb)
    refine bodyPost_ret (v := .agg #[.int .i64 0, .int .i64 0]) (by simp [results, Try.results63, go_sem, d0, d1]) rfl ⟨by rw [unhide HK, unhide HI]; rfl, F, ?_, ?_⟩
    · rw [unhide HS]; exact ((unhide HI2).setOther hn _).setOther hn _
    · exact ((((Stp.refl F w).alloc _).trans (unhide HS2)).setCell (Or.inr (Nat.le_refl _)) _).setCell (Or.inr (Nat.le_refl _)) _
  | false =>
    have HK : Hid (valK ws s = 1) := hide (if_neg (by simp [hb]))
    have HI : Hid (valI ws s = vaI ws s) := hide (if_neg (by simp [hb]))
    have HS : Hid (valS ws s = vaS ws s) := hide (if_neg (by simp [hb]))
    have HS0 : Hid (acS ws kNil s = s) := hide (if_neg (by simp [hb]))
    simp only [hb] at HA
    clear hb
    go_enter Try.func63, Try.ntmps63
    go_wp2_with (go_at_call 42; refine (unhide (HA _)).mono ?_; rintro e w' ⟨rfl, hI, hS⟩; obtain ⟨hb, hn, hl⟩ := loc_new (unhide HQ).m hS; rw [unhide HS0] at hI; have HI2 := hide hI; have HS2 := hide hS; have HB := hide hb; clear hI hS hb)
    refine (variable_any (unhide HI2)).mono ?_
    rintro e w2 ⟨rfl, F', hI3, hS3⟩
    obtain ⟨hb3, hn3, hl3⟩ := loc_keep (unhide HB) hn hS3
    obtain ⟨⟨d0, d1⟩, e0, e1⟩ := cells2 hb3
    have HI3 := hide hI3
    have HS3 := hide hS3
    clear hI3 hS3 hb3
    go_wp2_with fail
    refine bodyPost_ret (v := .agg #[.int .i64 1, .int .i64 (vaI ws s)]) (by simp [results, Try.results63, go_sem, d0, d1]) rfl ⟨by rw [unhide HK, unhide HI]; rfl, F', ?_, ?_⟩
    · rw [unhide HS]; exact ((unhide HI3).setOther hn3 _).setOther hn3 _
    · exact (((((Stp.refl F w).alloc _).trans (unhide HS2)).trans (unhide HS3)).setCell (Or.inr (Nat.le_refl _)) _).setCell (Or.inr (Nat.le_refl _)) _
end
end Go.Proofs.Ytciihepbeacppaa
