import Derived.Test.YtciihepbeacppaaGreatWV
namespace Go.Proofs.YtciihepbeacppaaGreat
open Go.RowKit

def kPre : ByteArray := ⟨#[112, 114, 101]⟩
def ndEnd : Nd := ⟨0, 0, 0, 0, 0, 0⟩
/-- finish -/
def finS (ws : List ByteArray) (s : PS) : PS := if s.pos = ws.length then s else s.fail
/-- program -/
def prT (ws : List ByteArray) (s : PS) : PS := addS ndEnd (blS ws (ws.length + 1) (foS ws (exS ws kPre s)))
def prS (ws : List ByteArray) (s : PS) : PS := if (prT ws s).pos = ws.length then prT ws s else (prT ws s).fail
def prA (ws : List ByteArray) (s : PS) : List Atm := foA ws (exS ws kPre s)

section
variable {B : Nat} {WV : Value} {w : World} {P : Nat} {ws : List ByteArray} {s : PS} {F : List Nat} {wv vv hv nv : Value} {g cap : Nat}

theorem liS_nodes : (liS ws s).nodes = s.nodes := by unfold liS liS2 liS1; rw [exS_nodes, teS_nodes, exS_nodes, teS_nodes, exS_nodes]
theorem relS_nodes : (relS ws s).nodes = s.nodes := by unfold relS; split; rfl; split; rfl; exact exS_nodes _
theorem atS_nodes : (atS ws s).nodes = s.nodes := by
  unfold atS; split; rfl; split
  · rw [liS_nodes]; rfl
  · rw [teS_nodes, relS_nodes, teS_nodes]
theorem foG_nodes (n : Nat) : ∀ s, (foG ws n s).2.nodes = s.nodes := by
  induction n with
  | zero => intro s; rfl
  | succ n ih =>
    intro s
    simp only [foG]
    split
    · show (foG ws n (atS ws s.adv)).2.nodes = s.nodes
      rw [ih, atS_nodes]; rfl
    · rfl
theorem foS_nodes : (foS ws s).nodes = s.nodes := by unfold foS; rw [foG_nodes, atS_nodes]

theorem add_end (h : IsQ B WV w P ws s F) (hn : s.nodes.length ≤ 100000) :
    Calls Tryz.prog 123 #[.pointer (some ⟨P, 0, none⟩), .agg #[.int .i64 0, .int .i64 0, .int .i64 0, .int .i64 0, .int .i64 0, .int .i64 0]] w fun e w' => e = .returned (.int .i64 s.nodes.length) ∧ ∃ F', IsQ B WV w' P ws (addS ndEnd s) F' ∧ Stp F w F' w' :=
  add_any ndEnd h hn
theorem IsPv.read0 (h : IsPv B WV w P ws s F wv vv hv nv) : w.cell? ⟨P, 0, none⟩ = some wv ∧ ∃ ao cap, wv = .slice ao ws.length cap :=
  ⟨(cells6 h.1).1.1, slice_of_own h.2.2.1⟩

theorem rowBase {w : World} {B B' : Nat} {e : TypeId} {sz n : Nat} {v : Value} {xs : List Value} (h : w.ownsRow B e sz v n xs) (hB : B' ≤ B) : w.ownsRow B' e sz v n xs := by
  refine ⟨h.1, ?_⟩
  rcases h.2 with hn | ⟨g, cap, cur, rfl, hb, rest⟩
  · exact .inl hn
  · exact .inr ⟨g, cap, cur, rfl, by omega, rest⟩

set_option maxRecDepth 100000 in
set_option maxHeartbeats 1000000 in
theorem finish_any (h : IsQ B WV w P ws s F) :
    Calls Tryz.prog 124 #[.pointer (some ⟨P, 0, none⟩)] w fun e w' => e = .returned (.tuple #[]) ∧ IsQ B WV w' P ws (finS ws s) F ∧ Stp F w F w' := by
  have HI := hide h
  have hp := h.f.2.1
  have hl := h.f.1
  obtain ⟨wv, vv, hv, nv, hpv⟩ := h.m.named
  obtain ⟨c0, ao, cap, rfl⟩ := hpv.read0
  obtain ⟨c1, _, _, _, _, fz⟩ := hpv.readsV
  have f2 := fz 2
  have c2 := h.m.reads.2.1
  clear hpv fz h
  by_cases hpe : s.pos = ws.length
  · have HS : Hid (finS ws s = s) := hide (if_pos hpe)
    have hd : ((s.pos : Int) != (ws.length : Int)) = false := by simp [hpe]
    clear hpe
    go_enter Tryz.func124, Tryz.ntmps124
    go_wp2_with fail
    go_quiet (fail)
    go_wp2_with fail
    go_end0
    exact ⟨rfl, by rw [unhide HS]; exact ⟨(unhide HI).m.drewN _, (unhide HI).f⟩, (Stp.refl F w).drewN _⟩
  · have HS : Hid (finS ws s = s.fail) := hide (if_neg hpe)
    have hd : ((s.pos : Int) != (ws.length : Int)) = true := by rw [bne_iff_ne]; omega
    clear hpe
    go_enter Tryz.func124, Tryz.ntmps124
    go_wp2_with fail
    go_quiet (fail)
    go_wp2_with fail
    go_end0
    exact ⟨rfl, by rw [unhide HS]; exact ⟨((unhide HI).m.drewN _).setFailed true, (unhide HI).f⟩, ((Stp.refl F w).drewN _).setCell (Or.inl (unhide HI).m.memP) _⟩

set_option maxRecDepth 100000 in
set_option maxHeartbeats 4000000 in
theorem program_any (h : IsQ B WV w P ws s F) (hn0 : s.nodes = []) :
    Calls Tryz.prog 69 #[.pointer (some ⟨P, 0, none⟩)] w fun e w' => ∃ v F', e = .returned v ∧ IsQ B WV w' P ws (prS ws s) F' ∧ Stp F w F' w' ∧
      w'.ownsRow w.heap.size 239 5 v (prA ws s).length (atCells (prA ws s)) ∧ (∀ k, v.ownBlock = some k → k ∉ F') := by
  have HQ := hide h
  have hl := h.f.1
  clear h
  have hnl : (foS ws (exS ws kPre s)).nodes.length = 0 := by rw [foS_nodes, exS_nodes, hn0]; rfl
  have k2 := (blS_good (ws := ws) (ws.length + 1)).nodes (foS ws (exS ws kPre s))
  have k3 := (blS_good (ws := ws) (ws.length + 1)).phi (foS ws (exS ws kPre s))
  have k4 := fb_le (blS ws (ws.length + 1) (foS ws (exS ws kPre s)))
  clear hn0
  go_enter Tryz.func69, Tryz.ntmps69
  go_wp2_with fail
  refine (expect_any kPre (by decide) (unhide HQ)).mono ?_
  rintro e w1 ⟨rfl, hI1, hS1⟩
  have HI1 := hide hI1
  have HS1 := hide hS1
  clear hI1 hS1
  go_wp2_with fail
  refine (formula_any (unhide HI1)).mono ?_
  rintro e w2 ⟨v, F2, rfl, hI2, hS2, hown2, hout2⟩
  have HI2 := hide hI2
  have HS2 := hide ((unhide HS1).trans hS2)
  have HW2 := hide hown2
  have HU2 := hide hout2
  have hz1 := (unhide HS1).size
  clear hI2 hS2 hown2 hout2
  go_wp2_with fail
  refine (block_ok (ws.length + 1) w2 _ F2 (unhide HI2) (fun _ => by omega) (by omega)).mono ?_
  rintro e w3 ⟨rfl, F3, hI3, hS3⟩
  have hp3 := hI3.f.2.1
  have HW3 := hide (rowStep (unhide HW2) hS3 (unhide HU2))
  have HU3 : Hid (∀ k, v.ownBlock = some k → k ∉ F3) := hide (fun k hk hm => by
    rcases hS3.foot k hm with h | h
    · exact unhide HU2 k hk h
    · have := ((unhide HW2).lt k hk).2; omega)
  have HI3 := hide hI3
  have HS3 := hide ((unhide HS2).trans hS3)
  clear hI3 hS3
  go_wp2_with fail
  refine (add_end (unhide HI3) (by omega)).mono ?_
  rintro e w4 ⟨rfl, F4, hI4, hS4⟩
  have HW4 := hide (rowStep (unhide HW3) hS4 (unhide HU3))
  have HU4 : Hid (∀ k, v.ownBlock = some k → k ∉ F4) := hide (fun k hk hm => by
    rcases hS4.foot k hm with h | h
    · exact unhide HU3 k hk h
    · have := ((unhide HW3).lt k hk).2; omega)
  have HI4 : Hid (IsQ B WV w4 P ws (prT ws s) F4) := hide hI4
  have HS4 := hide ((unhide HS3).trans hS4)
  clear hI4 hS4
  go_wp2_with fail
  refine (finish_any (unhide HI4)).mono ?_
  rintro e w5 ⟨rfl, hI5, hS5⟩
  have HW5 := hide (rowStep (unhide HW4) hS5 (unhide HU4))
  have HI5 : Hid (IsQ B WV w5 P ws (prS ws s) F4) := hide hI5
  have HS5 := hide ((unhide HS4).trans hS5)
  clear hI5 hS5
  go_wp2_with fail
  go_ret
  exact ⟨v, F4, rfl, unhide HI5, unhide HS5, rowBase (unhide HW5) hz1, unhide HU4⟩
end
end Go.Proofs.YtciihepbeacppaaGreat
