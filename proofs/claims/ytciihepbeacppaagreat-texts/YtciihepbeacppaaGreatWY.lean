import Derived.Test.YtciihepbeacppaaGreatWX
namespace Go.Proofs.YtciihepbeacppaaGreat
open Go.RowKit

/-- a loaded program in memory -/
def IsL (B : Nat) (w : World) (X : Nat) (ws : List ByteArray) (s : PS) (al : List Atm) : Prop :=
  ∃ Q, w.heap[X]? = some (.cells #[.pointer (some ⟨Q, 0, none⟩), .pointer none] 88 (0, 0)) ∧ B ≤ X ∧ IsC B w Q ws s al

theorem IsC.alloc {B : Nat} {w : World} {Q : Nat} {ws : List ByteArray} {s : PS} {al : List Atm} (h : IsC B w Q ws s al) (o : Obj) : IsC B (w.alloc o) Q ws s al := by
  obtain ⟨vv, pv, nv, h0, hB, h1, h2, h3⟩ := h
  exact ⟨vv, pv, nv, by rw [Below.heap_alloc _ _ _ (Array.getElem?_eq_some_iff.1 h0).1]; exact h0, hB, h1.alloc o, h2.alloc o, h3.alloc o⟩
theorem IsC.below {B : Nat} {w w' : World} {Q : Nat} {ws : List ByteArray} {s : PS} {al : List Atm} (h : IsC B w Q ws s al) (hb : Below w.heap.size w w') : IsC B w' Q ws s al := by
  obtain ⟨vv, pv, nv, h0, hB, h1, h2, h3⟩ := h
  exact ⟨vv, pv, nv, by rw [hb.block _ (Array.getElem?_eq_some_iff.1 h0).1]; exact h0, hB, rowBelow h1 hb, rowBelow h2 hb, rowBelow h3 hb⟩
theorem IsL.below {B : Nat} {w w' : World} {Q : Nat} {ws : List ByteArray} {s : PS} {al : List Atm} (h : IsL B w Q ws s al) (hb : Below w.heap.size w w') : IsL B w' Q ws s al := by
  obtain ⟨Q, h0, hB, h1⟩ := h
  exact ⟨Q, by rw [hb.block _ (Array.getElem?_eq_some_iff.1 h0).1]; exact h0, hB, h1.below hb⟩

set_option maxRecDepth 100000 in
set_option maxHeartbeats 1000000 in
theorem load_any (s : ByteArray) (w : World) (hs : s.size ≤ 20000) :
    Calls Tryz.prog 25 #[.string s] w fun e w' => Below w.heap.size w w' ∧
      ((rdE s.data.toList ≠ 0 ∧ e = .returned (.tuple #[.pointer none, .int .i64 (rdE s.data.toList)])) ∨
       (rdE s.data.toList = 0 ∧ ∃ X, e = .returned (.tuple #[.pointer (some ⟨X, 0, none⟩), .int .i64 0]) ∧ IsL w.heap.size w' X (rdW s.data.toList) (rdS s.data.toList) (prA (rdW s.data.toList) ini))) := by
  go_enter Tryz.func25, Tryz.ntmps25
  go_wp2_with fail
  refine (read_any s w hs).mono ?_
  rintro e w1 ⟨hbl, (⟨hne, rfl⟩ | ⟨h0, Q, rfl, hc⟩)⟩
  · have hbf : (((rdE s.data.toList : Nat) : Int) != 0) = true := by rw [bne_iff_ne]; omega
    have HN := hide hne
    clear hne
    go_wp2_with fail
    go_ret2
    exact ⟨hbl, Or.inl ⟨unhide HN, rfl⟩⟩
  · have H0 := hide h0
    have HC := hide hc
    clear h0 hc
    go_wp2_with fail
    go_ret2
    have hz := hbl.size
    exact ⟨hbl.alloc hz _, Or.inr ⟨unhide H0, w1.heap.size, rfl, Q, heap_alloc_new w1 _, hz, (unhide HC).alloc _⟩⟩

section
variable {B : Nat} {w : World} {X : Nat} {ws : List ByteArray} {s : PS} {al : List Atm}
theorem IsL.reads (h : IsL B w X ws s al) : ∃ Q vv pv nv, w.cell? ⟨X, 0, none⟩ = some (.pointer (some ⟨Q, 0, none⟩)) ∧ w.cell? ⟨Q, 0, none⟩ = some (.string ⟨(jn ws).toArray⟩) ∧ w.cell? ⟨Q, 1, none⟩ = some vv ∧ w.cell? ⟨Q, 2, none⟩ = some pv ∧ w.cell? ⟨Q, 3, none⟩ = some nv ∧
    (∃ ao cap, vv = .slice ao s.vars.length cap) ∧ (∃ ao cap, nv = .slice ao s.nodes.length cap) := by
  obtain ⟨Q, h0, hB, vv, pv, nv, hq, _, h1, h2, h3⟩ := h
  refine ⟨Q, vv, pv, nv, ?_, ?_, ?_, ?_, ?_, slice_of_own h1, slice_of_own h3⟩ <;> simp [World.cell?, h0, hq]

set_option maxRecDepth 100000 in
set_option maxHeartbeats 1000000 in
theorem empty_any (h : IsL B w X ws s al) : Calls Tryz.prog 53 #[.pointer (some ⟨X, 0, none⟩)] w fun e w' => e = .returned (.bool false) ∧ ∃ n, w' = w.drewN n := by
  obtain ⟨Q, vv, pv, nv, c0, _, _, _, _, _, _⟩ := h.reads
  clear h
  go_enter Tryz.func53, Tryz.ntmps53
  go_wp2_with fail
  go_ret
  exact ⟨rfl, 0, rfl⟩
set_option maxRecDepth 100000 in
set_option maxHeartbeats 1000000 in
theorem text_any (h : IsL B w X ws s al) : Calls Tryz.prog 27 #[.pointer (some ⟨X, 0, none⟩)] w fun e w' => e = .returned (.string ⟨(jn ws).toArray⟩) ∧ ∃ n, w' = w.drewN n := by
  have HE := hide (empty_any h)
  obtain ⟨Q, vv, pv, nv, c0, q0, _, _, _, _, _⟩ := h.reads
  clear h
  go_enter Tryz.func27, Tryz.ntmps27
  go_wp2_with (go_at_call 53; refine (unhide HE).mono ?_; rintro e w' ⟨rfl, n, rfl⟩)
  go_ret
  exact ⟨rfl, _, rfl⟩
set_option maxRecDepth 100000 in
set_option maxHeartbeats 1000000 in
theorem vars_any (h : IsL B w X ws s al) : Calls Tryz.prog 28 #[.pointer (some ⟨X, 0, none⟩)] w fun e w' => e = .returned (.int .i64 s.vars.length) ∧ ∃ n, w' = w.drewN n := by
  have HE := hide (empty_any h)
  obtain ⟨Q, vv, pv, nv, c0, _, q1, _, _, ⟨ao, cap, rfl⟩, _⟩ := h.reads
  clear h
  go_enter Tryz.func28, Tryz.ntmps28
  go_wp2_with (go_at_call 53; refine (unhide HE).mono ?_; rintro e w' ⟨rfl, n, rfl⟩)
  go_ret
  exact ⟨rfl, _, rfl⟩
set_option maxRecDepth 100000 in
set_option maxHeartbeats 1000000 in
theorem nodes_any (h : IsL B w X ws s al) : Calls Tryz.prog 29 #[.pointer (some ⟨X, 0, none⟩)] w fun e w' => e = .returned (.int .i64 s.nodes.length) ∧ ∃ n, w' = w.drewN n := by
  have HE := hide (empty_any h)
  obtain ⟨Q, vv, pv, nv, c0, _, _, _, q3, _, ⟨ao, cap, rfl⟩⟩ := h.reads
  clear h
  go_enter Tryz.func29, Tryz.ntmps29
  go_wp2_with (go_at_call 53; refine (unhide HE).mono ?_; rintro e w' ⟨rfl, n, rfl⟩)
  go_ret
  exact ⟨rfl, _, rfl⟩
end
end Go.Proofs.YtciihepbeacppaaGreat
