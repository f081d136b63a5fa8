import Derived.Test.YtciihepbeacppaaGreatWN
namespace Go.Proofs.YtciihepbeacppaaGreat
open Go.RowKit

/-- add -/
def addS (nd : Nd) (s : PS) : PS := { s with nodes := s.nodes ++ [{ nd with nx := s.nodes.length + 1 }] }

theorem slice_of_own {w : World} {B : Nat} {e : TypeId} {sz n : Nat} {v : Value} {xs : List Value} (h : w.ownsRow B e sz v n xs) : ∃ ao cap, v = .slice ao n cap := by
  rcases h.2 with ⟨rfl, rfl⟩ | ⟨g, cap, cur, rfl, _⟩ <;> exact ⟨_, _, rfl⟩
theorem Nd.one (a : Nd) : ∀ u ∈ a.cells, u.oneCell' = true := by
  intro u hu; simp [Nd.cells] at hu; rcases hu with rfl | rfl | rfl | rfl | rfl | rfl <;> rfl
theorem cellsR {w : World} {r : Nat} {a b c d e f : Value} {t : TypeId} (h : w.heap[r]? = some (.cells #[a, b, c, d, e, f] t (0, 0))) :
    (w.cell? ⟨r, 0, none⟩ = some a ∧ w.cell? ⟨r, 1, none⟩ = some b ∧ w.cell? ⟨r, 2, none⟩ = some c ∧ w.cell? ⟨r, 3, none⟩ = some d ∧ w.cell? ⟨r, 4, none⟩ = some e ∧ w.cell? ⟨r, 5, none⟩ = some f) ∧
    w.frozen? ⟨r, 0, none⟩ = false ∧ w.frozen? ⟨r, 1, none⟩ = false ∧ w.frozen? ⟨r, 2, none⟩ = false ∧ w.frozen? ⟨r, 3, none⟩ = false ∧ w.frozen? ⟨r, 4, none⟩ = false ∧ w.frozen? ⟨r, 5, none⟩ = false :=
  ⟨(cells6 h).1, (cells6 h).2 0, (cells6 h).2 1, (cells6 h).2 2, (cells6 h).2 3, (cells6 h).2 4, (cells6 h).2 5⟩

section
variable {B : Nat} {WV : Value} {w : World} {P : Nat} {ws : List ByteArray} {s : PS} {F : List Nat} {wv vv hv nv : Value}

set_option maxRecDepth 100000 in
set_option maxHeartbeats 2000000 in
theorem add_any (nd : Nd) (h : IsQ B WV w P ws s F) (hn : s.nodes.length ≤ 100000) :
    Calls Tryz.prog 123 #[.pointer (some ⟨P, 0, none⟩), .agg nd.cells.toArray] w fun e w' => e = .returned (.int .i64 s.nodes.length) ∧ ∃ F', IsQ B WV w' P ws (addS nd s) F' ∧ Stp F w F' w' := by
  obtain ⟨i0, hi, hz0, hz1, hz2⟩ := info_parts Tryz.infoNode
  have HQ := hide h
  obtain ⟨n0, n1, n2, n3, n4, n5⟩ := nd
  obtain ⟨w0, hw0⟩ : ∃ w0, w0 = w.alloc (.cells #[.int .i64 n0, .int .i64 n1, .int .i64 n2, .int .i64 n3, .int .i64 ((s.nodes.length : Int) + 1), .int .i64 n5] 186) := ⟨_, rfl⟩
  have h0 : IsQ B WV w0 P ws s F := by rw [hw0]; exact h.alloc _
  have HS0 : Hid (Stp F w F w0) := hide (by rw [hw0]; exact (Stp.refl F w).alloc _)
  have hr0 : w0.heap[w.heap.size]? = some (.cells #[.int .i64 n0, .int .i64 n1, .int .i64 n2, .int .i64 n3, .int .i64 ((s.nodes.length : Int) + 1), .int .i64 n5] 186 (0, 0)) := by rw [hw0]; exact heap_alloc_new w _
  have HW0 := hide hw0
  have hrl : w.heap.size < w0.heap.size := by rw [hw0]; simp
  have HN0 : Hid (w.heap.size ∉ F) := hide (fun hm => by have := (h.m.mem _ hm).2; omega)
  clear hw0
  obtain ⟨wv, vv, hv, nv, hpv⟩ := h.m.named
  obtain ⟨_, _, _, _, c5, fz⟩ := hpv.readsV
  obtain ⟨ao, cap, rfl⟩ := slice_of_own hpv.2.2.2.2.2.1
  have hPw : P < w.heap.size := (h.m.mem P h.m.memP).2
  have f5 := fz 5
  clear h h0 fz
  simp only [Nd.cells]
  go_enter Tryz.func123, Tryz.ntmps123
  go_wp2_with fail
  rw [← unhide HW0]
  have hpv0 : IsPv B WV w0 P ws s F wv vv hv (.slice ao s.nodes.length cap) := by rw [unhide HW0]; exact hpv.alloc _
  clear c5 f5
  obtain ⟨_, _, _, _, c5, fz⟩ := hpv0.readsV
  have f5 := fz 5
  obtain ⟨⟨q0, q1, q2, q3, q4, q5⟩, _⟩ := cellsR hr0
  have HR0 := hide hr0
  have hPl : P < w0.heap.size := by omega
  have hBs : B ≤ w0.heap.size := by have := (hpv0.is.mem P hpv0.is.memP).1; omega
  have HNP : Hid ((Value.slice ao s.nodes.length cap).ownBlock ≠ some P) := hide (fun e => hpv0.apart.1 P (by simp [e]) rfl)
  have HROW := hide hpv0.2.2.2.2.2.1
  have hal : ∀ (b j k : Nat) (o : Obj) (v : Value), b < w0.heap.size → w0.cell? ⟨b, j, none⟩ = some v → ((w0.drewN k).alloc o).cell? ⟨b, j, none⟩ = some v := fun b j k o v hb hv => (World.cell?_of_block (a := ⟨b, j, none⟩) (Below.heap_alloc (w0.drewN k) o b hb)).trans hv
  have c5a := fun k o => hal P 5 k o _ hPl c5
  have q0a := fun k o => hal _ 0 k o _ hrl q0
  have q1a := fun k o => hal _ 1 k o _ hrl q1
  have q2a := fun k o => hal _ 2 k o _ hrl q2
  have q3a := fun k o => hal _ 3 k o _ hrl q3
  have q4a := fun k o => hal _ 4 k o _ hrl q4
  have q5a := fun k o => hal _ 5 k o _ hrl q5
  have HV0 := hide hpv0
  clear hal fz hpv0 hr0 hpv
  go_region_law (refine step_app1 _ rfl (.tmp 18) (.tmp 20) 103 rfl B 186 i0 _ 6 48 Tryz.underlying103 hi hz0 hz1 hz2 rfl (by decide) (.slice ao s.nodes.length cap) s.nodes.length (ndCells s.nodes) (by simp [Act.eval]) (own_da (unhide HROW) _ _) ⟨w0.heap.size, 0, none⟩ 1 [.int .i64 n0, .int .i64 n1, .int .i64 n2, .int .i64 n3, .int .i64 ((s.nodes.length : Int) + 1), .int .i64 n5] (by simp [Act.eval]) rfl (new_cells (w0.drewN _) _ rfl _ _) (Nd.one ⟨n0, n1, n2, n3, s.nodes.length + 1, n5⟩) (by omega) (by omega) (le_da hBs _ _) ?_; intro g2 cap2 w2 hown2 hgrow2 hblk2; have c5' := grown_cell hgrow2 hPl (unhide HNP) 5 c5; have f5' := grown_frozen hgrow2 hPl (unhide HNP) 5 f5; obtain ⟨F', hI', hS'⟩ := IsPv.pushNodes ⟨n0, n1, n2, n3, s.nodes.length + 1, n5⟩ ((unhide HV0).drewN _) hgrow2 hown2 hblk2; have HI' := hide hI'; have HS' := hide hS'; clear hown2 hgrow2 hblk2 hI' hS')
  all_goals
    go_wp2_with fail
    go_ret
    exact ⟨rfl, F', ⟨unhide HI', (unhide HQ).f⟩, ((unhide HS0).drewN _).trans (unhide HS')⟩
end
end Go.Proofs.YtciihepbeacppaaGreat
