import Derived.Test.YtciihepbeacppaaWG
namespace Go.Proofs.Ytciihepbeacppaa
open Go.RowKit

/-- IsP with its lists named -/
def IsPv (B : Nat) (WV : Value) (w : World) (P : Nat) (ws : List ByteArray) (s : PS) (F : List Nat) (wv vv hv nv : Value) : Prop :=
    w.heap[P]? = some (.cells #[wv, .int .i64 s.pos, .bool s.failed, vv, hv, nv] 53 (0, 0)) ∧ (B ≤ P ∧ wv = WV) ∧
    w.ownsRow B 9 1 wv ws.length (ws.map Value.string) ∧
    w.ownsRow B 5 1 vv s.vars.length (bc s.vars) ∧
    w.ownsRow B 5 1 hv s.hid.length (bc s.hid) ∧
    w.ownsRow B 130 6 nv s.nodes.length (ndCells s.nodes) ∧
    F = P :: (wv.ownBlock.toList ++ (vv.ownBlock.toList ++ (hv.ownBlock.toList ++ nv.ownBlock.toList))) ∧ F.Nodup

section
variable {B : Nat} {WV : Value} {w : World} {P : Nat} {ws : List ByteArray} {s : PS} {F : List Nat} {wv vv hv nv : Value}
theorem IsP.named (h : IsP B WV w P ws s F) : ∃ wv vv hv nv, IsPv B WV w P ws s F wv vv hv nv := h
theorem IsPv.is (h : IsPv B WV w P ws s F wv vv hv nv) : IsP B WV w P ws s F := ⟨wv, vv, hv, nv, h⟩

theorem IsPv.of_eq {w' : World} (h : IsPv B WV w P ws s F wv vv hv nv) (he : ∀ k ∈ F, w'.heap[k]? = w.heap[k]?) : IsPv B WV w' P ws s F wv vv hv nv := by
  obtain ⟨hP, hB, h1, h2, h3, h4, hF, hN⟩ := h
  have hm : ∀ k, k = P ∨ wv.ownBlock = some k ∨ vv.ownBlock = some k ∨ hv.ownBlock = some k ∨ nv.ownBlock = some k → k ∈ F := by
    intro k hk; rw [hF]; simpa using hk
  exact ⟨by rw [he P (hm P (by simp))]; exact hP, hB, ownsRow_of_eq h1 (fun k hk => he k (hm k (by simp [hk]))), ownsRow_of_eq h2 (fun k hk => he k (hm k (by simp [hk]))),
    ownsRow_of_eq h3 (fun k hk => he k (hm k (by simp [hk]))), ownsRow_of_eq h4 (fun k hk => he k (hm k (by simp [hk]))), hF, hN⟩
theorem IsPv.drewN (h : IsPv B WV w P ws s F wv vv hv nv) (n : Nat) : IsPv B WV (w.drewN n) P ws s F wv vv hv nv := h.of_eq (fun _ _ => rfl)
theorem IsPv.alloc (h : IsPv B WV w P ws s F wv vv hv nv) (o : Obj) : IsPv B WV (w.alloc o) P ws s F wv vv hv nv := h.of_eq (fun k hk => Below.heap_alloc _ _ _ (h.is.mem k hk).2)
theorem IsPv.setPos (h : IsPv B WV w P ws s F wv vv hv nv) (n : Nat) : IsPv B WV (w.setCell ⟨P, 1, none⟩ (.int .i64 n)) P ws { s with pos := n } F wv vv hv nv := by
  obtain ⟨hP, hB, h1, h2, h3, h4, hF, hN⟩ := h
  have hne : ∀ k, wv.ownBlock = some k ∨ vv.ownBlock = some k ∨ hv.ownBlock = some k ∨ nv.ownBlock = some k → k ≠ P := by
    rw [hF] at hN
    rintro k hk rfl
    exact (List.nodup_cons.1 hN).1 (by simpa using hk)
  have hk : ∀ k, wv.ownBlock = some k ∨ vv.ownBlock = some k ∨ hv.ownBlock = some k ∨ nv.ownBlock = some k → (w.setCell ⟨P, 1, none⟩ (.int .i64 n)).heap[k]? = w.heap[k]? :=
    fun k hk => Below.heap_setCell _ _ _ _ (hne k hk)
  exact ⟨set6 hP _, hB, ownsRow_of_eq h1 (fun k h => hk k (by simp [h])), ownsRow_of_eq h2 (fun k h => hk k (by simp [h])), ownsRow_of_eq h3 (fun k h => hk k (by simp [h])), ownsRow_of_eq h4 (fun k h => hk k (by simp [h])), hF, hN⟩

/-- the block of a list is not the struct's, nor another list's -/
theorem IsPv.apart (h : IsPv B WV w P ws s F wv vv hv nv) : (∀ k, wv.ownBlock = some k ∨ vv.ownBlock = some k ∨ hv.ownBlock = some k ∨ nv.ownBlock = some k → k ≠ P) ∧
    (∀ k, vv.ownBlock = some k → wv.ownBlock ≠ some k ∧ hv.ownBlock ≠ some k ∧ nv.ownBlock ≠ some k) ∧ (∀ k, hv.ownBlock = some k → wv.ownBlock ≠ some k ∧ vv.ownBlock ≠ some k ∧ nv.ownBlock ≠ some k) ∧
    (∀ k, nv.ownBlock = some k → wv.ownBlock ≠ some k ∧ vv.ownBlock ≠ some k ∧ hv.ownBlock ≠ some k) := by
  obtain ⟨hP, hB, h1, h2, h3, h4, hF, hN⟩ := h
  rw [hF] at hN
  cases a : wv.ownBlock <;> cases b : vv.ownBlock <;> cases c : hv.ownBlock <;> cases d : nv.ownBlock <;> simp [a, b, c, d] at hN ⊢ <;> grind

theorem nd_vars {P g : Nat} {a b c d : List Nat} (h : (P :: (a ++ (b ++ (c ++ d)))).Nodup) (hg : g ∉ P :: (a ++ (c ++ d))) : (P :: (a ++ ([g] ++ (c ++ d)))).Nodup := by
  simp only [List.nodup_cons, List.nodup_append, List.mem_append, List.mem_cons] at *
  grind

theorem nd_hid {P g : Nat} {a b c d : List Nat} (h : (P :: (a ++ (b ++ (c ++ d)))).Nodup) (hg : g ∉ P :: (a ++ (b ++ d))) : (P :: (a ++ (b ++ ([g] ++ d)))).Nodup := by
  simp only [List.nodup_cons, List.nodup_append, List.mem_append, List.mem_cons] at *
  grind
theorem nd_nodes {P g : Nat} {a b c d : List Nat} (h : (P :: (a ++ (b ++ (c ++ d)))).Nodup) (hg : g ∉ P :: (a ++ (b ++ c))) : (P :: (a ++ (b ++ (c ++ [g])))).Nodup := by
  simp only [List.nodup_cons, List.nodup_append, List.mem_append, List.mem_cons] at *
  grind

theorem IsPv.pushVars {w3 : World} {o : Obj} {g cap : Nat} (x : UInt8) (h : IsPv B WV w P ws s F wv vv hv nv) (hg : (w.alloc o).grownBy w3 vv.ownBlock)
    (hown : w3.ownsRow B 5 1 (.slice (some ⟨g, 0, none⟩) (s.vars.length + 1) cap) (s.vars.length + 1) (bc s.vars ++ [.int .u8 (x.toNat : Int)]))
    (hb : some g = vv.ownBlock ∨ g = (w.alloc o).heap.size) :
    ∃ F', IsP B WV (w3.setCell ⟨P, 3, none⟩ (.slice (some ⟨g, 0, none⟩) (s.vars.length + 1) cap)) P ws { s with vars := s.vars ++ [x] } F' ∧ Stp F w F' (w3.setCell ⟨P, 3, none⟩ (.slice (some ⟨g, 0, none⟩) (s.vars.length + 1) cap)) := by
  have hap := h.apart
  have hmem := h.is.mem
  have hsz : (w.alloc o).heap.size = w.heap.size + 1 := by simp
  obtain ⟨hP, hB, h1, h2, h3, h4, hF, hN⟩ := h
  have hPl : P < w.heap.size := (hmem P (by rw [hF]; simp)).2
  have hgP : g ≠ P := by
    rcases hb with hb | hb
    · exact hap.1 g (by simp [← hb])
    · omega
  have hkeep : ∀ k, k < w.heap.size → vv.ownBlock ≠ some k → k ≠ P → (w3.setCell ⟨P, 3, none⟩ (.slice (some ⟨g, 0, none⟩) (s.vars.length + 1) cap)).heap[k]? = w.heap[k]? := by
    intro k hk hne hkP
    rw [Below.heap_setCell _ _ _ _ hkP, hg.block k (by omega) (fun e => hne e.symm), Below.heap_alloc _ _ _ hk]
  have hP3 : w3.heap[P]? = some (.cells #[wv, .int .i64 s.pos, .bool s.failed, vv, hv, nv] 53 (0, 0)) := by
    rw [hg.block P (by omega) (fun e => (hap.1 P (by simp [← e])) rfl), Below.heap_alloc _ _ _ hPl]; exact hP
  have hlt : ∀ k, wv.ownBlock = some k ∨ vv.ownBlock = some k ∨ hv.ownBlock = some k ∨ nv.ownBlock = some k → k < w.heap.size := fun k hk => (hmem k (by rw [hF]; simpa using Or.inr hk)).2
  have hgF : g ∈ F ∨ g = w.heap.size + 1 := by
    rcases hb with hb | hb
    · left; rw [hF]; simp [← hb]
    · right; omega
  refine ⟨P :: (wv.ownBlock.toList ++ ([g] ++ (hv.ownBlock.toList ++ nv.ownBlock.toList))), ⟨wv, .slice (some ⟨g, 0, none⟩) (s.vars.length + 1) cap, hv, nv, set6 hP3 _, hB, ?_, ?_, ?_, ?_, rfl, ?_⟩, ⟨hg.os, hg.tape, hg.output, ?_, ?_, ?_⟩⟩
  · exact ownsRow_of_eq h1 (fun k hk => hkeep k (hlt k (by simp [hk])) (fun e => by have := hap; grind) (fun e => (hap.1 k (by simp [hk])) e))
  · exact ownsRow_of_eq (own_cast hown (by simp) (by simp [bc])) (fun k hk => Below.heap_setCell _ _ _ _ (by simp [Value.ownBlock] at hk; subst hk; exact hgP))
  · exact ownsRow_of_eq h3 (fun k hk => hkeep k (hlt k (by simp [hk])) (fun e => by have := hap; grind) (fun e => (hap.1 k (by simp [hk])) e))
  · exact ownsRow_of_eq h4 (fun k hk => hkeep k (hlt k (by simp [hk])) (fun e => by have := hap; grind) (fun e => (hap.1 k (by simp [hk])) e))
  · rw [hF] at hN
    rcases hb with hb | hb
    · have e : vv.ownBlock.toList = [g] := by rw [← hb]; rfl
      rw [e] at hN; exact hN
    · refine nd_vars hN ?_
      intro hm
      have := hlt g (by simpa using Or.resolve_left (List.mem_cons.1 hm) hgP |> fun z => (by grind))
      omega
  · have := hg.size; simp [World.setCell]; omega
  · intro k hk hkF
    exact hkeep k hk (fun e => hkF (by rw [hF]; simp [e])) (fun e => hkF (by rw [hF, e]; simp))
  · intro k hk
    rw [hF]
    rw [hF] at hgF
    grind


theorem IsPv.pushHid {w3 : World} {o : Obj} {g cap : Nat} (x : UInt8) (h : IsPv B WV w P ws s F wv vv hv nv) (hg : (w.alloc o).grownBy w3 hv.ownBlock)
    (hown : w3.ownsRow B 5 1 (.slice (some ⟨g, 0, none⟩) (s.hid.length + 1) cap) (s.hid.length + 1) (bc s.hid ++ [.int .u8 (x.toNat : Int)]))
    (hb : some g = hv.ownBlock ∨ g = (w.alloc o).heap.size) :
    ∃ F', IsP B WV (w3.setCell ⟨P, 4, none⟩ (.slice (some ⟨g, 0, none⟩) (s.hid.length + 1) cap)) P ws { s with hid := s.hid ++ [x] } F' ∧ Stp F w F' (w3.setCell ⟨P, 4, none⟩ (.slice (some ⟨g, 0, none⟩) (s.hid.length + 1) cap)) := by
  have hap := h.apart
  have hmem := h.is.mem
  have hsz : (w.alloc o).heap.size = w.heap.size + 1 := by simp
  obtain ⟨hP, hB, h1, h2, h3, h4, hF, hN⟩ := h
  have hPl : P < w.heap.size := (hmem P (by rw [hF]; simp)).2
  have hgP : g ≠ P := by
    rcases hb with hb | hb
    · exact hap.1 g (by simp [← hb])
    · omega
  have hkeep : ∀ k, k < w.heap.size → hv.ownBlock ≠ some k → k ≠ P → (w3.setCell ⟨P, 4, none⟩ (.slice (some ⟨g, 0, none⟩) (s.hid.length + 1) cap)).heap[k]? = w.heap[k]? := by
    intro k hk hne hkP
    rw [Below.heap_setCell _ _ _ _ hkP, hg.block k (by omega) (fun e => hne e.symm), Below.heap_alloc _ _ _ hk]
  have hP3 : w3.heap[P]? = some (.cells #[wv, .int .i64 s.pos, .bool s.failed, vv, hv, nv] 53 (0, 0)) := by
    rw [hg.block P (by omega) (fun e => (hap.1 P (by simp [← e])) rfl), Below.heap_alloc _ _ _ hPl]; exact hP
  have hlt : ∀ k, wv.ownBlock = some k ∨ vv.ownBlock = some k ∨ hv.ownBlock = some k ∨ nv.ownBlock = some k → k < w.heap.size := fun k hk => (hmem k (by rw [hF]; simpa using Or.inr hk)).2
  have hgF : g ∈ F ∨ g = w.heap.size + 1 := by
    rcases hb with hb | hb
    · left; rw [hF]; simp [← hb]
    · right; omega
  refine ⟨P :: (wv.ownBlock.toList ++ (vv.ownBlock.toList ++ ([g] ++ nv.ownBlock.toList))), ⟨wv, vv, .slice (some ⟨g, 0, none⟩) (s.hid.length + 1) cap, nv, set6 hP3 _, hB, ?_, ?_, ?_, ?_, rfl, ?_⟩, ⟨hg.os, hg.tape, hg.output, ?_, ?_, ?_⟩⟩
  · exact ownsRow_of_eq h1 (fun k hk => hkeep k (hlt k (by simp [hk])) (fun e => by have := hap; grind) (fun e => (hap.1 k (by simp [hk])) e))
  · exact ownsRow_of_eq h2 (fun k hk => hkeep k (hlt k (by simp [hk])) (fun e => by have := hap; grind) (fun e => (hap.1 k (by simp [hk])) e))
  · exact ownsRow_of_eq (own_cast hown (by simp) (by simp [bc])) (fun k hk => Below.heap_setCell _ _ _ _ (by simp [Value.ownBlock] at hk; subst hk; exact hgP))
  · exact ownsRow_of_eq h4 (fun k hk => hkeep k (hlt k (by simp [hk])) (fun e => by have := hap; grind) (fun e => (hap.1 k (by simp [hk])) e))
  · rw [hF] at hN
    rcases hb with hb | hb
    · have e : hv.ownBlock.toList = [g] := by rw [← hb]; rfl
      rw [e] at hN; exact hN
    · refine nd_hid hN ?_
      intro hm
      have := hlt g (by simpa using Or.resolve_left (List.mem_cons.1 hm) hgP |> fun z => (by grind))
      omega
  · have := hg.size; simp [World.setCell]; omega
  · intro k hk hkF
    exact hkeep k hk (fun e => hkF (by rw [hF]; simp [e])) (fun e => hkF (by rw [hF, e]; simp))
  · intro k hk
    rw [hF]
    rw [hF] at hgF
    grind


theorem IsPv.pushNodes {w3 : World} {o : Obj} {g cap : Nat} (x : Nd) (h : IsPv B WV w P ws s F wv vv hv nv) (hg : (w.alloc o).grownBy w3 nv.ownBlock)
    (hown : w3.ownsRow B 130 6 (.slice (some ⟨g, 0, none⟩) (s.nodes.length + 1) cap) (s.nodes.length + 1) (ndCells s.nodes ++ x.cells))
    (hb : some g = nv.ownBlock ∨ g = (w.alloc o).heap.size) :
    ∃ F', IsP B WV (w3.setCell ⟨P, 5, none⟩ (.slice (some ⟨g, 0, none⟩) (s.nodes.length + 1) cap)) P ws { s with nodes := s.nodes ++ [x] } F' ∧ Stp F w F' (w3.setCell ⟨P, 5, none⟩ (.slice (some ⟨g, 0, none⟩) (s.nodes.length + 1) cap)) := by
  have hap := h.apart
  have hmem := h.is.mem
  have hsz : (w.alloc o).heap.size = w.heap.size + 1 := by simp
  obtain ⟨hP, hB, h1, h2, h3, h4, hF, hN⟩ := h
  have hPl : P < w.heap.size := (hmem P (by rw [hF]; simp)).2
  have hgP : g ≠ P := by
    rcases hb with hb | hb
    · exact hap.1 g (by simp [← hb])
    · omega
  have hkeep : ∀ k, k < w.heap.size → nv.ownBlock ≠ some k → k ≠ P → (w3.setCell ⟨P, 5, none⟩ (.slice (some ⟨g, 0, none⟩) (s.nodes.length + 1) cap)).heap[k]? = w.heap[k]? := by
    intro k hk hne hkP
    rw [Below.heap_setCell _ _ _ _ hkP, hg.block k (by omega) (fun e => hne e.symm), Below.heap_alloc _ _ _ hk]
  have hP3 : w3.heap[P]? = some (.cells #[wv, .int .i64 s.pos, .bool s.failed, vv, hv, nv] 53 (0, 0)) := by
    rw [hg.block P (by omega) (fun e => (hap.1 P (by simp [← e])) rfl), Below.heap_alloc _ _ _ hPl]; exact hP
  have hlt : ∀ k, wv.ownBlock = some k ∨ vv.ownBlock = some k ∨ hv.ownBlock = some k ∨ nv.ownBlock = some k → k < w.heap.size := fun k hk => (hmem k (by rw [hF]; simpa using Or.inr hk)).2
  have hgF : g ∈ F ∨ g = w.heap.size + 1 := by
    rcases hb with hb | hb
    · left; rw [hF]; simp [← hb]
    · right; omega
  refine ⟨P :: (wv.ownBlock.toList ++ (vv.ownBlock.toList ++ (hv.ownBlock.toList ++ [g]))), ⟨wv, vv, hv, .slice (some ⟨g, 0, none⟩) (s.nodes.length + 1) cap, set6 hP3 _, hB, ?_, ?_, ?_, ?_, rfl, ?_⟩, ⟨hg.os, hg.tape, hg.output, ?_, ?_, ?_⟩⟩
  · exact ownsRow_of_eq h1 (fun k hk => hkeep k (hlt k (by simp [hk])) (fun e => by have := hap; grind) (fun e => (hap.1 k (by simp [hk])) e))
  · exact ownsRow_of_eq h2 (fun k hk => hkeep k (hlt k (by simp [hk])) (fun e => by have := hap; grind) (fun e => (hap.1 k (by simp [hk])) e))
  · exact ownsRow_of_eq h3 (fun k hk => hkeep k (hlt k (by simp [hk])) (fun e => by have := hap; grind) (fun e => (hap.1 k (by simp [hk])) e))
  · exact ownsRow_of_eq (own_cast hown (by simp) (by simp [ndCells])) (fun k hk => Below.heap_setCell _ _ _ _ (by simp [Value.ownBlock] at hk; subst hk; exact hgP))
  · rw [hF] at hN
    rcases hb with hb | hb
    · have e : nv.ownBlock.toList = [g] := by rw [← hb]; rfl
      rw [e] at hN; exact hN
    · refine nd_nodes hN ?_
      intro hm
      have := hlt g (by simpa using Or.resolve_left (List.mem_cons.1 hm) hgP |> fun z => (by grind))
      omega
  · have := hg.size; simp [World.setCell]; omega
  · intro k hk hkF
    exact hkeep k hk (fun e => hkF (by rw [hF]; simp [e])) (fun e => hkF (by rw [hF, e]; simp))
  · intro k hk
    rw [hF]
    rw [hF] at hgF
    grind

end
end Go.Proofs.Ytciihepbeacppaa
