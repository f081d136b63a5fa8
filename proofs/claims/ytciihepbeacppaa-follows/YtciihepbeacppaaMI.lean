import Derived.Test.YtciihepbeacppaaMH
import Derived.BigRegion
import Derived.Deep.DeepCutAuto
import Derived.Deep.Cut
import Derived.Deep.CutRange
import Derived.Deep.RegionHeld3
namespace Go.Proofs.Ytciihepbeacppaa
open Go.RowKit

/-! ### Of -/
/-- the formula that is being made -/
theorem bx_after {Y w' : World} {o : Obj} (hb : Below (Y.alloc o).heap.size (Y.alloc o) w') : w'.heap[Y.heap.size]? = some o := (hb.block _ (by simp)).trans (heap_alloc_new Y o)
theorem bl_box (w : World) (o : Obj) : Below w.heap.size w (w.alloc o) := (Below.refl _ _).alloc (Nat.le_refl _) o
theorem cells3 {w : World} {b : Nat} {x y z : Value} {T : TypeId} (h : w.heap[b]? = some (.cells #[x, y, z] T (0, 0))) : w.cell? ⟨b, 0, none⟩ = some x ∧ w.cell? ⟨b, 1, none⟩ = some y ∧ w.cell? ⟨b, 2, none⟩ = some z ∧ ∀ j, w.frozen? ⟨b, j, none⟩ = false := by
  have hc := fun j => cell_of_row w b j #[x, y, z] T (0, 0) h
  exact ⟨hc 0, hc 1, hc 2, fun j => frozen_of_row w b j _ T h⟩
theorem set3 {w : World} {b : Nat} {x y z p q r : Value} {T : TypeId} (h : w.heap[b]? = some (.cells #[x, y, z] T (0, 0))) : (((w.setCell ⟨b, 0, none⟩ p).setCell ⟨b, 1, none⟩ q).setCell ⟨b, 2, none⟩ r).heap[b]? = some (.cells #[p, q, r] T (0, 0)) := by
  have h1 := heap_setCell_same w b 0 #[x, y, z] T p h
  have h2 := heap_setCell_same _ b 1 _ T q h1
  have h3 := heap_setCell_same _ b 2 _ T r h2
  exact h3
structure Om (w0 w : World) (A C : Nat) (cs : List Nat) (fc : List Nat) (ap ow : List Pr) (av ov : Value) : Prop where
  cl : Ob w 81 13 C (naC cs)
  fo : Ob w 67 7 A (naC fc ++ [av, ov])
  f5 : fc.length = 5
  ap : w.ownsRow w0.heap.size 89 3 av ap.length (prCells ap)
  ow : w.ownsRow w0.heap.size 89 3 ov ow.length (prCells ow)
  bl : Below w0.heap.size w0 w
  nd : (C :: A :: (av.ownBlock.toList ++ ov.ownBlock.toList)).Nodup
  lo : w0.heap.size ≤ C ∧ w0.heap.size ≤ A
theorem Om.below {w0 w w' : World} {A C : Nat} {cs fc : List Nat} {ap ow : List Pr} {av ov : Value} (h : Om w0 w A C cs fc ap ow av ov) (hb : Below w.heap.size w w') : Om w0 w' A C cs fc ap ow av ov :=
  ⟨h.cl.of_eq (hb.block _ (World.ownsRow.lt h.cl _ rfl).2), h.fo.of_eq (hb.block _ (World.ownsRow.lt h.fo _ rfl).2), h.f5, rowB h.ap hb, rowB h.ow hb, h.bl.trans (hb.mono h.bl.size), h.nd, h.lo⟩
theorem Om.drewN {w0 w : World} {A C : Nat} {cs fc : List Nat} {ap ow : List Pr} {av ov : Value} (h : Om w0 w A C cs fc ap ow av ov) (n : Nat) : Om w0 (w.drewN n) A C cs fc ap ow av ov := h.below ⟨rfl, rfl, rfl, Nat.le_refl _, fun _ _ => rfl⟩
theorem Om.alloc {w0 w : World} {A C : Nat} {cs fc : List Nat} {ap ow : List Pr} {av ov : Value} (h : Om w0 w A C cs fc ap ow av ov) (o : Obj) : Om w0 (w.alloc o) A C cs fc ap ow av ov := h.below ((Below.refl _ _).alloc (Nat.le_refl _) o)

theorem Om.setF {w0 w : World} {A C : Nat} {cs fc : List Nat} {ap ow : List Pr} {av ov : Value} (h : Om w0 w A C cs fc ap ow av ov) {i : Nat} (hi : i < 5) (n : Nat) : Om w0 (w.setCell ⟨A, i, none⟩ (.int .i64 (n : Int))) A C cs (fc.set i n) ap ow av ov := by
  have hn := h.nd
  simp only [List.nodup_cons, List.mem_cons, List.mem_append, Option.mem_toList, not_or] at hn
  have hoth : ∀ k, k ≠ A → (w.setCell ⟨A, i, none⟩ (.int .i64 (n : Int))).heap[k]? = w.heap[k]? := fun k hk => Below.heap_setCell _ _ _ _ hk
  refine ⟨h.cl.of_eq (hoth _ hn.1.1), ?_, by simpa using h.f5, ownsRow_of_eq h.ap (fun k hk => hoth k (by rintro rfl; exact hn.2.1.1 hk)), ownsRow_of_eq h.ow (fun k hk => hoth k (by rintro rfl; exact hn.2.1.2 hk)), h.bl.setCell h.lo.2 _, h.nd, h.lo⟩
  have := h.fo.set i (.int .i64 (n : Int))
  rw [List.set_append_left _ _ (by rw [naC_len, h.f5]; exact hi), naC_set] at this
  exact this
theorem Om.nds {w0 w : World} {A C : Nat} {cs fc : List Nat} {ap ow : List Pr} {av ov : Value} (h : Om w0 w A C cs fc ap ow av ov) : C ≠ A ∧ av.ownBlock ≠ some C ∧ ov.ownBlock ≠ some C ∧ av.ownBlock ≠ some A ∧ ov.ownBlock ≠ some A ∧ ∀ k, av.ownBlock = some k → ov.ownBlock ≠ some k := by
  have hn := h.nd
  simp only [List.nodup_cons, List.mem_cons, List.mem_append, Option.mem_toList, not_or, List.nodup_append] at hn
  obtain ⟨⟨h1, h2, h3⟩, ⟨h4, h5⟩, -, -, h6⟩ := hn
  exact ⟨h1, h2, h3, h4, h5, fun k hk hk2 => h6 k hk k hk2 rfl⟩
theorem prC_one (p : Pr) : ∀ u ∈ prC p, u.oneCell' = true := by
  have h := prCells_one [p]
  simpa [prCells] using h
theorem nd_of {A C : Nat} {av ov : Value} (h1 : C ≠ A) (h2 : av.ownBlock ≠ some C) (h3 : ov.ownBlock ≠ some C) (h4 : av.ownBlock ≠ some A) (h5 : ov.ownBlock ≠ some A) (h6 : ∀ k, av.ownBlock = some k → ov.ownBlock ≠ some k) : (C :: A :: (av.ownBlock.toList ++ ov.ownBlock.toList)).Nodup := by
  simp only [List.nodup_cons, List.mem_cons, List.mem_append, Option.mem_toList, not_or, List.nodup_append]
  refine ⟨⟨h1, h2, h3⟩, ⟨h4, h5⟩, ?_, ?_, ?_⟩
  · cases av.ownBlock <;> simp
  · cases ov.ownBlock <;> simp
  · rintro k hk j hj rfl; exact h6 k hk hj
theorem Om.pushA {w0 W w2 : World} {A C g cap k : Nat} {o : Obj} {cs fc : List Nat} {ap ow : List Pr} {av ov : Value} (p : Pr) (h0 : Om w0 W A C cs fc ap ow av ov) (hg : ((W.drewN k).alloc o).grownBy w2 av.ownBlock)
    (hown : w2.ownsRow w0.heap.size 89 3 (.slice (some ⟨g, 0, none⟩) (ap.length + 1) cap) (ap.length + 1) (prCells ap ++ prC p)) (hblk : some g = av.ownBlock ∨ g = ((W.drewN k).alloc o).heap.size) :
    Om w0 (w2.setCell ⟨A, 5, none⟩ (.slice (some ⟨g, 0, none⟩) (ap.length + 1) cap)) A C cs fc (ap ++ [p]) ow (.slice (some ⟨g, 0, none⟩) (ap.length + 1) cap) ov := by
  have h := (h0.drewN k).alloc o
  generalize ((W.drewN k).alloc o) = X at h hg hblk
  obtain ⟨n1, n2, n3, n4, n5, n6⟩ := h.nds
  have hA : A < X.heap.size := (World.ownsRow.lt h.fo _ rfl).2
  have hC : C < X.heap.size := (World.ownsRow.lt h.cl _ rfl).2
  have hoth : ∀ j, j < X.heap.size → av.ownBlock ≠ some j → w2.heap[j]? = X.heap[j]? := fun j h1 h2 => hg.block j h1 (fun e => h2 e.symm)
  have hset : ∀ j v, j ≠ A → (w2.setCell ⟨A, 5, none⟩ v).heap[j]? = w2.heap[j]? := fun j v hj => Below.heap_setCell _ _ _ _ hj
  have hgA : g ≠ A := by
    rcases hblk with e | e
    · rintro rfl; exact n4 e.symm
    · omega
  have hgC : g ≠ C := by
    rcases hblk with e | e
    · rintro rfl; exact n2 e.symm
    · omega
  have hgo : ov.ownBlock ≠ some g := by
    rcases hblk with e | e
    · exact n6 g e.symm
    · intro e2; have := (h.ow.lt g e2).2; omega
  have hbl : Below w0.heap.size w0 w2 := h.bl.grown hg h.bl.size (fun j hj => (h.ap.lt j hj).1)
  refine ⟨h.cl.of_eq ((hset _ _ n1).trans (hoth _ hC n2)), ?_, h.f5, ?_, ownsRow_of_eq h.ow (fun j hj => (hset _ _ (by rintro rfl; exact n5 hj)).trans (hoth _ (h.ow.lt j hj).2 (fun e => n6 j e hj))), hbl.setCell h.lo.2 _, nd_of n1 ?_ n3 ?_ n5 ?_, h.lo⟩
  · have := (h.fo.of_eq (hoth _ hA n4)).set 5 (.slice (some ⟨g, 0, none⟩) (ap.length + 1) cap)
    rw [List.set_append_right _ _ (by rw [naC_len, h.f5]; exact Nat.le_refl _), naC_len, h.f5] at this
    exact this
  · have := ownsRow_of_eq (w' := w2.setCell ⟨A, 5, none⟩ (.slice (some ⟨g, 0, none⟩) (ap.length + 1) cap)) hown (fun j hj => hset _ _ (by cases hj; exact hgA))
    rw [List.length_append, prCells_app]
    have e : prCells [p] = prC p := by simp [prCells]
    rw [e]
    exact this
  · intro e; cases e; exact hgC rfl
  · intro e; cases e; exact hgA rfl
  · intro j e; cases e; exact hgo
theorem Om.pushO {w0 W w2 : World} {A C g cap k : Nat} {o : Obj} {cs fc : List Nat} {ap ow : List Pr} {av ov : Value} (p : Pr) (h0 : Om w0 W A C cs fc ap ow av ov) (hg : ((W.drewN k).alloc o).grownBy w2 ov.ownBlock)
    (hown : w2.ownsRow w0.heap.size 89 3 (.slice (some ⟨g, 0, none⟩) (ow.length + 1) cap) (ow.length + 1) (prCells ow ++ prC p)) (hblk : some g = ov.ownBlock ∨ g = ((W.drewN k).alloc o).heap.size) :
    Om w0 (w2.setCell ⟨A, 6, none⟩ (.slice (some ⟨g, 0, none⟩) (ow.length + 1) cap)) A C cs fc ap (ow ++ [p]) av (.slice (some ⟨g, 0, none⟩) (ow.length + 1) cap) := by
  have h := (h0.drewN k).alloc o
  generalize ((W.drewN k).alloc o) = X at h hg hblk
  obtain ⟨n1, n2, n3, n4, n5, n6⟩ := h.nds
  have hA : A < X.heap.size := (World.ownsRow.lt h.fo _ rfl).2
  have hC : C < X.heap.size := (World.ownsRow.lt h.cl _ rfl).2
  have hoth : ∀ j, j < X.heap.size → ov.ownBlock ≠ some j → w2.heap[j]? = X.heap[j]? := fun j h1 h2 => hg.block j h1 (fun e => h2 e.symm)
  have hset : ∀ j v, j ≠ A → (w2.setCell ⟨A, 6, none⟩ v).heap[j]? = w2.heap[j]? := fun j v hj => Below.heap_setCell _ _ _ _ hj
  have hgA : g ≠ A := by
    rcases hblk with e | e
    · rintro rfl; exact n5 e.symm
    · omega
  have hgC : g ≠ C := by
    rcases hblk with e | e
    · rintro rfl; exact n3 e.symm
    · omega
  have hgo : av.ownBlock ≠ some g := by
    rcases hblk with e | e
    · exact fun e2 => n6 g e2 e.symm
    · intro e2; have := (h.ap.lt g e2).2; omega
  have hbl : Below w0.heap.size w0 w2 := h.bl.grown hg h.bl.size (fun j hj => (h.ow.lt j hj).1)
  refine ⟨h.cl.of_eq ((hset _ _ n1).trans (hoth _ hC n3)), ?_, h.f5, ownsRow_of_eq h.ap (fun j hj => (hset _ _ (by rintro rfl; exact n4 hj)).trans (hoth _ (h.ap.lt j hj).2 (fun e => n6 j hj e))), ?_, hbl.setCell h.lo.2 _, nd_of n1 n2 ?_ n4 ?_ ?_, h.lo⟩
  · have := (h.fo.of_eq (hoth _ hA n5)).set 6 (.slice (some ⟨g, 0, none⟩) (ow.length + 1) cap)
    rw [List.set_append_right _ _ (by rw [naC_len, h.f5]; omega), naC_len, h.f5] at this
    exact this
  · have := ownsRow_of_eq (w' := w2.setCell ⟨A, 6, none⟩ (.slice (some ⟨g, 0, none⟩) (ow.length + 1) cap)) hown (fun j hj => hset _ _ (by cases hj; exact hgA))
    rw [List.length_append, prCells_app]
    have e : prCells [p] = prC p := by simp [prCells]
    rw [e]
    exact this
  · intro e; cases e; exact hgC rfl
  · intro e; cases e; exact hgA rfl
  · intro j hj e; cases e; exact hgo hj
def fcK (M : List Nat) (k : Nat) : List Nat := M.take k ++ List.replicate (5 - k) 0
theorem fcK_set {M : List Nat} (hm : M.length = 13) {k : Nat} (h : k < 5) : (fcK M k).set k (M.getD k 0) = fcK M (k + 1) := by
  unfold fcK
  have hl : (M.take k).length = k := by rw [List.length_take]; omega
  have hk : k < M.length := by omega
  rw [List.set_append_right _ _ (by omega), hl, Nat.sub_self, show 5 - k = (5 - (k + 1)) + 1 by omega, List.replicate_succ, List.set_cons_zero, List.take_succ_eq_append_getElem hk, List.append_assoc]
  simp [hk]

set_option maxRecDepth 100000 in
set_option maxHeartbeats 8000000 in
theorem of_any {w : World} {B : Nat} {av : Value} {al : List Atm} (h : w.ownsRow B 86 5 av al.length (atCells al)) (ht : TmOK al) (hal : al.length ≤ 1000) (hb : ∀ a ∈ al, a.lk ≤ 2 ∧ a.rk ≤ 2 ∧ a.li ≤ 100 ∧ a.ri ≤ 100) :
    Calls Try.prog 14 #[av] w fun e w' => ∃ A fav fov, e = .returned (.pointer (some ⟨A, 0, none⟩)) ∧ IsF w' A (cfOf al) fav fov ∧ (∀ k ∈ bsF A fav fov, w.heap.size ≤ k) ∧ Below w.heap.size w w' := by
  obtain ⟨ao, cap, hav, hcm, hcn, hcell⟩ := at_of_own h
  have HC := hide hcell
  have HM := hide (merge_any h ht hal hb)
  rw [hav] at HM ⊢
  have hml : (mrg al).length = 13 := mrg_len ht
  obtain ⟨M, hMM⟩ : ∃ M, M = mrg al := ⟨_, rfl⟩
  have HMM := hide hMM
  rw [← hMM] at HM hml
  clear h hcell hav hMM
  go_enter Try.func14, Try.ntmps14
  go_wp2_with fail
  refine (unhide HM).mono ?_
  rintro e w1 ⟨rfl, hb1⟩
  have HB1 := hide hb1
  clear hb1
  have hI2 : (Try.prog.info? 81).map (·.size) = some (naC M).toArray.size := by rw [List.size_toArray, naC_len, hml]; exact Try.info13
  have hO : (naC M).toArray.all (·.oneCell') = true := all_oneCell_toArray (by
    intro v hv
    obtain ⟨o, _, rfl⟩ := List.mem_map.1 hv
    rfl)
  obtain ⟨MC, hMC⟩ : ∃ MC, MC = naC M := ⟨_, rfl⟩
  rw [← hMC] at hI2 hO ⊢
  have HI2 := hide hI2
  have HO := hide hO
  have HMC := hide hMC
  clear hI2 hO hMC
  have hTh : ∀ W : World, ∀ o, W = (w1.alloc o) → (∃ cs : Array Value, o = .cells cs 81 ∧ cs.size = 13) → W.there w1.heap.size 0 MC.toArray.size := by
    rintro W o rfl ⟨cs, rfl, hcs⟩
    intro j hj
    rw [List.size_toArray, unhide HMC, naC_len, hml] at hj
    rw [Nat.zero_add]
    have hc := cell_of_row (w1.alloc (.cells cs 81)) w1.heap.size j cs 81 (0, 0) (heap_alloc_new w1 _)
    have hf := frozen_of_row (w1.alloc (.cells cs 81)) w1.heap.size j cs 81 (heap_alloc_new w1 _)
    exact ⟨by rw [hc]; simp [hcs, hj], hf⟩
  have HTh := hide hTh
  clear hTh
  go_wp2_with (first | refine wpList_store_mid rfl 81 (.tmp 3) (.tmp 10) rfl w1.heap.size 0 MC.toArray rfl rfl (unhide HTh _ _ rfl ⟨_, rfl, rfl⟩) (unhide HI2) (unhide HO) ?_)
  obtain ⟨w2, hw2⟩ : ∃ w2, w2 = (w1.alloc (Obj.cells #[Value.int IntKind.i64 0, Value.int IntKind.i64 0, Value.int IntKind.i64 0, Value.int IntKind.i64 0, Value.int IntKind.i64 0, Value.int IntKind.i64 0, Value.int IntKind.i64 0, Value.int IntKind.i64 0, Value.int IntKind.i64 0, Value.int IntKind.i64 0, Value.int IntKind.i64 0, Value.int IntKind.i64 0, Value.int IntKind.i64 0] 81)).setCells w1.heap.size 0 MC := ⟨_, rfl⟩
  rw [← hw2]
  have hC2 : Ob w2 81 13 w1.heap.size (naC M) := by
    have h1 := World.ownsRow_lit (base := 0) (e := 81) (size := 13) w1 #[Value.int IntKind.i64 0, Value.int IntKind.i64 0, Value.int IntKind.i64 0, Value.int IntKind.i64 0, Value.int IntKind.i64 0, Value.int IntKind.i64 0, Value.int IntKind.i64 0, Value.int IntKind.i64 0, Value.int IntKind.i64 0, Value.int IntKind.i64 0, Value.int IntKind.i64 0, Value.int IntKind.i64 0, Value.int IntKind.i64 0] 1 (Nat.zero_le _) (by simp [maxLen]) rfl
    have h2 := Ob.setCells MC 0 h1
    have h3 := setL_mid MC [] [Value.int IntKind.i64 0, Value.int IntKind.i64 0, Value.int IntKind.i64 0, Value.int IntKind.i64 0, Value.int IntKind.i64 0, Value.int IntKind.i64 0, Value.int IntKind.i64 0, Value.int IntKind.i64 0, Value.int IntKind.i64 0, Value.int IntKind.i64 0, Value.int IntKind.i64 0, Value.int IntKind.i64 0, Value.int IntKind.i64 0] [] (by rw [unhide HMC, naC_len, hml]; rfl)
    simp only [List.nil_append, List.append_nil, List.length_nil] at h3
    have e : (#[Value.int IntKind.i64 0, Value.int IntKind.i64 0, Value.int IntKind.i64 0, Value.int IntKind.i64 0, Value.int IntKind.i64 0, Value.int IntKind.i64 0, Value.int IntKind.i64 0, Value.int IntKind.i64 0, Value.int IntKind.i64 0, Value.int IntKind.i64 0, Value.int IntKind.i64 0, Value.int IntKind.i64 0, Value.int IntKind.i64 0] : Array Value).toList = [Value.int IntKind.i64 0, Value.int IntKind.i64 0, Value.int IntKind.i64 0, Value.int IntKind.i64 0, Value.int IntKind.i64 0, Value.int IntKind.i64 0, Value.int IntKind.i64 0, Value.int IntKind.i64 0, Value.int IntKind.i64 0, Value.int IntKind.i64 0, Value.int IntKind.i64 0, Value.int IntKind.i64 0, Value.int IntKind.i64 0] := rfl
    rw [e, h3] at h2
    rw [hw2, ← unhide HMC]
    exact h2
  have hB2 : Below w.heap.size w w2 := by
    rw [hw2]
    have hs : ∀ (vs : List Value) (o : Nat) (x : World), Below w.heap.size w x → Below w.heap.size w (x.setCells w1.heap.size o vs) := by
      intro vs
      induction vs with
      | nil => intro o x h; exact h
      | cons v r ih => intro o x h; exact ih (o + 1) _ (h.setCell (unhide HB1).size v)
    exact hs MC 0 _ ((unhide HB1).alloc (unhide HB1).size _)
  obtain ⟨C, hC⟩ : ∃ C, C = w1.heap.size := ⟨_, rfl⟩
  obtain ⟨A, hA⟩ : ∃ A, A = w2.heap.size := ⟨_, rfl⟩
  rw [← hC] at hC2 ⊢
  rw [← hA]
  have hCA : C < A := by rw [hA]; exact (World.ownsRow.lt hC2 _ rfl).2
  have hCw : w.heap.size ≤ C := by rw [hC]; exact (unhide HB1).size
  have hOm0 : Om w (w2.alloc (Obj.cells #[Value.int IntKind.i64 0, Value.int IntKind.i64 0, Value.int IntKind.i64 0, Value.int IntKind.i64 0, Value.int IntKind.i64 0, Value.slice none 0 0, Value.slice none 0 0] 67)) A C M (List.replicate 5 0) [] [] (.slice none 0 0) (.slice none 0 0) := by
    refine ⟨hC2.alloc _, ?_, rfl, World.ownsRow_nil _ _ _ _, World.ownsRow_nil _ _ _ _, hB2.alloc hB2.size _, ?_, hCw, by omega⟩
    · have h1 := World.ownsRow_lit (base := 0) (e := 67) (size := 7) w2 #[Value.int IntKind.i64 0, Value.int IntKind.i64 0, Value.int IntKind.i64 0, Value.int IntKind.i64 0, Value.int IntKind.i64 0, Value.slice none 0 0, Value.slice none 0 0] 1 (Nat.zero_le _) (by simp [maxLen]) rfl
      rw [← hA] at h1
      exact h1
    · simp [Value.ownBlock]; omega
  have HOm0 := hide hOm0
  clear hC2 hB2 hC hA hw2 hOm0
  go_loopw [5] (fun i wr => ∃ k : Nat, k ≤ 5 ∧ i = .int .i64 k ∧ Hid (Om w wr A C M (fcK M k) [] [] (.slice none 0 0) (.slice none 0 0))) (fun i _ => 5 - (intOf i).toNat)
  case atStart => exact ⟨0, Nat.zero_le _, rfl, HOm0⟩
  case round =>
    obtain ⟨k, hk, rfl, hOm⟩ := hrel
    by_cases hlt : k < 5
    · have hd : decide ((k : Int) < 5) = true := by simp; omega
      have hck := (World.ownsRow.cellAt (unhide hOm).cl k (by omega)).trans (naC_get (l := M) (by omega))
      obtain ⟨⟨u, hu⟩, hz⟩ := (unhide hOm).fo.some (j := k) (by omega)
      have hOm2 := (unhide hOm).setF hlt (M.getD k 0)
      rw [fcK_set hml hlt] at hOm2
      obtain ⟨mk, hmk⟩ : ∃ mk, mk = M.getD k 0 := ⟨_, rfl⟩
      rw [← hmk] at hck hOm2
      have HOm2 := hide hOm2
      clear hOm2 hmk hOm
      go_wp2_with fail
      go_region
      go_wp2_with fail
      go_roundw
      case rel => exact ⟨k + 1, by omega, by go_num, hide ((unhide HOm2).drewN 1)⟩
      case measure => simp [intOf]; omega
    · have hd : decide ((k : Int) < 5) = false := by simp; omega
      have hk5 : k = 5 := by omega
      subst hk5
      go_wp2_with fail
      go_loopg [27] al.length (fun gn i wr => ∃ (k : Nat) (av ov : Value), k + gn = al.length ∧ i = .int .i64 k ∧ Hid (Om w wr A C M (fcK M 5) (((al.take k).filter (fun a => a.k == 2)).map (prOf M)) (((al.take k).filter (fun a => a.k == 3 || a.k == 4)).map (prOf M)) av ov))
      case atStart => exact ⟨0, .slice none 0 0, .slice none 0 0, by omega, rfl, hOm⟩
      case round =>
        obtain ⟨k, av, ov, hk, rfl, hOm⟩ := hrel
        by_cases hlt2 : k < al.length
        · have hd2 : decide ((k : Int) < (al.length : Int)) = true := by simp; omega
          obtain ⟨g, hao, hgl, hcell⟩ := unhide HC (by intro h; rw [h] at hlt2; simp at hlt2)
          subst hao
          obtain ⟨x0, x1, x2, x3, x4⟩ := hcell k hlt2
          obtain ⟨a, ha⟩ : ∃ a, a = al[k] := ⟨_, rfl⟩
          have hta := ht _ (List.getElem_mem hlt2)
          have hba := hb _ (List.getElem_mem hlt2)
          rw [← ha] at x0 x1 x2 x3 x4 hta hba
          have hB1 := (unhide hOm).bl
          have c0 := (hB1.cell (World.block_lt_of_cell? w _ x0)).trans x0
          have c1 := (hB1.cell (World.block_lt_of_cell? w _ x1)).trans x1
          have c2 := (hB1.cell (World.block_lt_of_cell? w _ x2)).trans x2
          have c3 := (hB1.cell (World.block_lt_of_cell? w _ x3)).trans x3
          have c4 := (hB1.cell (World.block_lt_of_cell? w _ x4)).trans x4
          clear hcell x0 x1 x2 x3 x4 hB1
          have hst2 : (al.take (k + 1)).filter (fun a => a.k == 2) = (al.take k).filter (fun a => a.k == 2) ++ (if a.k = 2 then [a] else []) := by
            rw [List.take_succ_eq_append_getElem hlt2, List.filter_append, ← ha]
            congr 1
            by_cases h : a.k = 2 <;> simp [h]
          have hst3 : (al.take (k + 1)).filter (fun a => a.k == 3 || a.k == 4) = (al.take k).filter (fun a => a.k == 3 || a.k == 4) ++ (if a.k = 3 ∨ a.k = 4 then [a] else []) := by
            rw [List.take_succ_eq_append_getElem hlt2, List.filter_append, ← ha]
            congr 1
            by_cases h : a.k = 3 ∨ a.k = 4
            · rw [if_pos h]; rcases h with h | h <;> simp [h]
            · rw [if_neg h]
              have h3 : a.k ≠ 3 := fun e => h (Or.inl e)
              have h4 : a.k ≠ 4 := fun e => h (Or.inr e)
              simp [h3, h4]
          have HS2 := hide hst2
          have HS3 := hide hst3
          obtain ⟨W0, hW0⟩ : ∃ W0, W0 = wr.alloc (.cells #[Value.int .i64 a.k, .int .i64 a.lk, .int .i64 a.li, .int .i64 a.rk, .int .i64 a.ri] 86) := ⟨_, rfl⟩
          have hOm0' := (unhide hOm).alloc (.cells #[Value.int .i64 a.k, .int .i64 a.lk, .int .i64 a.li, .int .i64 a.rk, .int .i64 a.ri] 86)
          rw [← hW0] at hOm0'
          have hnew := fun j => cell_of_row (wr.alloc (.cells #[Value.int .i64 a.k, .int .i64 a.lk, .int .i64 a.li, .int .i64 a.rk, .int .i64 a.ri] 86)) wr.heap.size j #[Value.int .i64 a.k, .int .i64 a.lk, .int .i64 a.li, .int .i64 a.rk, .int .i64 a.ri] 86 (0, 0) (heap_alloc_new wr _)
          rw [← hW0] at hnew
          have n0 := hnew 0
          have n1 := hnew 1
          have n2 := hnew 2
          have n3 := hnew 3
          have n4 := hnew 4
          simp only [List.getElem?_toArray, List.getElem?_cons_zero, List.getElem?_cons_succ] at n0 n1 n2 n3 n4
          have hlt1 : tNo a.lk a.li < 13 := hta.1
          have hltr : tNo a.rk a.ri < 13 := hta.2
          obtain ⟨t1, ht1⟩ : ∃ t1, t1 = tNo a.lk a.li := ⟨_, rfl⟩
          obtain ⟨t2, ht2⟩ : ∃ t2, t2 = tNo a.rk a.ri := ⟨_, rfl⟩
          rw [← ht1] at hlt1
          rw [← ht2] at hltr
          obtain ⟨cl, hcl⟩ : ∃ cl, cl = M.getD t1 0 := ⟨_, rfl⟩
          obtain ⟨cr, hcr⟩ : ∃ cr, cr = M.getD t2 0 := ⟨_, rfl⟩
          -- what can be read as long as nothing below is written into
          have hfacts : ∀ W : World, Below W0.heap.size W0 W → W.cell? ⟨wr.heap.size, 0, none⟩ = some (.int .i64 a.k) ∧ W.cell? ⟨wr.heap.size, 1, none⟩ = some (.int .i64 a.lk) ∧ W.cell? ⟨wr.heap.size, 2, none⟩ = some (.int .i64 a.li) ∧ W.cell? ⟨wr.heap.size, 3, none⟩ = some (.int .i64 a.rk) ∧ W.cell? ⟨wr.heap.size, 4, none⟩ = some (.int .i64 a.ri) ∧ W.cell? ⟨C, t1, none⟩ = some (.int .i64 cl) ∧ W.cell? ⟨C, t2, none⟩ = some (.int .i64 cr) := by
            intro W hW
            have hCl := (hOm0'.below hW).cl
            exact ⟨(hW.cell (World.block_lt_of_cell? _ _ n0)).trans n0, (hW.cell (World.block_lt_of_cell? _ _ n1)).trans n1, (hW.cell (World.block_lt_of_cell? _ _ n2)).trans n2, (hW.cell (World.block_lt_of_cell? _ _ n3)).trans n3, (hW.cell (World.block_lt_of_cell? _ _ n4)).trans n4,
              by rw [hcl]; exact (World.ownsRow.cellAt hCl t1 (by omega)).trans (naC_get (l := M) (by omega)), by rw [hcr]; exact (World.ownsRow.cellAt hCl t2 (by omega)).trans (naC_get (l := M) (by omega))⟩
          obtain ⟨-, -, -, -, -, n5, n6⟩ := hfacts W0 (Below.refl _ _)
          have HFa := hide hfacts
          have HNl : Hid (∀ W, Calls Try.prog 31 #[.agg #[.int .i64 a.lk, .int .i64 a.li]] W fun e w' => e = .returned (.int .i64 (t1 : Int)) ∧ Below W.heap.size W w') := hide (fun W => by rw [ht1]; exact number_any a.lk a.li hba.1 (by omega) W)
          have HNr : Hid (∀ W, Calls Try.prog 31 #[.agg #[.int .i64 a.rk, .int .i64 a.ri]] W fun e w' => e = .returned (.int .i64 (t2 : Int)) ∧ Below W.heap.size W w') := hide (fun W => by rw [ht2]; exact number_any a.rk a.ri hba.2.1 (by omega) W)
          have HOm0' := hide hOm0'
          have HW0 := hide hW0
          have HPr : Hid (prOf M a = ⟨a.k, cl, cr⟩) := hide (by unfold prOf; rw [← ht1, ← ht2, ← hcl, ← hcr])
          clear hnew hfacts hOm0' ht1 ht2 hcl hcr hst2 hst3 ha hta hba
          rw [hW0] at n0 n1 n2 n3 n4 n5 n6
          clear hW0
          go_wp2_with fail
          rw [unhide HW0] at HFa HOm0'
          obtain ⟨p0, p1, p2, p3, p4, p5, p6⟩ := unhide HFa ((wr.alloc (.cells #[Value.int .i64 a.k, .int .i64 a.lk, .int .i64 a.li, .int .i64 a.rk, .int .i64 a.ri] 86)).alloc (.cells #[Value.int .i64 0, .int .i64 0, .int .i64 0] 89)) (bl_box (wr.alloc (.cells #[Value.int .i64 a.k, .int .i64 a.lk, .int .i64 a.li, .int .i64 a.rk, .int .i64 a.ri] 86)) (.cells #[Value.int .i64 0, .int .i64 0, .int .i64 0] 89))
          go_cut [8] (fun p wx => ∃ b, p = .pointer (some ⟨b, 0, none⟩) ∧ Hid (wx.heap[b]? = some (.cells #[Value.int .i64 a.k, .int .i64 cl, .int .i64 cr] 89 (0, 0))) ∧ Hid (Below (wr.alloc (.cells #[Value.int .i64 a.k, .int .i64 a.lk, .int .i64 a.li, .int .i64 a.rk, .int .i64 a.ri] 86)).heap.size (wr.alloc (.cells #[Value.int .i64 a.k, .int .i64 a.lk, .int .i64 a.li, .int .i64 a.rk, .int .i64 a.ri] 86)) wx))
          case first =>
            have hwC : C < wr.heap.size := (World.ownsRow.lt (unhide hOm).cl _ rfl).2
            have i1 : (0 : Int) ≤ (t1 : Int) := by omega
            have i2 : (t1 : Int) < 13 := by omega
            have i3 : (0 : Int) ≤ (t2 : Int) := by omega
            have i4 : (t2 : Int) < 13 := by omega
            have e1 : ¬ (C = wr.heap.size + 1) := by omega
            have e2 : ¬ (wr.heap.size + 1 = C) := by omega
            have hsz0 : (wr.alloc (.cells #[Value.int .i64 a.k, .int .i64 a.lk, .int .i64 a.li, .int .i64 a.rk, .int .i64 a.ri] 86)).heap.size = wr.heap.size + 1 := by simp
            clear c0 c1 c2 c3 c4 hk hd2 hgl
            go_region_held3 (fun W => W.cell? ⟨wr.heap.size, 0, none⟩ = some (.int .i64 a.k) ∧ W.cell? ⟨wr.heap.size, 1, none⟩ = some (.int .i64 a.lk) ∧ W.cell? ⟨wr.heap.size, 2, none⟩ = some (.int .i64 a.li) ∧ W.cell? ⟨wr.heap.size, 3, none⟩ = some (.int .i64 a.rk) ∧ W.cell? ⟨wr.heap.size, 4, none⟩ = some (.int .i64 a.ri) ∧ W.cell? ⟨C, t1, none⟩ = some (.int .i64 cl) ∧ W.cell? ⟨C, t2, none⟩ = some (.int .i64 cr)) (first | (simp only [World.cell?_drew, n0, n1, n2, n3, n4, n5, n6, and_self]; done) | (simp only [World.cell?_drew, p0, p1, p2, p3, p4, p5, p6, and_self]; done) | (simp only [q0, q1, q2, q3, q4, q5, q6, and_self]; done) | (simp only [r0, r1, r2, r3, r4, r5, r6, and_self]; done) | (simp only [s0, s1, s2, s3, s4, s5, s6, and_self]; done) | (simp only [v0, v1, v2, v3, v4, v5, v6, and_self]; done) | (simp [World.cell?_setCell_far, s0, s1, s2, s3, s4, s5, s6, e2]; done) | (simp [World.cell?_setCell_far, s0, s1, s2, s3, s4, s5, s6, f3, f4]; done) | (simp [s0, s1, s2, s3, s4, s5, s6, World.cell?_alloc_some]; done))
              (first
                | (go_at_call 31; refine (unhide HNr wL).mono ?_; rintro e wR ⟨rfl, hbR⟩; have BR : Below (wr.alloc (.cells #[Value.int .i64 a.k, .int .i64 a.lk, .int .i64 a.li, .int .i64 a.rk, .int .i64 a.ri] 86)).heap.size (wr.alloc (.cells #[Value.int .i64 a.k, .int .i64 a.lk, .int .i64 a.li, .int .i64 a.rk, .int .i64 a.ri] 86)) wR := (unhide HBL).trans (hbR.mono (unhide HBL).size); obtain ⟨s0, s1, s2, s3, s4, s5, s6⟩ := unhide HFa wR BR; obtain ⟨v0, v1, v2, v3, v4, v5, v6⟩ := unhide HFa (wR.alloc (.cells #[Value.int .i64 0, .int .i64 0, .int .i64 0] 89)) (BR.trans ((bl_box wR (.cells #[Value.int .i64 0, .int .i64 0, .int .i64 0] 89)).mono BR.size)); (try (have HPC := hide ((hbR.block _ (Array.getElem?_eq_some_iff.1 (unhide HPB)).1).trans (unhide HPB)); obtain ⟨x0, x1, x2, xf⟩ := cells3 (unhide HPC))); have HBR := hide BR; clear hbR BR)
                | (go_at_call 31; refine (unhide HNr (wL.alloc (.cells #[Value.int .i64 0, .int .i64 0, .int .i64 0] 89))).mono ?_; rintro e wR ⟨rfl, hbR⟩; have BR : Below (wr.alloc (.cells #[Value.int .i64 a.k, .int .i64 a.lk, .int .i64 a.li, .int .i64 a.rk, .int .i64 a.ri] 86)).heap.size (wr.alloc (.cells #[Value.int .i64 a.k, .int .i64 a.lk, .int .i64 a.li, .int .i64 a.rk, .int .i64 a.ri] 86)) wR := (unhide HBL).trans (((bl_box wL (.cells #[Value.int .i64 0, .int .i64 0, .int .i64 0] 89)).trans (hbR.mono (bl_box wL (.cells #[Value.int .i64 0, .int .i64 0, .int .i64 0] 89)).size)).mono (unhide HBL).size); obtain ⟨s0, s1, s2, s3, s4, s5, s6⟩ := unhide HFa wR BR; have HPC := hide (bx_after hbR); obtain ⟨x0, x1, x2, xf⟩ := cells3 (unhide HPC); have HBR := hide BR; clear hbR BR)
                | (go_at_call 31; refine (unhide HNl (wr.alloc (.cells #[Value.int .i64 a.k, .int .i64 a.lk, .int .i64 a.li, .int .i64 a.rk, .int .i64 a.ri] 86)).drew).mono ?_; rintro e wL ⟨rfl, hbL⟩; have BL := (⟨hbL.os, hbL.tape, hbL.output, hbL.size, hbL.block⟩ : Below (wr.alloc (.cells #[Value.int .i64 a.k, .int .i64 a.lk, .int .i64 a.li, .int .i64 a.rk, .int .i64 a.ri] 86)).heap.size (wr.alloc (.cells #[Value.int .i64 a.k, .int .i64 a.lk, .int .i64 a.li, .int .i64 a.rk, .int .i64 a.ri] 86)) wL); obtain ⟨q0, q1, q2, q3, q4, q5, q6⟩ := unhide HFa wL BL; obtain ⟨r0, r1, r2, r3, r4, r5, r6⟩ := unhide HFa (wL.alloc (.cells #[Value.int .i64 0, .int .i64 0, .int .i64 0] 89)) (BL.trans ((bl_box wL (.cells #[Value.int .i64 0, .int .i64 0, .int .i64 0] 89)).mono BL.size)); have f1 : ¬ (C = wL.heap.size) := (by have := BL.size; simp at this; omega); have f2 : ¬ (wr.heap.size = wL.heap.size) := (by have := BL.size; simp at this; omega); have f3 : ¬ (wL.heap.size = C) := (fun e => f1 e.symm); have f4 : ¬ (wL.heap.size = wr.heap.size) := (fun e => f2 e.symm); have HBL := hide BL; clear hbL BL)
                | (go_at_call 31; refine (unhide HNl ((wr.alloc (.cells #[Value.int .i64 a.k, .int .i64 a.lk, .int .i64 a.li, .int .i64 a.rk, .int .i64 a.ri] 86)).alloc (.cells #[Value.int .i64 0, .int .i64 0, .int .i64 0] 89)).drew).mono ?_; rintro e wL ⟨rfl, hbL⟩; have BA := (⟨hbL.os, hbL.tape, hbL.output, hbL.size, hbL.block⟩ : Below ((wr.alloc (.cells #[Value.int .i64 a.k, .int .i64 a.lk, .int .i64 a.li, .int .i64 a.rk, .int .i64 a.ri] 86)).alloc (.cells #[Value.int .i64 0, .int .i64 0, .int .i64 0] 89)).heap.size ((wr.alloc (.cells #[Value.int .i64 a.k, .int .i64 a.lk, .int .i64 a.li, .int .i64 a.rk, .int .i64 a.ri] 86)).alloc (.cells #[Value.int .i64 0, .int .i64 0, .int .i64 0] 89)) wL); have BL : Below (wr.alloc (.cells #[Value.int .i64 a.k, .int .i64 a.lk, .int .i64 a.li, .int .i64 a.rk, .int .i64 a.ri] 86)).heap.size (wr.alloc (.cells #[Value.int .i64 a.k, .int .i64 a.lk, .int .i64 a.li, .int .i64 a.rk, .int .i64 a.ri] 86)) wL := (bl_box (wr.alloc (.cells #[Value.int .i64 a.k, .int .i64 a.lk, .int .i64 a.li, .int .i64 a.rk, .int .i64 a.ri] 86)) (.cells #[Value.int .i64 0, .int .i64 0, .int .i64 0] 89)).trans (BA.mono (bl_box (wr.alloc (.cells #[Value.int .i64 a.k, .int .i64 a.lk, .int .i64 a.li, .int .i64 a.rk, .int .i64 a.ri] 86)) (.cells #[Value.int .i64 0, .int .i64 0, .int .i64 0] 89)).size); obtain ⟨q0, q1, q2, q3, q4, q5, q6⟩ := unhide HFa wL BL; have f1 : ¬ (C = wL.heap.size) := (by have := BL.size; simp at this; omega); have f2 : ¬ (wr.heap.size = wL.heap.size) := (by have := BL.size; simp at this; omega); have f3 : ¬ (wL.heap.size = C) := (fun e => f1 e.symm); have f4 : ¬ (wL.heap.size = wr.heap.size) := (fun e => f2 e.symm); have HPB := hide (bx_after BA); rw [hsz0] at HPB; obtain ⟨y0, y1, y2, yf⟩ := cells3 (unhide HPB); have HBL := hide BL; clear hbL BL BA))
            all_goals (try go_wp2_with fail)
            all_goals go_meet
            all_goals first
              | exact ⟨_, rfl, hide (heap_alloc_new wR _), hide ((unhide HBR).alloc (unhide HBR).size _)⟩
              | exact ⟨_, rfl, hide (set3 (unhide HPC)), hide ((((unhide HBR).setCell (p := ⟨_, 0, none⟩) (unhide HBL).size _).setCell (p := ⟨_, 1, none⟩) (unhide HBL).size _).setCell (p := ⟨_, 2, none⟩) (unhide HBL).size _)⟩
              | exact ⟨_, rfl, hide (set3 (unhide HPC)), hide ((((unhide HBR).setCell (p := ⟨_, 0, none⟩) (by show _ ≤ _; simp) _).setCell (p := ⟨_, 1, none⟩) (by show _ ≤ _; simp) _).setCell (p := ⟨_, 2, none⟩) (by show _ ≤ _; simp) _)⟩
          case rest =>
            obtain ⟨b, rfl, hb3, hbW⟩ := hcut
            clear p0 p1 p2 p3 p4 p5 p6 n0 n1 n2 n3 n4 n5 n6
            obtain ⟨p0, p1, p2, p3, p4, -, -⟩ := unhide HFa _ (unhide hbW)
            obtain ⟨y0, y1, y2, yf⟩ := cells3 (unhide hb3)
            have hOmc := (unhide HOm0').below (unhide hbW)
            obtain ⟨ap, hap⟩ : ∃ ap, ap = ((al.take k).filter (fun a => a.k == 2)).map (prOf M) := ⟨_, rfl⟩
            obtain ⟨ow, how⟩ : ∃ ow, ow = ((al.take k).filter (fun a => a.k == 3 || a.k == 4)).map (prOf M) := ⟨_, rfl⟩
            rw [← hap, ← how] at hOmc
            have hapl : ap.length ≤ 1000 := by
              rw [hap, List.length_map]
              have h1 := List.length_filter_le (fun a : Atm => a.k == 2) (al.take k)
              have h2 := List.length_take_le k al
              rw [List.length_take] at h1
              omega
            have howl : ow.length ≤ 1000 := by
              rw [how, List.length_map]
              have h1 := List.length_filter_le (fun a : Atm => a.k == 3 || a.k == 4) (al.take k)
              rw [List.length_take] at h1
              omega
            have HS2' : Hid (((al.take (k + 1)).filter (fun a => a.k == 2)).map (prOf M) = ap ++ (if a.k = 2 then [⟨a.k, cl, cr⟩] else [])) := hide (by rw [unhide HS2, List.map_append, ← hap]; congr 1; split <;> simp [unhide HPr])
            have HS3' : Hid (((al.take (k + 1)).filter (fun a => a.k == 3 || a.k == 4)).map (prOf M) = ow ++ (if a.k = 3 ∨ a.k = 4 then [⟨a.k, cl, cr⟩] else [])) := hide (by rw [unhide HS3, List.map_append, ← how]; congr 1; split <;> simp [unhide HPr])
            clear hap how HS2 HS3 HPr HOm0' HFa hOm
            obtain ⟨ak, hak⟩ : ∃ ak, ak = a.k := ⟨_, rfl⟩
            rw [← hak] at p0 y0 HS2' HS3' hb3
            have HAK := hide hak
            clear hak
            have hAl : A < wc.heap.size := (World.ownsRow.lt hOmc.fo _ rfl).2
            have hbl : b < wc.heap.size := (Array.getElem?_eq_some_iff.1 (unhide hb3)).1
            have hBs : w.heap.size ≤ wc.heap.size := hOmc.bl.size
            obtain ⟨i0, hi0, hz0, hz1, hz2⟩ := info_parts Try.infoPair
            have hal' : ∀ (b j k : Nat) (o : Obj) (v : Value), b < wc.heap.size → wc.cell? ⟨b, j, none⟩ = some v → ((wc.drewN k).alloc o).cell? ⟨b, j, none⟩ = some v := fun b j k o v hb hv => (World.cell?_of_block (a := ⟨b, j, none⟩) (Below.heap_alloc (wc.drewN k) o b hb)).trans hv
            have y0a := fun k o => hal' b 0 k o _ hbl y0
            have y1a := fun k o => hal' b 1 k o _ hbl y1
            have y2a := fun k o => hal' b 2 k o _ hbl y2
            have f5 := (hOmc.fo.some (j := 5) (by omega)).2
            have f6 := (hOmc.fo.some (j := 6) (by omega)).2
            have c5 : wc.cell? ⟨A, 5, none⟩ = some av := (World.ownsRow.cellAt hOmc.fo 5 (by omega)).trans (by rw [List.getElem?_append_right (by rw [naC_len, hOmc.f5]; exact Nat.le_refl _), naC_len, hOmc.f5]; rfl)
            have c6 : wc.cell? ⟨A, 6, none⟩ = some ov := (World.ownsRow.cellAt hOmc.fo 6 (by omega)).trans (by rw [List.getElem?_append_right (by rw [naC_len, hOmc.f5]; omega), naC_len, hOmc.f5]; rfl)
            have c5a := fun k o => hal' A 5 k o _ hAl c5
            have c6a := fun k o => hal' A 6 k o _ hAl c6
            have hn4 := hOmc.nds.2.2.2.1
            have hn5 := hOmc.nds.2.2.2.2.1
            have HOmc := hide hOmc
            have c7 : Hid (w = w) := hide rfl
            clear hal' hOmc p1 p2 p3 p4 c0 c1 c2 c3 c4
            by_cases hk2 : ak = 2
            · subst hk2
              have HROW := hide (unhide HOmc).ap
              have HNP : Hid (av.ownBlock ≠ some A) := hide hn4
              clear hn4 hn5
              have T2 : Hid (((al.take (k + 1)).filter (fun a => a.k == 2)).map (prOf M) = ap ++ [⟨2, cl, cr⟩]) := hide ((unhide HS2').trans (by simp))
              have T3 : Hid (((al.take (k + 1)).filter (fun a => a.k == 3 || a.k == 4)).map (prOf M) = ow) := hide ((unhide HS3').trans (by simp))
              clear HS2' HS3'
              go_wp2_with fail
              go_region_law (refine step_app1 _ rfl (.tmp 52) (.tmp 54) 65 rfl w.heap.size 89 i0 _ 3 24 Try.underlying65 hi0 hz0 hz1 hz2 rfl (by decide) av ap.length (prCells ap) (by simp [Act.eval]) (own_da (unhide HROW) _ _) ⟨wc.heap.size, 0, none⟩ 1 [.int .i64 2, .int .i64 cl, .int .i64 cr] (by simp [Act.eval]) rfl (new_cells (wc.drewN _) _ rfl _ _) (prC_one ⟨2, cl, cr⟩) (by omega) (by omega) (le_da hBs _ _) ?_; intro g2 cap2 w2 hown2 hgrow2 hblk2; have c5' := grown_cell hgrow2 hAl (unhide HNP) 5 c5; have f5' := grown_frozen hgrow2 hAl (unhide HNP) 5 f5; have HI' := hide (Om.pushA ⟨2, cl, cr⟩ (unhide HOmc) hgrow2 hown2 hblk2); clear hown2 hgrow2 hblk2)
              all_goals
                go_wp2_with fail
                go_roundg (gk - 1)
                case rel => exact ⟨k + 1, (.slice (some ⟨g2, 0, none⟩) (ap.length + 1) cap2), ov, by omega, by go_num, hide (by rw [unhide T2, unhide T3]; exact unhide HI')⟩
                case measure => omega

            · by_cases hk34 : ak = 3 ∨ ak = 4
              · have HROW := hide (unhide HOmc).ow
                have HNP : Hid (ov.ownBlock ≠ some A) := hide hn5
                clear hn4 hn5
                rcases hk34 with rfl | rfl
                · have T2 : Hid (((al.take (k + 1)).filter (fun a => a.k == 2)).map (prOf M) = ap) := hide ((unhide HS2').trans (by simp))
                  have T3 : Hid (((al.take (k + 1)).filter (fun a => a.k == 3 || a.k == 4)).map (prOf M) = ow ++ [⟨3, cl, cr⟩]) := hide ((unhide HS3').trans (by simp))
                  clear HS2' HS3'
                  go_wp2_with fail
                  go_region_law (refine step_app1 _ rfl (.tmp 65) (.tmp 67) 65 rfl w.heap.size 89 i0 _ 3 24 Try.underlying65 hi0 hz0 hz1 hz2 rfl (by decide) ov ow.length (prCells ow) (by simp [Act.eval]) (own_da (unhide HROW) _ _) ⟨wc.heap.size, 0, none⟩ 1 [.int .i64 3, .int .i64 cl, .int .i64 cr] (by simp [Act.eval]) rfl (new_cells (wc.drewN _) _ rfl _ _) (prC_one ⟨3, cl, cr⟩) (by omega) (by omega) (le_da hBs _ _) ?_; intro g2 cap2 w2 hown2 hgrow2 hblk2; have c5' := grown_cell hgrow2 hAl (unhide HNP) 6 c6; have f5' := grown_frozen hgrow2 hAl (unhide HNP) 6 f6; have HI' := hide (Om.pushO ⟨3, cl, cr⟩ (unhide HOmc) hgrow2 hown2 hblk2); clear hown2 hgrow2 hblk2)
                  all_goals
                    go_wp2_with fail
                    go_roundg (gk - 1)
                    case rel => exact ⟨k + 1, av, (.slice (some ⟨g2, 0, none⟩) (ow.length + 1) cap2), by omega, by go_num, hide (by rw [unhide T2, unhide T3]; exact unhide HI')⟩
                    case measure => omega
                · have T2 : Hid (((al.take (k + 1)).filter (fun a => a.k == 2)).map (prOf M) = ap) := hide ((unhide HS2').trans (by simp))
                  have T3 : Hid (((al.take (k + 1)).filter (fun a => a.k == 3 || a.k == 4)).map (prOf M) = ow ++ [⟨4, cl, cr⟩]) := hide ((unhide HS3').trans (by simp))
                  clear HS2' HS3'
                  go_wp2_with fail
                  go_region_law (refine step_app1 _ rfl (.tmp 65) (.tmp 67) 65 rfl w.heap.size 89 i0 _ 3 24 Try.underlying65 hi0 hz0 hz1 hz2 rfl (by decide) ov ow.length (prCells ow) (by simp [Act.eval]) (own_da (unhide HROW) _ _) ⟨wc.heap.size, 0, none⟩ 1 [.int .i64 4, .int .i64 cl, .int .i64 cr] (by simp [Act.eval]) rfl (new_cells (wc.drewN _) _ rfl _ _) (prC_one ⟨4, cl, cr⟩) (by omega) (by omega) (le_da hBs _ _) ?_; intro g2 cap2 w2 hown2 hgrow2 hblk2; have c5' := grown_cell hgrow2 hAl (unhide HNP) 6 c6; have f5' := grown_frozen hgrow2 hAl (unhide HNP) 6 f6; have HI' := hide (Om.pushO ⟨4, cl, cr⟩ (unhide HOmc) hgrow2 hown2 hblk2); clear hown2 hgrow2 hblk2)
                  all_goals
                    go_wp2_with fail
                    go_roundg (gk - 1)
                    case rel => exact ⟨k + 1, av, (.slice (some ⟨g2, 0, none⟩) (ow.length + 1) cap2), by omega, by go_num, hide (by rw [unhide T2, unhide T3]; exact unhide HI')⟩
                    case measure => omega
              · have e2 : ¬ ((ak : Int) = 2) := by omega
                have e3 : ¬ ((ak : Int) = 3) := by omega
                have e4 : ¬ ((ak : Int) = 4) := by omega
                go_wp2_with fail
                go_roundg (gk - 1)
                case rel => exact ⟨k + 1, av, ov, by omega, by go_num, hide (by rw [unhide HS2', unhide HS3', if_neg hk2, if_neg hk34, List.append_nil, List.append_nil]; exact unhide HOmc)⟩
                case measure => omega
        · have hd2 : decide ((k : Int) < (al.length : Int)) = false := by simp; omega
          have hk' : k = al.length := by omega
          subst hk'
          go_wp2_with fail
          go_ret
          have hO := unhide hOm
          obtain ⟨n1, n2, n3, n4, n5, n6⟩ := hO.nds
          rw [List.take_length] at hO
          have e5 : fcK M 5 = M.take 5 := by unfold fcK; simp
          rw [e5] at hO
          refine ⟨A, av, ov, by simp, ⟨?_, by have h1 := rowBase hO.ap (Nat.zero_le _); rw [unhide HMM] at h1; exact h1, by have h1 := rowBase hO.ow (Nat.zero_le _); rw [unhide HMM] at h1; exact h1⟩, ?_, hO.bl⟩
          · have h1 := hO.fo
            have h5 : (M.take 5).length = 5 := by rw [List.length_take]; omega
            have h6 : naC (M.take 5) ++ [av, ov] = foCells (cfOf al) av ov := by
              have e : (cfOf al).cl = M.take 5 := by rw [unhide HMM]; rfl
              unfold foCells clV
              rw [e]
              match h : M.take 5, h5 with
              | [q0, q1, q2, q3, q4], _ => rfl
            rw [h6] at h1
            exact h1
          · intro j hj
            simp only [bsF, List.mem_cons, List.mem_append, Option.mem_toList] at hj
            rcases hj with rfl | hj | hj
            · exact hO.lo.2
            · exact (hO.ap.lt j hj).1
            · exact (hO.ow.lt j hj).1
end Go.Proofs.Ytciihepbeacppaa

namespace Go.Proofs.Ytciihepbeacppaa
open Go.RowKit

/-! ### Follows -/
theorem nWh_le (n : Nat) (l : List Pr) : nWh n l ≤ n := by
  have h := List.length_filter_le (fun i => (l.getD i pr0).k == 4) (List.range n)
  rw [List.length_range] at h
  exact h
theorem prOf_lt {al : List Atm} (ht : TmOK al) {a : Atm} (ha : a ∈ al) : (prOf (mrg al) a).l < 24 ∧ (prOf (mrg al) a).r < 24 := by
  have h1 := mrg_lt ht (ht a ha).1
  have h2 := mrg_lt ht (ht a ha).2
  have e1 : (prOf (mrg al) a).l = (mrg al).getD (tm a).l 0 := rfl
  have e2 : (prOf (mrg al) a).r = (mrg al).getD (tm a).r 0 := rfl
  omega
theorem cf_rm {al : List Atm} (ht : TmOK al) : Rm (cfOf al) := by
  intro p hp
  obtain ⟨a, ha, rfl⟩ := List.mem_map.1 hp
  exact prOf_lt ht (List.mem_filter.1 ha).1
theorem cf_rmA {al : List Atm} (ht : TmOK al) : RmA (cfOf al) := by
  intro p hp
  obtain ⟨a, ha, rfl⟩ := List.mem_map.1 hp
  exact prOf_lt ht (List.mem_filter.1 ha).1
theorem cf_cl {al : List Atm} (ht : TmOK al) (i : Nat) (hi : i < 5) : (cfOf al).cl.getD i 0 < 24 := by
  rw [cl_at hi]
  have := mrg_lt ht (i := i) (by omega)
  omega
theorem cf_ow (al : List Atm) : (cfOf al).ow.length ≤ al.length := by
  show (List.map _ _).length ≤ _
  rw [List.length_map]
  exact List.length_filter_le _ _
theorem fol_false {al bl : List Atm} (h : falB (cfOf al) = true) : fol al bl = (false, 7) := by unfold fol; rw [if_pos h]
theorem fol_none {al bl : List Atm} (h : falB (cfOf al) = false) (h2 : drp (cfOf al) (cfOf bl) [0, 1, 2, 3, 4] (List.replicate 24 none) = none) : fol al bl = (false, 0) := by unfold fol; rw [if_neg (by rw [h]; decide), h2]
theorem fol_some {al bl : List Atm} {an : List (Option Nat)} (h : falB (cfOf al) = false) (h2 : drp (cfOf al) (cfOf bl) [0, 1, 2, 3, 4] (List.replicate 24 none) = some an) : fol al bl = ((alw (cfOf al) (cfOf bl) an ((cfOf al).ow.length + 1) 262144 (cfOf al).ow).1, 0) := by unfold fol; rw [if_neg (by rw [h]; decide), h2]

def srch (A A' : Nat) : Array Value := #[Value.pointer (some ⟨A, 0, none⟩), Value.pointer (some ⟨A', 0, none⟩), Value.int IntKind.i64 0, Value.int IntKind.i64 0, Value.int IntKind.i64 0, Value.int IntKind.i64 0, Value.int IntKind.i64 0, Value.int IntKind.i64 0, Value.int IntKind.i64 0, Value.int IntKind.i64 0, Value.int IntKind.i64 0, Value.int IntKind.i64 0, Value.int IntKind.i64 0, Value.int IntKind.i64 0, Value.int IntKind.i64 0, Value.int IntKind.i64 0, Value.int IntKind.i64 0, Value.int IntKind.i64 0, Value.int IntKind.i64 0, Value.int IntKind.i64 0, Value.int IntKind.i64 0, Value.int IntKind.i64 0, Value.int IntKind.i64 0, Value.int IntKind.i64 0, Value.int IntKind.i64 0, Value.int IntKind.i64 0, Value.int IntKind.i64 0, Value.int IntKind.i64 0, Value.int IntKind.i64 0, Value.int IntKind.i64 0, Value.int IntKind.i64 0, Value.int IntKind.i64 0, Value.int IntKind.i64 0, Value.int IntKind.i64 0, Value.int IntKind.i64 0, Value.int IntKind.i64 0, Value.int IntKind.i64 0, Value.int IntKind.i64 0, Value.int IntKind.i64 0, Value.int IntKind.i64 0, Value.int IntKind.i64 0, Value.int IntKind.i64 0, Value.int IntKind.i64 0, Value.int IntKind.i64 0, Value.int IntKind.i64 0, Value.int IntKind.i64 0, Value.int IntKind.i64 0, Value.int IntKind.i64 0, Value.int IntKind.i64 0, Value.int IntKind.i64 0, Value.pointer none, Value.slice none 0 0, Value.int IntKind.i64 0, Value.slice none 0 0, Value.int IntKind.i64 262144]
theorem new_search (w : World) (A A' : Nat) : Sn (w.alloc (.cells (srch A A') 62)) w.heap.size A A' 262144 (List.replicate 24 (.int .i64 0)) (List.replicate 24 (.int .i64 0) ++ [.pointer none, .slice none 0 0, .int .i64 0, .slice none 0 0, .int .i64 262144]) :=
  ⟨World.ownsRow_lit (base := 0) (e := 62) (size := 55) w (srch A A') 1 (Nat.zero_le _) (by simp [maxLen]) rfl, by simp, _, _, _, _, _, rfl, by simp⟩

set_option maxRecDepth 100000 in
set_option maxHeartbeats 8000000 in
theorem follows_any {w : World} {B B' : Nat} {sv tv : Value} {al bl : List Atm} (h : w.ownsRow B 86 5 sv al.length (atCells al)) (h' : w.ownsRow B' 86 5 tv bl.length (atCells bl)) (ht : TmOK al) (ht' : TmOK bl) (hal : al.length ≤ 300) (hbl : bl.length ≤ 300)
    (hb : ∀ a ∈ al, a.lk ≤ 2 ∧ a.rk ≤ 2 ∧ a.li ≤ 100 ∧ a.ri ≤ 100) (hb' : ∀ a ∈ bl, a.lk ≤ 2 ∧ a.rk ≤ 2 ∧ a.li ≤ 100 ∧ a.ri ≤ 100) :
    Calls Try.prog 9 #[sv, tv] w fun e w' => e = .returned (.tuple #[.bool (fol al bl).1, .int .i64 (fol al bl).2]) ∧ Below w.heap.size w w' := by
  have HO1 := hide (of_any h ht (by omega) hb)
  have HR2 := hide h'
  obtain ⟨F, hF⟩ : ∃ F, F = cfOf al := ⟨_, rfl⟩
  obtain ⟨T, hT⟩ : ∃ T, T = cfOf bl := ⟨_, rfl⟩
  have HF0 := hide hF
  have HT0 := hide hT
  have HRm := hide (cf_rm ht)
  have HRm' := hide (cf_rm ht')
  have HRa' := hide (cf_rmA ht')
  have HCl := hide (cf_cl ht)
  have HCl' := hide (cf_cl ht')
  have HLo := hide (cf_ow al)
  have HLo' := hide (cf_ow bl)
  have HT' := hide ht'
  have HB' := hide hb'
  rw [← hF] at HO1 HRm HCl HLo
  rw [← hT] at HRm' HRa' HCl' HLo'
  clear h h' hF hT ht ht' hb hb'
  go_enter Try.func9, Try.ntmps9
  go_wp2_with fail
  refine (unhide HO1).mono ?_
  rintro e w1 ⟨A, fav, fov, rfl, hIF, hfr, hb1⟩
  have HIF := hide hIF
  have HFr := hide hfr
  have HB1 := hide hb1
  clear hIF hfr hb1 HO1
  go_wp2_with fail
  refine (false_any (unhide HIF) (unhide HRm) (unhide HCl 0 (by omega))).mono ?_
  rintro e w2 ⟨rfl, hb2⟩
  have HIF2 := hide ((unhide HIF).of_eq (fun k hk => hb2.block k ((unhide HIF).lt k hk)))
  have HB2 := hide ((unhide HB1).trans (hb2.mono (unhide HB1).size))
  clear hb2 HIF HB1
  by_cases hfl : falB F = true
  · have HE : Hid (fol al bl = (false, 7)) := hide (fol_false (by rw [← unhide HF0]; exact hfl))
    go_wp2_with fail
    go_ret2
    exact ⟨by rw [unhide HE]; rfl, unhide HB2⟩
  · have hfl' : falB F = false := by simpa using hfl
    have HO2 := hide (of_any (rowB (unhide HR2) ⟨(unhide HB2).os, (unhide HB2).tape, (unhide HB2).output, (unhide HB2).size, (unhide HB2).block⟩) (unhide HT') (by omega) (unhide HB'))
    go_wp2_with fail
    refine (unhide HO2).mono ?_
    rintro e w3 ⟨A', tav, tov, rfl, hIT, hfr', hb3⟩
    rw [← unhide HT0] at hIT
    have HIF3 := hide ((unhide HIF2).of_eq (fun k hk => hb3.block k ((unhide HIF2).lt k hk)))
    have HB3 := hide ((unhide HB2).trans (hb3.mono (unhide HB2).size))
    have HIT3 := hide hIT
    have HFr' := hide hfr'
    clear hb3 hIT hfr' HIF2 HB2 HO2
    go_wp2_with fail
    have hlt := (unhide HIF3).lt
    have hlt' := (unhide HIT3).lt
    have HNf : Hid (∀ k ∈ bsF A fav fov, k ≠ w3.heap.size) := hide (fun k hk => by have := hlt k hk; omega)
    have HNt : Hid (∀ k ∈ bsF A' tav tov, k ≠ w3.heap.size) := hide (fun k hk => by have := hlt' k hk; omega)
    clear hlt hlt'
    refine (drop_any (F := F) (T := T) (new_search w3 A A') ((unhide HIF3).alloc _) ((unhide HIT3).alloc _) (unhide HNf) (unhide HNt) (unhide HCl')).mono ?_
    rintro e w4 ⟨rfl, hsq, hst⟩
    have HB4 := hide (((Stp.refl [w3.heap.size] w3).alloc _).trans hst |>.below (Nat.le_refl _) (by simp))
    have HIF4 := hide (((unhide HIF3).alloc (.cells (srch A A') 62)).of_eq (fun k hk => hst.blk k (((unhide HIF3).alloc _).lt k hk) (unhide HNf k hk)))
    have HIT4 := hide (((unhide HIT3).alloc (.cells (srch A A') 62)).of_eq (fun k hk => hst.blk k (((unhide HIT3).alloc _).lt k hk) (unhide HNt k hk)))
    have HSQ := hide hsq
    clear hsq hst HIF3 HIT3
    cases hdr : drp F T [0, 1, 2, 3, 4] (List.replicate 24 none) with
    | none =>
      have HE : Hid (fol al bl = (false, 0)) := hide (fol_none (by rw [← unhide HF0]; exact hfl') (by rw [← unhide HF0, ← unhide HT0]; exact hdr))
      rw [hdr] at HSQ
      clear HSQ
      go_wp2_with fail
      go_ret2
      exact ⟨by rw [unhide HE]; rfl, (unhide HB3).trans ((unhide HB4).mono (unhide HB3).size)⟩
    | some an =>
      have HE := hide (fol_some (by rw [← unhide HF0]; exact hfl') (by rw [← unhide HF0, ← unhide HT0]; exact hdr) : fol al bl = _)
      rw [← unhide HF0, ← unhide HT0] at HE
      have c6 := (unhide HIF4).c6
      have hAl : Al w4 w3.heap.size A A' an F T fav fov tav tov 262144 F.ow fov := by
        refine ⟨⟨unhide HSQ an hdr, unhide HIF4, unhide HIT4, unhide HNf, unhide HNt⟩, (unhide HIF4).ow, fun k hk => unhide HNf k (by simp [bsF, hk]), Nat.le_refl _, ?_⟩
        have h1 := nWh_le F.ow.length F.ow
        have h2 := unhide HLo
        omega
      have HA := hide (always_all (F := F) (T := T) (an := an) (unhide HRm') (unhide HRa') (by have := unhide HLo'; omega) (F.ow.length + 1) w4 w3.heap.size A A' fav fov tav tov 262144 F.ow fov hAl (by have := nWh_le F.ow.length F.ow; omega))
      clear hAl HSQ hdr
      go_wp2_with fail
      refine (unhide HA).mono ?_
      rintro e w5 ⟨rfl, -, hst5⟩
      have HB5 : Hid (Below w3.heap.size w3 w5) := hide ⟨hst5.os.trans (unhide HB4).os, hst5.tape.trans (unhide HB4).tape, hst5.output.trans (unhide HB4).output, Nat.le_trans (unhide HB4).size hst5.size, fun k hk => (hst5.blk k (Nat.lt_of_lt_of_le hk (unhide HB4).size) (by omega)).trans ((unhide HB4).block k hk)⟩
      clear hst5
      go_wp2_with fail
      go_ret2
      exact ⟨by rw [unhide HE]; rfl, (unhide HB3).trans ((unhide HB5).mono (unhide HB3).size)⟩
end Go.Proofs.Ytciihepbeacppaa
