import Derived.Test.YtciihepbeacppaaMG
import Derived.Test.YtciihepbeacppaaMD
import Derived.Deep.LoopGhost
namespace Go.Proofs.Ytciihepbeacppaa
open Go.RowKit

/-! ### number, merge -/
set_option maxRecDepth 100000 in
set_option maxHeartbeats 2000000 in
theorem number_any (k i : Nat) (hk : k ≤ 2) (hi : i ≤ 1000) (w : World) : Calls Try.prog 31 #[.agg #[.int .i64 k, .int .i64 i]] w fun e w' => e = .returned (.int .i64 (tNo k i : Nat)) ∧ Below w.heap.size w w' := by
  have hk3 : k = 0 ∨ k = 1 ∨ k = 2 := by omega
  have hb := (Below.refl w.heap.size w).alloc (Nat.le_refl _) (.cells #[Value.int .i64 k, .int .i64 i] 84)
  have HB := hide hb
  clear hb
  rcases hk3 with rfl | rfl | rfl
  · go_enter Try.func31, Try.ntmps31
    go_wp2_with fail
    go_ret
    exact ⟨rfl, unhide HB⟩
  · go_enter Try.func31, Try.ntmps31
    go_wp2_with fail
    go_ret
    exact ⟨ret_int (by unfold tNo; rw [if_pos rfl]; omega), unhide HB⟩
  · go_enter Try.func31, Try.ntmps31
    go_wp2_with fail
    go_ret
    exact ⟨ret_int (by unfold tNo; rw [if_neg (by decide), if_pos rfl]; omega), unhide HB⟩

theorem at_get {l : List Atm} {k : Nat} (h : k < l.length) : (atCells l)[k * 5]? = some (.int .i64 l[k].k) ∧ (atCells l)[k * 5 + 1]? = some (.int .i64 l[k].lk) ∧ (atCells l)[k * 5 + 2]? = some (.int .i64 l[k].li) ∧ (atCells l)[k * 5 + 3]? = some (.int .i64 l[k].rk) ∧ (atCells l)[k * 5 + 4]? = some (.int .i64 l[k].ri) := by
  induction l generalizing k with
  | nil => simp at h
  | cons x l ih =>
    have hx : atCells (x :: l) = [Value.int .i64 x.k, .int .i64 x.lk, .int .i64 x.li, .int .i64 x.rk, .int .i64 x.ri] ++ atCells l := rfl
    cases k with
    | zero => rw [hx]; simp
    | succ k =>
      have := ih (k := k) (by simpa using h)
      rw [hx, show (k + 1) * 5 = k * 5 + 5 by omega]
      simp only [List.getElem_cons_succ]
      refine ⟨?_, ?_, ?_, ?_, ?_⟩
      · rw [List.getElem?_append_right (by simp)]; simpa using this.1
      · rw [List.getElem?_append_right (by simp)]; simpa [show k * 5 + 5 + 1 - 5 = k * 5 + 1 by omega] using this.2.1
      · rw [List.getElem?_append_right (by simp)]; simpa [show k * 5 + 5 + 2 - 5 = k * 5 + 2 by omega] using this.2.2.1
      · rw [List.getElem?_append_right (by simp)]; simpa [show k * 5 + 5 + 3 - 5 = k * 5 + 3 by omega] using this.2.2.2.1
      · rw [List.getElem?_append_right (by simp)]; simpa [show k * 5 + 5 + 4 - 5 = k * 5 + 4 by omega] using this.2.2.2.2
theorem at_of_own {w : World} {B : Nat} {v : Value} {l : List Atm} (h : w.ownsRow B 86 5 v l.length (atCells l)) :
    ∃ ao cap, v = .slice ao l.length cap ∧ cap ≤ 9223372036854775807 ∧ l.length ≤ cap ∧ (l ≠ [] → ∃ g, ao = some ⟨g, 0, none⟩ ∧ g < w.heap.size ∧ ∀ j, (h : j < l.length) → w.cell? ⟨g, j * 5, none⟩ = some (.int .i64 l[j].k) ∧ w.cell? ⟨g, j * 5 + 1, none⟩ = some (.int .i64 l[j].lk) ∧ w.cell? ⟨g, j * 5 + 2, none⟩ = some (.int .i64 l[j].li) ∧ w.cell? ⟨g, j * 5 + 3, none⟩ = some (.int .i64 l[j].rk) ∧ w.cell? ⟨g, j * 5 + 4, none⟩ = some (.int .i64 l[j].ri)) := by
  have hw := h
  rcases h.2 with ⟨rfl, h0⟩ | ⟨g, cap, cur, rfl, _, _, hn, hm, _, _⟩
  · have : l = [] := List.eq_nil_of_length_eq_zero h0
    subst this
    exact ⟨_, _, rfl, by omega, by simp, fun h => absurd rfl h⟩
  · refine ⟨_, _, rfl, by unfold maxLen at hm; omega, hn, fun _ => ⟨g, rfl, (hw.lt g rfl).2, fun j hj => ?_⟩⟩
    have hg := at_get hj
    exact ⟨(hw.cellAt _ (by omega)).trans hg.1, (hw.cellAt _ (by omega)).trans hg.2.1, (hw.cellAt _ (by omega)).trans hg.2.2.1, (hw.cellAt _ (by omega)).trans hg.2.2.2.1, (hw.cellAt _ (by omega)).trans hg.2.2.2.2⟩
def naC (l : List Nat) : List Value := l.map (fun n : Nat => Value.int .i64 (n : Int))
theorem naC_len (l : List Nat) : (naC l).length = l.length := by simp [naC]
theorem naC_get {l : List Nat} {j : Nat} (h : j < l.length) : (naC l)[j]? = some (.int .i64 ((l.getD j 0 : Nat) : Int)) := by simp [naC, h]
theorem naC_set (l : List Nat) (j n : Nat) : (naC l).set j (.int .i64 (n : Int)) = naC (l.set j n) := by simp [naC, List.map_set]
def rgK (k : Nat) : List Nat := List.range k ++ List.replicate (13 - k) 0
theorem rgK_set {k : Nat} (h : k < 13) : (rgK k).set k k = rgK (k + 1) := by
  unfold rgK
  rw [List.set_append_right _ _ (by simp), List.length_range, Nat.sub_self, show 13 - k = (13 - (k + 1)) + 1 by omega, List.replicate_succ, List.set_cons_zero, List.range_succ, List.append_assoc]
  rfl
def mpK (f : Nat → Nat) (c : List Nat) (j : Nat) : List Nat := (c.map f).take j ++ c.drop j
theorem mpK_len (f : Nat → Nat) (c : List Nat) (j : Nat) : (mpK f c j).length = c.length := by
  unfold mpK; rw [List.length_append, List.length_take, List.length_map, List.length_drop]; omega
theorem mpK_at (f : Nat → Nat) {c : List Nat} {j : Nat} (h : j < c.length) : (mpK f c j).getD j 0 = c.getD j 0 := by
  unfold mpK
  have e : ((c.map f).take j).length = j := by rw [List.length_take, List.length_map]; omega
  simp only [List.getD_eq_getElem?_getD]
  rw [List.getElem?_append_right (by omega), e, Nat.sub_self, List.getElem?_drop, Nat.add_zero]
theorem mpK_set (f : Nat → Nat) {c : List Nat} {j : Nat} (h : j < c.length) : (mpK f c j).set j (f (c.getD j 0)) = mpK f c (j + 1) := by
  unfold mpK
  have e : ((c.map f).take j).length = j := by rw [List.length_take, List.length_map]; omega
  have hm : j < (c.map f).length := by simpa using h
  rw [List.set_append_right _ _ (by omega), e, Nat.sub_self, List.drop_eq_getElem_cons h, List.set_cons_zero, List.take_succ_eq_append_getElem hm, List.append_assoc]
  simp [h]
theorem mpK_keep (f : Nat → Nat) {c : List Nat} {j : Nat} (h : j < c.length) (hf : f (c.getD j 0) = c.getD j 0) : mpK f c (j + 1) = mpK f c j := by
  rw [← mpK_set f h, hf, ← mpK_at f h, set_getD]
theorem Try.info13 : (Try.prog.info? 81).map (·.size) = some 13 := by kernel_rfl

set_option maxRecDepth 100000 in
set_option maxHeartbeats 8000000 in
theorem merge_any {w : World} {B : Nat} {av : Value} {al : List Atm} (h : w.ownsRow B 86 5 av al.length (atCells al)) (ht : TmOK al) (hal : al.length ≤ 1000) (hb : ∀ a ∈ al, a.lk ≤ 2 ∧ a.rk ≤ 2 ∧ a.li ≤ 100 ∧ a.ri ≤ 100) :
    Calls Try.prog 30 #[av] w fun e w' => e = .returned (.agg (naC (mrg al)).toArray) ∧ Below w.heap.size w w' := by
  obtain ⟨ao, cap, hav, hcm, hcn, hcell⟩ := at_of_own h
  have HC := hide hcell
  rw [hav]
  clear h hcell hav
  go_enter Try.func30, Try.ntmps30
  go_wp2_with fail
  obtain ⟨w0, hw0⟩ : ∃ w0, w0 = ((w.alloc (Obj.cells #[Value.int IntKind.i64 0, Value.int IntKind.i64 0, Value.int IntKind.i64 0, Value.int IntKind.i64 0, Value.int IntKind.i64 0, Value.int IntKind.i64 0, Value.int IntKind.i64 0, Value.int IntKind.i64 0, Value.int IntKind.i64 0, Value.int IntKind.i64 0, Value.int IntKind.i64 0, Value.int IntKind.i64 0, Value.int IntKind.i64 0] 81)).alloc (Obj.cells #[Value.int IntKind.i64 0, Value.int IntKind.i64 0, Value.int IntKind.i64 0, Value.int IntKind.i64 0, Value.int IntKind.i64 0, Value.int IntKind.i64 0, Value.int IntKind.i64 0, Value.int IntKind.i64 0, Value.int IntKind.i64 0, Value.int IntKind.i64 0, Value.int IntKind.i64 0, Value.int IntKind.i64 0, Value.int IntKind.i64 0] 81)) := ⟨_, rfl⟩
  rw [← hw0]
  have hR0 : Ob w0 81 13 w.heap.size (naC (List.replicate 13 0)) := by
    rw [hw0]
    exact Ob.alloc (World.ownsRow_lit (base := 0) (e := 81) (size := 13) w #[Value.int IntKind.i64 0, Value.int IntKind.i64 0, Value.int IntKind.i64 0, Value.int IntKind.i64 0, Value.int IntKind.i64 0, Value.int IntKind.i64 0, Value.int IntKind.i64 0, Value.int IntKind.i64 0, Value.int IntKind.i64 0, Value.int IntKind.i64 0, Value.int IntKind.i64 0, Value.int IntKind.i64 0, Value.int IntKind.i64 0] 1 (Nat.zero_le _) (by simp [maxLen]) rfl) _
  have hC0 : Ob w0 81 13 (w.heap.size + 1) (naC (rgK 0)) := by
    have h1 := World.ownsRow_lit (base := 0) (e := 81) (size := 13) (w.alloc (Obj.cells #[Value.int IntKind.i64 0, Value.int IntKind.i64 0, Value.int IntKind.i64 0, Value.int IntKind.i64 0, Value.int IntKind.i64 0, Value.int IntKind.i64 0, Value.int IntKind.i64 0, Value.int IntKind.i64 0, Value.int IntKind.i64 0, Value.int IntKind.i64 0, Value.int IntKind.i64 0, Value.int IntKind.i64 0, Value.int IntKind.i64 0] 81)) #[Value.int IntKind.i64 0, Value.int IntKind.i64 0, Value.int IntKind.i64 0, Value.int IntKind.i64 0, Value.int IntKind.i64 0, Value.int IntKind.i64 0, Value.int IntKind.i64 0, Value.int IntKind.i64 0, Value.int IntKind.i64 0, Value.int IntKind.i64 0, Value.int IntKind.i64 0, Value.int IntKind.i64 0, Value.int IntKind.i64 0] 1 (Nat.zero_le _) (by simp [maxLen]) rfl
    have e : (w.alloc (Obj.cells #[Value.int IntKind.i64 0, Value.int IntKind.i64 0, Value.int IntKind.i64 0, Value.int IntKind.i64 0, Value.int IntKind.i64 0, Value.int IntKind.i64 0, Value.int IntKind.i64 0, Value.int IntKind.i64 0, Value.int IntKind.i64 0, Value.int IntKind.i64 0, Value.int IntKind.i64 0, Value.int IntKind.i64 0, Value.int IntKind.i64 0] 81)).heap.size = w.heap.size + 1 := by simp
    rw [e] at h1
    rw [hw0]
    exact h1
  have hB0 : Below w.heap.size w w0 := by rw [hw0]; exact ((Below.refl _ _).alloc (Nat.le_refl _) _).alloc (by simp) _
  obtain ⟨R, hR⟩ : ∃ R, R = w.heap.size := ⟨_, rfl⟩
  obtain ⟨C, hC⟩ : ∃ C, C = w.heap.size + 1 := ⟨_, rfl⟩
  rw [← hR] at hR0
  rw [← hC] at hC0 ⊢
  rw [← hR]
  have hRC : R ≠ C := by omega
  have hRB : w.heap.size ≤ R := by omega
  have hCB : w.heap.size ≤ C := by omega
  clear hw0 hR hC
  go_loopw [4] (fun i wr => ∃ k : Nat, k ≤ 13 ∧ i = .int .i64 k ∧ Hid (Ob wr 81 13 C (naC (rgK k))) ∧ Hid (Ob wr 81 13 R (naC (List.replicate 13 0))) ∧ Hid (Below w.heap.size w wr)) (fun i _ => 13 - (intOf i).toNat)
  case atStart => exact ⟨0, Nat.zero_le _, rfl, hide hC0, hide hR0, hide hB0⟩
  case round =>
    obtain ⟨k, hk, rfl, hC1, hR1, hB1⟩ := hrel
    by_cases hlt : k < 13
    · have hd : decide ((k : Int) < 13) = true := by simp; omega
      obtain ⟨⟨u, hu⟩, hz⟩ := (unhide hC1).some (j := k) hlt
      have hC2 := (unhide hC1).set k (.int .i64 (k : Int))
      rw [naC_set, rgK_set hlt] at hC2
      have HC2 := hide hC2
      have HR2 := hide ((unhide hR1).of_eq (w' := wr.setCell ⟨C, k, none⟩ (.int .i64 (k : Int))) (Below.heap_setCell _ _ _ _ hRC))
      have HB2 := hide ((unhide hB1).setCell (p := ⟨C, k, none⟩) hCB (.int .i64 (k : Int)))
      clear hC2
      go_wp2_with fail
      go_roundw
      case rel => exact ⟨k + 1, by omega, by go_num, HC2, HR2, HB2⟩
      case measure => simp [intOf]; omega
    · have hd : decide ((k : Int) < 13) = false := by simp; omega
      have hk13 : k = 13 := by omega
      subst hk13
      clear hC0 hR0 hB0
      go_wp2_with fail
      go_loopg [19] al.length (fun gn i wr => ∃ k : Nat, k + gn = al.length ∧ i = .int .i64 k ∧ Hid (Ob wr 81 13 C (naC ((al.take k).foldl mrg1 (List.range 13)))) ∧ Hid (Ob wr 81 13 R (naC (List.replicate 13 0))) ∧ Hid (Below w.heap.size w wr))
      case atStart => exact ⟨0, by omega, rfl, hC1, hR1, hB1⟩
      case round =>
        obtain ⟨k, hk, rfl, hC1, hR1, hB1⟩ := hrel
        by_cases hlt : k < al.length
        · have hd2 : decide ((k : Int) < (al.length : Int)) = true := by simp; omega
          obtain ⟨g, hao, hgl, hcell⟩ := unhide HC (by intro h; rw [h] at hlt; simp at hlt)
          subst hao
          obtain ⟨x0, x1, x2, x3, x4⟩ := hcell k hlt
          obtain ⟨a, ha⟩ : ∃ a, a = al[k] := ⟨_, rfl⟩
          have hta := ht _ (List.getElem_mem hlt)
          have hba := hb _ (List.getElem_mem hlt)
          rw [← ha] at x0 x1 x2 x3 x4 hta hba
          have c0 := ((unhide hB1).cell (World.block_lt_of_cell? w _ x0)).trans x0
          have c1 := ((unhide hB1).cell (World.block_lt_of_cell? w _ x1)).trans x1
          have c2 := ((unhide hB1).cell (World.block_lt_of_cell? w _ x2)).trans x2
          have c3 := ((unhide hB1).cell (World.block_lt_of_cell? w _ x3)).trans x3
          have c4 := ((unhide hB1).cell (World.block_lt_of_cell? w _ x4)).trans x4
          clear hcell x0 x1 x2 x3 x4
          obtain ⟨c, hc⟩ : ∃ c, c = (al.take k).foldl mrg1 (List.range 13) := ⟨_, rfl⟩
          rw [← hc] at hC1
          have hcl : c.length = 13 := by
            rw [hc]
            exact (mrg_inv (al.take k) _ (fun b hb => ht b (List.mem_of_mem_take hb)) (by simp) (fun i hi => by rw [range13 i hi]; exact hi)).1
          have hstep : (al.take (k + 1)).foldl mrg1 (List.range 13) = mrg1 c a := by
            rw [List.take_succ_eq_append_getElem hlt, List.foldl_append, ← hc, ha]; rfl
          have HST := hide hstep
          have HCc := hide hc
          have HA := hide ha
          -- behind the copy of the atom
          have hB2 := (unhide hB1).alloc (unhide hB1).size (.cells #[Value.int .i64 a.k, .int .i64 a.lk, .int .i64 a.li, .int .i64 a.rk, .int .i64 a.ri] 86)
          have hC2 := (unhide hC1).alloc (.cells #[Value.int .i64 a.k, .int .i64 a.lk, .int .i64 a.li, .int .i64 a.rk, .int .i64 a.ri] 86)
          have hR2 := (unhide hR1).alloc (.cells #[Value.int .i64 a.k, .int .i64 a.lk, .int .i64 a.li, .int .i64 a.rk, .int .i64 a.ri] 86)
          have hnew := fun j => cell_of_row (wr.alloc (.cells #[Value.int .i64 a.k, .int .i64 a.lk, .int .i64 a.li, .int .i64 a.rk, .int .i64 a.ri] 86)) wr.heap.size j #[Value.int .i64 a.k, .int .i64 a.lk, .int .i64 a.li, .int .i64 a.rk, .int .i64 a.ri] 86 (0, 0) (heap_alloc_new wr _)
          have n0 := hnew 0
          have n1 := hnew 1
          have n2 := hnew 2
          have n3 := hnew 3
          have n4 := hnew 4
          simp only [List.getElem?_toArray, List.getElem?_cons_zero, List.getElem?_cons_succ] at n0 n1 n2 n3 n4
          have HB2 := hide hB2
          have HC2 := hide hC2
          have HR2 := hide hR2
          clear hB2 hC2 hR2 hnew hstep hc ha hC1 hR1 hB1
          by_cases hk1 : a.k = 1
          · have hne : ((a.k : Int) != 1) = false := by simp; omega
            have HN1 := hide (number_any a.lk a.li hba.1 (by omega) (wr.alloc (.cells #[Value.int .i64 a.k, .int .i64 a.lk, .int .i64 a.li, .int .i64 a.rk, .int .i64 a.ri] 86)))
            have HK1 := hide hk1
            clear hk1
            go_wp2_with fail
            refine (unhide HN1).mono ?_
            rintro e w1 ⟨rfl, hb1⟩
            have hlt1 : tNo a.lk a.li < 13 := hta.1
            have hlt2 : tNo a.rk a.ri < 13 := hta.2
            obtain ⟨t1, ht1⟩ : ∃ t1, t1 = tNo a.lk a.li := ⟨_, rfl⟩
            obtain ⟨t2, ht2⟩ : ∃ t2, t2 = tNo a.rk a.ri := ⟨_, rfl⟩
            rw [← ht1] at hlt1 ⊢
            rw [← ht2] at hlt2
            have hC3 := (unhide HC2).of_eq (hb1.block C (World.ownsRow.lt (unhide HC2) _ rfl).2)
            have hR3 := (unhide HR2).of_eq (hb1.block R (World.ownsRow.lt (unhide HR2) _ rfl).2)
            have hB3 : Below w.heap.size w w1 := (unhide HB2).trans (hb1.mono (unhide HB2).size)
            have d1 := (World.ownsRow.cellAt hC3 t1 (by omega)).trans (naC_get (l := c) (by omega))
            have m3 := (hb1.cell (World.block_lt_of_cell? _ _ n3)).trans n3
            have m4 := (hb1.cell (World.block_lt_of_cell? _ _ n4)).trans n4
            obtain ⟨kept, hkept⟩ : ∃ kept, kept = c.getD t1 0 := ⟨_, rfl⟩
            rw [← hkept] at d1
            have HN2 := hide (number_any a.rk a.ri hba.2.1 (by omega) w1)
            have HC3 := hide hC3
            have HR3 := hide hR3
            have HB3 := hide hB3
            have HT1 := hide ht1
            have HT2 := hide ht2
            have HKe := hide hkept
            clear hC3 hR3 hB3 hb1 ht1 hkept n0 n1 n2 n3 n4
            go_wp2_with fail
            refine (unhide HN2).mono ?_
            rintro e w2 ⟨rfl, hb2⟩
            rw [← ht2]
            have hC4 := (unhide HC3).of_eq (hb2.block C (World.ownsRow.lt (unhide HC3) _ rfl).2)
            have hR4 := (unhide HR3).of_eq (hb2.block R (World.ownsRow.lt (unhide HR3) _ rfl).2)
            have hB4 : Below w.heap.size w w2 := (unhide HB3).trans (hb2.mono (unhide HB3).size)
            have d2 := (World.ownsRow.cellAt hC4 t2 (by omega)).trans (naC_get (l := c) (by omega))
            obtain ⟨gone, hgone⟩ : ∃ gone, gone = c.getD t2 0 := ⟨_, rfl⟩
            rw [← hgone] at d2
            have HC4 := hide hC4
            have HR4 := hide hR4
            have HB4 := hide hB4
            have HGo := hide hgone
            have HMr : Hid (mrg1 c a = c.map (fun x => if x = gone then kept else x)) := hide (by
              unfold mrg1
              rw [if_pos (unhide HK1), ← unhide HT1, ← ht2, ← hgone, ← unhide HKe])
            clear hC4 hR4 hB4 hb2 hgone ht2 d1
            go_wp2_with fail
            go_loopw [9] (fun i wr => ∃ j : Nat, j ≤ 13 ∧ i = .int .i64 j ∧ Hid (Ob wr 81 13 C (naC (mpK (fun x => if x = gone then kept else x) c j))) ∧ Hid (Ob wr 81 13 R (naC (List.replicate 13 0))) ∧ Hid (Below w.heap.size w wr)) (fun i _ => 13 - (intOf i).toNat)
            case atStart => exact ⟨0, Nat.zero_le _, rfl, HC4, HR4, HB4⟩
            case round =>
              obtain ⟨j, hj, rfl, hC5, hR5, hB5⟩ := hrel
              by_cases hjl : j < 13
              · have hd3 : decide ((j : Int) < 13) = true := by simp; omega
                have hjc : j < c.length := by omega
                have hcj := (World.ownsRow.cellAt (unhide hC5) j (by omega)).trans (naC_get (by rw [mpK_len]; omega))
                rw [mpK_at _ hjc] at hcj
                have hzj := World.ownsRow.frozenAt (unhide hC5) j
                obtain ⟨x, hx⟩ : ∃ x, x = c.getD j 0 := ⟨_, rfl⟩
                rw [← hx] at hcj
                have HNx := hide (mpK_set (fun x => if x = gone then kept else x) hjc)
                have HKp := hide (mpK_keep (fun x => if x = gone then kept else x) hjc)
                rw [← hx] at HNx HKp
                by_cases hxg : x = gone
                · have he : ((x : Int) == (gone : Int)) = true := by rw [nat_beq]; simpa using hxg
                  have hC6 := (unhide hC5).set j (.int .i64 (kept : Int))
                  have hnx := unhide HNx
                  rw [if_pos hxg] at hnx
                  rw [naC_set, hnx] at hC6
                  clear hnx
                  have HC6 := hide hC6
                  have HR6 := hide ((unhide hR5).of_eq (w' := wr.setCell ⟨C, j, none⟩ (.int .i64 (kept : Int))) (Below.heap_setCell _ _ _ _ hRC))
                  have HB6 := hide ((unhide hB5).setCell (p := ⟨C, j, none⟩) hCB (.int .i64 (kept : Int)))
                  clear hC6 hxg hx
                  go_wp2_with fail
                  go_roundw
                  case rel => exact ⟨j + 1, by omega, by go_num, HC6, HR6, HB6⟩
                  case measure => simp [intOf]; omega
                · have he : ((x : Int) == (gone : Int)) = false := by rw [nat_beq]; simpa using hxg
                  have hself := unhide HKp (if_neg hxg)
                  have HC6 := hC5
                  rw [← hself] at HC6
                  clear hself hxg hx
                  go_wp2_with fail
                  go_roundw
                  case rel => exact ⟨j + 1, by omega, by go_num, HC6, hR5, hB5⟩
                  case measure => simp [intOf]; omega
              · have hd3 : decide ((j : Int) < 13) = false := by simp; omega
                have hj13 : j = 13 := by omega
                subst hj13
                have hfin : mpK (fun x => if x = gone then kept else x) c 13 = mrg1 c a := by
                  unfold mpK
                  rw [unhide HMr, List.drop_of_length_le (by omega), List.append_nil, List.take_of_length_le (by simp; omega)]
                rw [hfin] at hC5
                clear hfin
                go_wp2_with fail
                go_roundg (gk - 1)
                case rel => exact ⟨k + 1, by omega, by go_num, hide (by rw [unhide HST]; exact unhide hC5), hR5, hB5⟩
                case measure => omega
          · have hne : ((a.k : Int) != 1) = true := by rw [bne_iff_ne]; omega
            have HMr : Hid (mrg1 c a = c) := hide (by unfold mrg1; rw [if_neg hk1])
            clear hk1
            go_wp2_with fail
            go_roundg (gk - 1)
            case rel => exact ⟨k + 1, by omega, by go_num, hide (by rw [unhide HST, unhide HMr]; exact unhide HC2), HR2, HB2⟩
            case measure => omega
        · have hd2 : decide ((k : Int) < (al.length : Int)) = false := by simp; omega
          have hkl : k = al.length := by omega
          subst hkl
          rw [List.take_length] at hC1
          have hml : (mrg al).length = 13 := mrg_len ht
          have hC1' : Ob wr 81 13 C (naC (mrg al)) := unhide hC1
          have hRg : wr.rangeAt C 0 (naC (mrg al)) := by
            intro j v hj
            have hjl := (List.getElem?_eq_some_iff.1 hj).1
            rw [naC_len, hml] at hjl
            rw [Nat.zero_add, World.ownsRow.cellAt hC1' j (by omega)]; exact hj
          have hTh : wr.there R 0 (naC (mrg al)).toArray.size := by
            intro j hj
            rw [List.size_toArray, naC_len, hml] at hj
            obtain ⟨⟨u, hu⟩, hz⟩ := (unhide hR1).some (j := j) hj
            rw [Nat.zero_add]
            exact ⟨by rw [hu]; rfl, hz⟩
          have hI1 : (Try.prog.info? 81).map (·.size) = some (naC (mrg al)).length := by rw [naC_len, hml]; exact Try.info13
          have hI2 : (Try.prog.info? 81).map (·.size) = some (naC (mrg al)).toArray.size := by rw [List.size_toArray, naC_len, hml]; exact Try.info13
          have hO : (naC (mrg al)).toArray.all (·.oneCell') = true := all_oneCell_toArray (by
            intro v hv
            obtain ⟨o, _, rfl⟩ := List.mem_map.1 hv
            rfl)
          have hOb5 := Ob.setCells (naC (mrg al)) 0 (unhide hR1)
          have hsl := setL_mid (naC (mrg al)) [] (naC (List.replicate 13 0)) [] (by rw [naC_len, naC_len, hml]; rfl)
          simp only [List.nil_append, List.append_nil, List.length_nil] at hsl
          rw [hsl] at hOb5
          have hB5 : ∀ (vs : List Value) (o : Nat) (x : World), Below w.heap.size w x → Below w.heap.size w (x.setCells R o vs) := by
            intro vs
            induction vs with
            | nil => intro o x h; exact h
            | cons v r ih => intro o x h; exact ih (o + 1) _ (h.setCell hRB v)
          have HB5 := hide (hB5 (naC (mrg al)) 0 wr (unhide hB1))
          obtain ⟨M, hM⟩ : ∃ M, M = naC (mrg al) := ⟨_, rfl⟩
          rw [← hM] at hRg hTh hI1 hI2 hO hOb5 HB5
          have HM := hide hM
          have HRg := hide hRg
          have HTh := hide hTh
          have HI1 := hide hI1
          have HI2 := hide hI2
          have HO := hide hO
          have HOb5 := hide hOb5
          clear hRg hTh hI1 hI2 hO hOb5 hsl hB5 hM hC1' hC1 hR1 hB1
          go_wp2_with (first | refine wpList_load_mid rfl 81 (.tmp 3) rfl C 0 rfl M _ (unhide HRg) Try.underlying81 rfl (unhide HI1) ?_ | refine wpList_store_mid rfl 81 (.tmp 2) (.tmp 49) rfl R 0 M.toArray rfl rfl (unhide HTh) (unhide HI2) (unhide HO) ?_)
          have hrg2 : (wr.setCells R 0 M).rangeAt R 0 M := by
            intro j v hj
            have hjl := (List.getElem?_eq_some_iff.1 hj).1
            rw [unhide HM, naC_len, hml] at hjl
            rw [Nat.zero_add, World.ownsRow.cellAt (unhide HOb5) j (by omega)]; exact hj
          have hld := run_loadVar_mid (P := Try.prog) (wr.setCells R 0 M) R 0 81 M _ hrg2 Try.underlying81 rfl (unhide HI1)
          refine bodyPost_ret (v := .agg M.toArray) ?_ rfl ⟨by rw [unhide HM], unhide HB5⟩
          simp [results, Try.results30, Act.put, asAddr, hld]
end Go.Proofs.Ytciihepbeacppaa

namespace Go.Proofs.Ytciihepbeacppaa
open Go.RowKit

/-! ### False -/
def blC (l : List Bool) : List Value := l.map Value.bool
theorem blC_get {l : List Bool} {j : Nat} (h : j < l.length) : (blC l)[j]? = some (.bool (l.getD j false)) := by simp [blC, h]
theorem blC_set (l : List Bool) (j : Nat) (b : Bool) : (blC l).set j (.bool b) = blC (l.set j b) := by simp [blC, List.map_set]
/-- which classes were seen -/
def Seen (bl : List Bool) (seen : List Nat) : Prop := bl.length = 24 ∧ ∀ c, c < 24 → (bl.getD c false = true ↔ c ∈ seen)
theorem Seen.add {bl : List Bool} {seen : List Nat} (h : Seen bl seen) {c : Nat} (hc : c < 24) : Seen (bl.set c true) (c :: seen) := by
  refine ⟨by simpa using h.1, fun d hd => ?_⟩
  rw [getD_set _ _ _ _ _ (by rw [h.1]; exact hc), List.mem_cons]
  by_cases e : c = d
  · rw [if_pos e]; simp [e]
  · rw [if_neg e, h.2 d hd]
    exact ⟨Or.inr, fun h => h.resolve_left (fun h => e h.symm)⟩
theorem false_ap {f : CF} {k : Nat} (hk : k < f.ap.length) (h : f.ap[k].l = f.ap[k].r) : falB f = true := by
  unfold falB
  have : f.ap.any (fun p => p.l == p.r) = true := List.any_eq_true.2 ⟨_, List.getElem_mem hk, by simpa using h⟩
  rw [this]; rfl
theorem false_rest {f : CF} (h : ∀ j, (hj : j < f.ap.length) → f.ap[j].l ≠ f.ap[j].r) : falB f = dupB [f.cl.getD 0 0] f.ow := by
  unfold falB
  have : f.ap.any (fun p => p.l == p.r) = false := by
    rw [List.any_eq_false]
    intro p hp
    obtain ⟨j, hj, rfl⟩ := List.mem_iff_getElem.1 hp
    simpa using h j hj
  rw [this]; rfl

set_option maxRecDepth 100000 in
set_option maxHeartbeats 8000000 in
theorem false_any {w : World} {A : Nat} {f : CF} {av ov : Value} (h : IsF w A f av ov) (hR : Rm f) (h0 : f.cl.getD 0 0 < 24) :
    Calls Try.prog 15 #[.pointer (some ⟨A, 0, none⟩)] w fun e w' => e = .returned (.bool (falB f)) ∧ Below w.heap.size w w' := by
  obtain ⟨ao, cap, hav, hm', hnc, hc⟩ := pr_of_own h.ap
  have hm : cap ≤ 9223372036854775807 := by unfold maxLen at hm'; omega
  have h5 := h.c5
  rw [hav] at h5
  have HC := hide hc
  have HF := hide h
  clear hc hav h hm'
  go_enter Try.func15, Try.ntmps15
  go_wp2_with fail
  go_loopw [13] (fun i wr => ∃ k : Nat, k ≤ f.ap.length ∧ i = .int .i64 k ∧ Hid (∀ j, (hj : j < f.ap.length) → j < k → f.ap[j].l ≠ f.ap[j].r) ∧ Hid (Below w.heap.size w wr)) (fun i _ => f.ap.length - (intOf i).toNat)
  case atStart => exact ⟨0, Nat.zero_le _, rfl, fun _ _ h => absurd h (by omega), hide (Below.refl _ _)⟩
  case round =>
    obtain ⟨k, hk, rfl, hall, hbl⟩ := hrel
    by_cases hlt : k < f.ap.length
    · obtain ⟨g, hao, hcell⟩ := unhide HC (by intro h; rw [h] at hlt; simp at hlt)
      subst hao
      obtain ⟨hx0, hx1, hx2⟩ := hcell k hlt
      have c0 := ((unhide hbl).cell (World.block_lt_of_cell? w _ hx0)).trans hx0
      have c1 := ((unhide hbl).cell (World.block_lt_of_cell? w _ hx1)).trans hx1
      have c2 := ((unhide hbl).cell (World.block_lt_of_cell? w _ hx2)).trans hx2
      clear hcell hx0 hx1 hx2
      obtain ⟨p, hp⟩ : ∃ p, p = f.ap[k] := ⟨_, rfl⟩
      rw [← hp] at c0 c1 c2
      have HP := hide hp
      have HBz := hide ((unhide hbl).alloc (unhide hbl).size (.cells #[Value.int .i64 p.k, .int .i64 p.l, .int .i64 p.r] 89))
      obtain ⟨-, n1, n2⟩ := new3 wr (Value.int .i64 p.k) (.int .i64 p.l) (.int .i64 p.r) 89
      clear hp
      by_cases hlr : p.l = p.r
      · have he : ((p.l : Int) == (p.r : Int)) = true := by rw [nat_beq]; simpa using hlr
        have HE : Hid (falB f = true) := hide (false_ap hlt (by rw [← unhide HP]; exact hlr))
        clear hlr
        go_wp2_with fail
        go_ret
        exact ⟨by rw [unhide HE]; rfl, unhide HBz⟩
      · have he : ((p.l : Int) == (p.r : Int)) = false := by rw [nat_beq]; simpa using hlr
        have HLR := hide hlr
        clear hlr
        go_wp2_with fail
        go_roundw
        case rel =>
          refine ⟨k + 1, by omega, by go_num, hide (fun j hj hjk => ?_), HBz⟩
          by_cases e : j = k
          · subst e; rw [← unhide HP]; exact unhide HLR
          · exact hall.out j hj (by omega)
        case measure => simp [intOf]; omega
    · have hd : decide ((k : Int) < (f.ap.length : Int)) = false := by simp; omega
      have HE : Hid (falB f = dupB [f.cl.getD 0 0] f.ow) := hide (false_rest (fun j hj => hall.out j hj (by omega)))
      have hFr := (unhide HF).of_eq (fun k hk => (unhide hbl).block k ((unhide HF).lt k hk))
      have h0r := (hFr.alloc (Obj.cells #[Value.bool false, Value.bool false, Value.bool false, Value.bool false, Value.bool false, Value.bool false, Value.bool false, Value.bool false, Value.bool false, Value.bool false, Value.bool false, Value.bool false, Value.bool false, Value.bool false, Value.bool false, Value.bool false, Value.bool false, Value.bool false, Value.bool false, Value.bool false, Value.bool false, Value.bool false, Value.bool false, Value.bool false] 90)).cls (i := 0) (by omega)
      unfold clV at h0r
      obtain ⟨c0, hc0⟩ : ∃ c0, c0 = f.cl.getD 0 0 := ⟨_, rfl⟩
      rw [← hc0] at h0r h0 HE
      have hD0 : Ob (wr.alloc (Obj.cells #[Value.bool false, Value.bool false, Value.bool false, Value.bool false, Value.bool false, Value.bool false, Value.bool false, Value.bool false, Value.bool false, Value.bool false, Value.bool false, Value.bool false, Value.bool false, Value.bool false, Value.bool false, Value.bool false, Value.bool false, Value.bool false, Value.bool false, Value.bool false, Value.bool false, Value.bool false, Value.bool false, Value.bool false] 90)) 90 24 wr.heap.size (blC (List.replicate 24 false)) := by
        exact World.ownsRow_lit (base := 0) (e := 90) (size := 24) wr (blC (List.replicate 24 false)).toArray 1 (Nat.zero_le _) (by simp [maxLen]) rfl
      obtain ⟨⟨u0, hu0⟩, hz0⟩ := hD0.some (j := c0) h0
      have hD1 : Ob (wr.alloc (Obj.cells ([Value.bool false, Value.bool false, Value.bool false, Value.bool false, Value.bool false, Value.bool false, Value.bool false, Value.bool false, Value.bool false, Value.bool false, Value.bool false, Value.bool false, Value.bool false, Value.bool false, Value.bool false, Value.bool false, Value.bool false, Value.bool false, Value.bool false, Value.bool false, Value.bool false, Value.bool false, Value.bool false, Value.bool false].set c0 (Value.bool true)).toArray 90)) 90 24 wr.heap.size (blC ((List.replicate 24 false).set c0 true)) := by
        have h1 := World.ownsRow_lit (base := 0) (e := 90) (size := 24) wr ([Value.bool false, Value.bool false, Value.bool false, Value.bool false, Value.bool false, Value.bool false, Value.bool false, Value.bool false, Value.bool false, Value.bool false, Value.bool false, Value.bool false, Value.bool false, Value.bool false, Value.bool false, Value.bool false, Value.bool false, Value.bool false, Value.bool false, Value.bool false, Value.bool false, Value.bool false, Value.bool false, Value.bool false].set c0 (Value.bool true)).toArray 1 (Nat.zero_le _) (by simp [maxLen]) (by simp)
        rw [← blC_set]
        exact h1
      have hsn : Seen ((List.replicate 24 false).set c0 true) [c0] := by
        refine Seen.add (seen := []) ⟨by simp, fun c hc => ?_⟩ h0
        rw [List.getD_eq_getElem?_getD, List.getElem?_replicate, if_pos hc]; simp
      have hB1 : Below w.heap.size w (wr.alloc (Obj.cells ([Value.bool false, Value.bool false, Value.bool false, Value.bool false, Value.bool false, Value.bool false, Value.bool false, Value.bool false, Value.bool false, Value.bool false, Value.bool false, Value.bool false, Value.bool false, Value.bool false, Value.bool false, Value.bool false, Value.bool false, Value.bool false, Value.bool false, Value.bool false, Value.bool false, Value.bool false, Value.bool false, Value.bool false].set c0 (Value.bool true)).toArray 90)) := (unhide hbl).alloc (unhide hbl).size _
      have hF1 := (unhide HF).of_eq (fun k hk => hB1.block k ((unhide HF).lt k hk))
      have h6 := hF1.c6
      obtain ⟨oo, ocap, hov, hom', hon, hoc⟩ := pr_of_own (unhide HF).ow
      have hom : ocap ≤ 9223372036854775807 := by unfold maxLen at hom'; omega
      rw [hov] at h6
      have HOC := hide hoc
      have HD1 := hide hD1
      have HSn := hide hsn
      have HB1 := hide hB1
      obtain ⟨D, hD⟩ : ∃ D, D = wr.heap.size := ⟨_, rfl⟩
      have hDB : w.heap.size ≤ D := by rw [hD]; exact (unhide hbl).size
      have HDD := hide hD
      have HC0 := hide hc0
      clear hFr hD0 hD1 hsn hB1 hF1 hov hoc hom' hD hc0
      go_wp2_with fail
      obtain ⟨w1, hw1⟩ : ∃ w1, w1 = wr.alloc (Obj.cells ([Value.bool false, Value.bool false, Value.bool false, Value.bool false, Value.bool false, Value.bool false, Value.bool false, Value.bool false, Value.bool false, Value.bool false, Value.bool false, Value.bool false, Value.bool false, Value.bool false, Value.bool false, Value.bool false, Value.bool false, Value.bool false, Value.bool false, Value.bool false, Value.bool false, Value.bool false, Value.bool false, Value.bool false].set c0 (Value.bool true)).toArray 90) := ⟨_, rfl⟩
      rw [← hw1] at h6 HD1 HB1 ⊢
      rw [← unhide HDD] at HD1 ⊢
      clear hw1 h0r hu0 hz0
      go_loopw [34] (fun i wr => ∃ (k : Nat) (bl : List Bool) (seen : List Nat), k ≤ f.ow.length ∧ i = .int .i64 k ∧ Hid (Ob wr 90 24 D (blC bl)) ∧ Hid (Seen bl seen) ∧ Hid (dupB seen (f.ow.drop k) = falB f) ∧ Hid (Below w.heap.size w wr)) (fun i _ => f.ow.length - (intOf i).toNat)
      case atStart => exact ⟨0, _, [c0], Nat.zero_le _, rfl, HD1, HSn, hide (unhide HE).symm, HB1⟩
      case round =>
        obtain ⟨k, bl, seen, hk, rfl, hD2, hsn, hdu, hbl2⟩ := hrel
        by_cases hlt2 : k < f.ow.length
        · obtain ⟨g, hoo, hcell⟩ := unhide HOC (by intro h; rw [h] at hlt2; simp at hlt2)
          subst hoo
          obtain ⟨hx0, hx1, hx2⟩ := hcell k hlt2
          have c0' := ((unhide hbl2).cell (World.block_lt_of_cell? w _ hx0)).trans hx0
          have c1 := ((unhide hbl2).cell (World.block_lt_of_cell? w _ hx1)).trans hx1
          have c2 := ((unhide hbl2).cell (World.block_lt_of_cell? w _ hx2)).trans hx2
          clear hcell hx0 hx1 hx2
          obtain ⟨hpl, -⟩ := hR _ (List.getElem_mem hlt2)
          obtain ⟨p, hp⟩ : ∃ p, p = f.ow[k] := ⟨_, rfl⟩
          rw [← hp] at c0' c1 c2 hpl
          have hstep : dupB seen (f.ow.drop k) = if p.l ∈ seen then true else dupB (p.l :: seen) (f.ow.drop (k + 1)) := by
            rw [List.drop_eq_getElem_cons hlt2, ← hp]; rfl
          rw [unhide hdu] at hstep
          obtain ⟨-, n1, n2⟩ := new3 wr (Value.int .i64 p.k) (.int .i64 p.l) (.int .i64 p.r) 89
          have hD3 := (unhide hD2).alloc (.cells #[Value.int .i64 p.k, .int .i64 p.l, .int .i64 p.r] 89)
          have hdl : bl.length = 24 := (unhide hsn).1
          have d1 := (World.ownsRow.cellAt hD3 p.l (by omega)).trans (blC_get (l := bl) (by omega))
          have z1 := World.ownsRow.frozenAt hD3 p.l
          obtain ⟨sb, hsb⟩ : ∃ sb, sb = bl.getD p.l false := ⟨_, rfl⟩
          rw [← hsb] at d1
          have hiff := (unhide hsn).2 p.l hpl
          rw [← hsb] at hiff
          have HB3 := hide ((unhide hbl2).alloc (unhide hbl2).size (.cells #[Value.int .i64 p.k, .int .i64 p.l, .int .i64 p.r] 89))
          have HD4 := hide (hD3.set p.l (.bool true))
          rw [blC_set] at HD4
          have HSn4 := hide ((unhide hsn).add hpl)
          have HSt := hide hstep
          have HIf := hide hiff
          clear hp hstep hD3 hsb hiff hD2 hsn hdu
          cases sb with
          | true =>
            have HFin : Hid (falB f = true) := hide (by rw [unhide HSt, if_pos ((unhide HIf).1 rfl)])
            go_wp2_with fail
            go_ret
            exact ⟨by rw [unhide HFin]; rfl, unhide HB3⟩
          | false =>
            have HNx : Hid (dupB (p.l :: seen) (f.ow.drop (k + 1)) = falB f) := hide (by
              rw [unhide HSt, if_neg (fun h => by have := (unhide HIf).2 h; cases this)])
            have HB4 := hide ((unhide HB3).setCell (p := ⟨D, p.l, none⟩) hDB (.bool true))
            go_wp2_with fail
            go_roundw
            case rel => exact ⟨k + 1, _, p.l :: seen, by omega, by go_num, HD4, HSn4, HNx, HB4⟩
            case measure => simp [intOf]; omega
        · have hd2 : decide ((k : Int) < (f.ow.length : Int)) = false := by simp; omega
          have HFin : Hid (falB f = false) := hide (by rw [← unhide hdu, List.drop_of_length_le (by omega)]; rfl)
          go_wp2_with fail
          go_ret
          exact ⟨by rw [unhide HFin]; rfl, unhide hbl2⟩
end Go.Proofs.Ytciihepbeacppaa

namespace Go.Proofs.Ytciihepbeacppaa
open Go.RowKit

/-! ### drop -/
/-- a search that was just made -/
def Sn (w : World) (q f t : Nat) (st : Int) (anc rest : List Value) : Prop :=
  Ob w 62 55 q ([ptr f, ptr t] ++ (anc ++ rest)) ∧ anc.length = 24 ∧ ∃ (mid : List Value) (vv ov uv pv : Value), rest = mid ++ [vv, ov, uv, pv, .int .i64 st] ∧ mid.length = 24
theorem set_anc {a b : Value} {anc rest : List Value} {j : Nat} (hj : j < anc.length) (u : Value) : ([a, b] ++ (anc ++ rest)).set (2 + j) u = [a, b] ++ (anc.set j u ++ rest) := by
  rw [List.set_append_right _ _ (by simp), show 2 + j - [a, b].length = j by simp, List.set_append_left _ _ hj]
theorem get_anc {a b : Value} {anc rest : List Value} {j : Nat} (hj : j < anc.length) : ([a, b] ++ (anc ++ rest))[2 + j]? = anc[j]? := by
  rw [List.getElem?_append_right (by simp), show 2 + j - [a, b].length = j by simp, List.getElem?_append_left hj]
theorem Sn.set {w : World} {q f t : Nat} {st : Int} {anc rest : List Value} (h : Sn w q f t st anc rest) {j : Nat} (hj : j < 24) (u : Value) : Sn (w.setCell ⟨q, 2 + j, none⟩ u) q f t st (anc.set j u) rest := by
  obtain ⟨h1, h2, h3⟩ := h
  have := h1.set (2 + j) u
  rw [set_anc (by omega)] at this
  exact ⟨this, by simpa using h2, h3⟩
theorem Sn.of_eq {w w' : World} {q f t : Nat} {st : Int} {anc rest : List Value} (h : Sn w q f t st anc rest) (he : w'.heap[q]? = w.heap[q]?) : Sn w' q f t st anc rest := ⟨h.1.of_eq he, h.2⟩
theorem all_minus {anc : List Value} (h : anc.length = 24) (ha : ∀ j, j < 24 → anc[j]? = some (.int .i64 (-1))) : anc = opCells (List.replicate 24 none) := by
  apply List.ext_getElem?
  intro j
  by_cases hj : j < 24
  · rw [ha j hj]
    unfold opCells
    rw [List.map_replicate, List.getElem?_replicate, if_pos hj]; rfl
  · rw [List.getElem?_eq_none (by omega), List.getElem?_eq_none (by simp [opCells]; omega)]

set_option maxRecDepth 100000 in
set_option maxHeartbeats 8000000 in
theorem drop_any {w : World} {q f t : Nat} {st : Int} {anc rest : List Value} {F T : CF} {fav fov tav tov : Value} (h : Sn w q f t st anc rest) (hF : IsF w f F fav fov) (hT : IsF w t T tav tov) (nf : ∀ k ∈ bsF f fav fov, k ≠ q) (nt : ∀ k ∈ bsF t tav tov, k ≠ q) (hT24 : ∀ i, i < 5 → T.cl.getD i 0 < 24) :
    Calls Try.prog 16 #[.pointer (some ⟨q, 0, none⟩)] w fun e w' => e = .returned (.bool (drp F T [0, 1, 2, 3, 4] (List.replicate 24 none)).isSome) ∧ (∀ an, drp F T [0, 1, 2, 3, 4] (List.replicate 24 none) = some an → Sq w' q f t an st) ∧ Stp [q] w [q] w' := by
  have HS := hide h
  have HF := hide hF
  have HT := hide hT
  have HNf := hide nf
  have HNt := hide nt
  have HT24 := hide hT24
  clear h hF hT nf nt hT24
  go_enter Try.func16, Try.ntmps16
  go_wp2_with fail
  go_loopw [3] (fun i wr => ∃ (k : Nat) (an : List Value), k ≤ 24 ∧ i = .int .i64 k ∧ Hid (Sn wr q f t st an rest) ∧ Hid (∀ j, j < k → an[j]? = some (.int .i64 (-1))) ∧ Hid (Stp [q] w [q] wr)) (fun i _ => 24 - (intOf i).toNat)
  case atStart => exact ⟨0, anc, Nat.zero_le _, rfl, HS, hide (fun j hj => by omega), hide (Stp.refl _ _)⟩
  case round =>
    obtain ⟨k, an, hk, rfl, hS1, hm, hst⟩ := hrel
    by_cases hlt : k < 24
    · have hd : decide ((k : Int) < 24) = true := by simp; omega
      obtain ⟨⟨u, hu⟩, hz⟩ := (unhide hS1).1.some (j := 2 + k) (by omega)
      have HS2 := hide ((unhide hS1).set hlt (.int .i64 (-1)))
      have HM2 : Hid (∀ j, j < k + 1 → (an.set k (.int .i64 (-1)))[j]? = some (.int .i64 (-1))) := hide (by
        intro j hj
        have hl := (unhide hS1).2.1
        by_cases e : k = j
        · subst e; rw [List.getElem?_set_self (by omega)]
        · rw [List.getElem?_set_ne e]; exact unhide hm j (by omega))
      have HT2 := hide ((unhide hst).setCell (p := ⟨q, 2 + k, none⟩) (Or.inl (by simp)) (.int .i64 (-1)))
      go_wp2_with fail
      go_roundw
      case rel => exact ⟨k + 1, _, by omega, by go_num, HS2, HM2, HT2⟩
      case measure => simp [intOf]; omega
    · have hd : decide ((k : Int) < 24) = false := by simp; omega
      have hk24 : k = 24 := by omega
      subst hk24
      have HS0 : Hid (Sn wr q f t st (opCells (List.replicate 24 none)) rest) := hide (by
        have := all_minus (unhide hS1).2.1 (unhide hm)
        rw [← this]; exact unhide hS1)
      go_wp2_with fail
      go_loopg [4] 5 (fun gn i wr => ∃ (k : Nat) (an : List (Option Nat)), k + gn = 5 ∧ i = .int .i64 k ∧ Hid (Sn wr q f t st (opCells an) rest) ∧ Hid (drp F T ([0, 1, 2, 3, 4].drop k) an = drp F T [0, 1, 2, 3, 4] (List.replicate 24 none)) ∧ Hid (Stp [q] w [q] wr))
      case atStart => exact ⟨0, _, by omega, rfl, HS0, hide rfl, hst⟩
      case round =>
        obtain ⟨k, an, hk, rfl, hS2, hdr, hst2⟩ := hrel
        by_cases hlt2 : k < 5
        · have hd2 : decide ((k : Int) < 5) = true := by simp; omega
          have hbk := fun b hb hne => (unhide hst2).block b hb (show b ∉ [q] by simpa using hne)
          have hFr := (unhide HF).of_eq (fun b hb => hbk b ((unhide HF).lt b hb) (unhide HNf b hb))
          have hTr := (unhide HT).of_eq (fun b hb => hbk b ((unhide HT).lt b hb) (unhide HNt b hb))
          have hq0 : wr.cell? ⟨q, 0, none⟩ = some (.pointer (some ⟨f, 0, none⟩)) := by rw [World.ownsRow.cellAt (unhide hS2).1 0 (by omega)]; rfl
          have hq1 : wr.cell? ⟨q, 1, none⟩ = some (.pointer (some ⟨t, 0, none⟩)) := by rw [World.ownsRow.cellAt (unhide hS2).1 1 (by omega)]; rfl
          have hfc := hFr.cls (i := k) hlt2
          have htc := hTr.cls (i := k) hlt2
          unfold clV at hfc htc
          have hc24 := unhide HT24 k hlt2
          obtain ⟨c, hc⟩ : ∃ c, c = T.cl.getD k 0 := ⟨_, rfl⟩
          obtain ⟨fk, hfk⟩ : ∃ fk, fk = F.cl.getD k 0 := ⟨_, rfl⟩
          rw [← hc] at htc hc24
          rw [← hfk] at hfc
          have hal : an.length = 24 := by have := (unhide hS2).2.1; rw [opCells_len] at this; exact this
          have hac : wr.cell? ⟨q, 2 + c, none⟩ = some (.int .i64 (opI (an.getD c none))) := by
            rw [World.ownsRow.cellAt (unhide hS2).1 (2 + c) (by omega), get_anc (by rw [opCells_len]; omega)]
            have : c < an.length := by omega
            simp [opCells, this]
          have hzc := World.ownsRow.frozenAt (unhide hS2).1 (2 + c)
          obtain ⟨o, ho⟩ : ∃ o, o = an.getD c none := ⟨_, rfl⟩
          rw [← ho] at hac
          have hstep : drp F T ([0, 1, 2, 3, 4].drop k) an = if o ≠ none ∧ o ≠ some fk then none else drp F T ([0, 1, 2, 3, 4].drop (k + 1)) (an.set c (some fk)) := by
            have hk5 : k = 0 ∨ k = 1 ∨ k = 2 ∨ k = 3 ∨ k = 4 := by omega
            have e : ([0, 1, 2, 3, 4] : List Nat).drop k = k :: ([0, 1, 2, 3, 4] : List Nat).drop (k + 1) := by
              rcases hk5 with rfl | rfl | rfl | rfl | rfl <;> rfl
            rw [e, drp, ← hc, ← hfk, ← ho]
          rw [unhide hdr] at hstep
          have hn1 := opI_neg o
          have HS3 := hide ((unhide hS2).set hc24 (.int .i64 (fk : Int)))
          have HS3' : Hid (Sn (wr.setCell ⟨q, 2 + c, none⟩ (.int .i64 (fk : Int))) q f t st (opCells (an.set c (some fk))) rest) := hide (by
            have := unhide HS3
            rw [show (opCells an).set c (.int .i64 (fk : Int)) = opCells (an.set c (some fk)) by simp [opCells, List.map_set, opI]] at this
            exact this)
          have HT3 := hide ((unhide hst2).setCell (p := ⟨q, 2 + c, none⟩) (Or.inl (by simp)) (.int .i64 (fk : Int)))
          have HStep := hide hstep
          clear hstep hc hfk ho hFr hTr hbk HS3 HS0
          by_cases hbad : o ≠ none ∧ o ≠ some fk
          · have HFin : Hid (drp F T [0, 1, 2, 3, 4] (List.replicate 24 none) = none) := hide (by rw [unhide HStep, if_pos hbad])
            cases o with
            | none => exact absurd rfl hbad.1
            | some b0 =>
              rw [show opI (some b0) = (b0 : Int) from rfl] at hac hn1
              rw [show (some b0).isSome = true from rfl] at hn1
              have hn2 : ((b0 : Int) != (fk : Int)) = true := by
                rw [bne_iff_ne]
                intro e
                exact hbad.2 (by rw [show b0 = fk by omega])
              clear hbad
              go_wp2_with fail
              go_quiet (fail)
              go_wp2_with fail
              go_ret
              refine ⟨by rw [unhide HFin]; rfl, fun an' h => ?_, (unhide hst2).drewN _⟩
              rw [unhide HFin] at h; cases h
          · have HNx : Hid (drp F T ([0, 1, 2, 3, 4].drop (k + 1)) (an.set c (some fk)) = drp F T [0, 1, 2, 3, 4] (List.replicate 24 none)) := hide (by rw [unhide HStep, if_neg hbad])
            cases o with
            | none =>
              rw [show opI none = (-1 : Int) from rfl] at hac
              clear hbad hn1
              go_wp2_with fail
              go_quiet (fail)
              go_wp2_with fail
              go_region
              go_wp2_with fail
              go_roundg (gk - 1)
              case rel => exact ⟨k + 1, _, by omega, by go_num, hide ((unhide HS3').of_eq rfl), HNx, hide ⟨(unhide HT3).os, (unhide HT3).tape, (unhide HT3).output, (unhide HT3).size, (unhide HT3).block, (unhide HT3).foot⟩⟩
              case measure => omega
            | some b0 =>
              have hb0 : b0 = fk := Classical.byContradiction (fun h => hbad ⟨by simp, by simpa using h⟩)
              rw [show opI (some b0) = (b0 : Int) from rfl] at hac hn1
              rw [show (some b0).isSome = true from rfl] at hn1
              have hn2 : ((b0 : Int) != (fk : Int)) = false := by rw [hb0]; simp
              clear hbad hb0
              go_wp2_with fail
              go_quiet (fail)
              go_wp2_with fail
              go_region
              go_wp2_with fail
              go_roundg (gk - 1)
              case rel => exact ⟨k + 1, _, by omega, by go_num, hide ((unhide HS3').of_eq rfl), HNx, hide ⟨(unhide HT3).os, (unhide HT3).tape, (unhide HT3).output, (unhide HT3).size, (unhide HT3).block, (unhide HT3).foot⟩⟩
              case measure => omega
        · have hd2 : decide ((k : Int) < 5) = false := by simp; omega
          have hk5 : k = 5 := by omega
          subst hk5
          have HFin : Hid (drp F T [0, 1, 2, 3, 4] (List.replicate 24 none) = some an) := hide ((unhide hdr).symm)
          clear HS0
          go_wp2_with fail
          go_ret
          refine ⟨by rw [unhide HFin]; rfl, fun an' h => ?_, unhide hst2⟩
          rw [unhide HFin] at h
          cases h
          obtain ⟨h1, h2, mid, vv, ov, uv, pv, h3, h4⟩ := unhide hS2
          refine ⟨mid, vv, ov, uv, pv, ?_, h4, by rw [opCells_len] at h2; exact h2⟩
          rw [h3] at h1
          exact h1
end Go.Proofs.Ytciihepbeacppaa
