import Derived.Test.YtciihepbeacppaaHA
namespace Go.Proofs.Ytciihepbeacppaa
open Go.RowKit

/-! ### cells that are free -/
def bools (l : List Bool) : List Value := l.map Value.bool
/-- the place of the free cell at an address: behind the list, if there is none -/
def clP (ad : List Int) (fr : List Bool) (a : Int) : Nat → Bool := fun k => fr.getD k false && ad.getD k 0 == a
def hCl (ad : List Int) (fr : List Bool) (a : Int) : Nat := ((List.range ad.length).find? (clP ad fr a)).getD ad.length
def hClI (ad : List Int) (fr : List Bool) (a : Int) : Int := if hCl ad fr a < ad.length then (hCl ad fr a : Int) else -1
theorem hCl_hit {ad : List Int} {fr : List Bool} {a : Int} {k : Nat} (hk : k < ad.length) (hn : ∀ j, j < k → clP ad fr a j = false) (h : clP ad fr a k = true) : hCl ad fr a = k := by
  unfold hCl
  have : (List.range ad.length).find? (clP ad fr a) = some k := by
    rw [List.find?_range_eq_some]
    exact ⟨h, by simpa using hk, fun j hj => by simp [hn j hj]⟩
  rw [this]; rfl
theorem hCl_miss {ad : List Int} {fr : List Bool} {a : Int} (hn : ∀ j, j < ad.length → clP ad fr a j = false) : hCl ad fr a = ad.length := by
  unfold hCl
  have : (List.range ad.length).find? (clP ad fr a) = none := by
    rw [List.find?_range_eq_none]
    exact fun j hj => by simp [hn j hj]
  rw [this]; rfl
/-- the cells of a heap in memory -/
def HpA (w : World) (X : Nat) (ad nx : List Int) : Prop :=
  ∃ av xv, w.cell? ⟨X, 2, none⟩ = some av ∧ w.cell? ⟨X, 3, none⟩ = some xv ∧ Lst w av 1 ad.length (ints ad) ∧ Lst w xv 1 nx.length (ints nx)
theorem HpA.below {w w' : World} {X : Nat} {ad nx : List Int} (h : HpA w X ad nx) (hb : Below w.heap.size w w') : HpA w' X ad nx := by
  obtain ⟨av, xv, h1, h2, h3, h4⟩ := h
  exact ⟨av, xv, by rw [hb.cell (World.block_lt_of_cell? w _ h1)]; exact h1, by rw [hb.cell (World.block_lt_of_cell? w _ h2)]; exact h2, h3.below hb, h4.below hb⟩
theorem Lst.get {w : World} {v : Value} {n : Nat} {xs : List Value} (h : Lst w v 1 n xs) (hn : 0 < n) : ∃ g off cap, v = .slice (some ⟨g, off, none⟩) n cap ∧ n ≤ cap ∧ cap ≤ maxLen ∧ ∀ j u, xs[j]? = some u → w.cell? ⟨g, off + j, none⟩ = some u :=
  h.2.2.resolve_left (fun e => by omega)
theorem Lst.slice {w : World} {v : Value} {sz n : Nat} {xs : List Value} (h : Lst w v sz n xs) : ∃ ao cap, v = .slice ao n cap := by
  rcases h.2.2 with ⟨rfl, rfl⟩ | ⟨g, off, cap, rfl, _⟩
  · exact ⟨_, _, rfl⟩
  · exact ⟨_, _, rfl⟩
theorem ints_get {l : List Int} {k : Nat} (h : k < l.length) : (ints l)[k]? = some (.int .i64 (l.getD k 0)) := by simp [ints, h]
theorem bools_get {l : List Bool} {k : Nat} (h : k < l.length) : (bools l)[k]? = some (.bool (l.getD k false)) := by simp [bools, h]

set_option maxRecDepth 100000 in
set_option maxHeartbeats 1000000 in
theorem hcell_any {w : World} {X : Nat} {ad nx : List Int} {fv : Value} {fr : List Bool} (a : Int) (hH : HpA w X ad nx) (hF : Lst w fv 1 fr.length (bools fr)) (hl : fr.length = ad.length) :
    Calls Try.prog 38 #[.pointer (some ⟨X, 0, none⟩), .int .i64 a, fv] w fun e w' => e = .returned (.int .i64 (hClI ad fr a)) ∧ w' = w := by
  obtain ⟨av, xv, c2, c3, hA, -⟩ := hH
  have hle := hA.2.1
  have HF := hide hF
  have HA := hide hA
  obtain ⟨ao, acap, rfl⟩ := hA.slice
  obtain ⟨fo, fcap, rfl⟩ := hF.slice
  clear hA hF c3
  go_enter Try.func38, Try.ntmps38
  go_wp2_with fail
  go_loop [7] (fun i => ∃ k : Nat, k ≤ ad.length ∧ i = .int .i64 k ∧ Hid (∀ j, j < k → clP ad fr a j = false)) (fun i => ad.length - (intOf i).toNat)
  case atStart => exact ⟨0, Nat.zero_le _, rfl, fun _ h => absurd h (by omega)⟩
  case round =>
    obtain ⟨k, hk, rfl, hall⟩ := hrel
    by_cases hlt : k < ad.length
    · obtain ⟨g, off, cap, hv, -, -, hc⟩ := (unhide HA).get (by omega)
      obtain ⟨g2, off2, cap2, hv2, hn2, hm2, hc2⟩ := (unhide HF).get (by omega)
      simp only [Value.slice.injEq, true_and] at hv hv2
      obtain ⟨rfl, rfl⟩ := hv
      obtain ⟨rfl, rfl⟩ := hv2
      have x1 := hc k _ (ints_get hlt)
      have hlt2 : k < fr.length := by omega
      have x2 := hc2 k _ (bools_get hlt2)
      clear hc hc2
      cases hf : fr.getD k false with
      | false =>
        have HP : Hid (clP ad fr a k = false) := hide (by unfold clP; rw [hf]; rfl)
        rw [hf] at x2
        clear hf
        go_wp2_with fail
        go_round
        case rel => exact ⟨k + 1, by omega, by go_num, fun j hj => by
          by_cases e : j = k
          · rw [e]; exact unhide HP
          · exact hall.out j (by omega)⟩
        case measure => simp [intOf]; omega
      | true =>
        rw [hf] at x2
        obtain ⟨q, hq⟩ : ∃ q, q = ad.getD k 0 := ⟨_, rfl⟩
        rw [← hq] at x1
        have HQ := hide hq
        clear hq
        cases he : (q == a) with
        | true =>
          have HP : Hid (clP ad fr a k = true) := hide (by unfold clP; rw [hf, ← unhide HQ, he]; rfl)
          clear hf
          go_wp2_with fail
          go_ret
          exact ⟨ret_int (by unfold hClI; rw [hCl_hit hlt hall.out (unhide HP), if_pos hlt]), rfl⟩
        | false =>
          have HP : Hid (clP ad fr a k = false) := hide (by unfold clP; rw [hf, ← unhide HQ, he]; rfl)
          clear hf
          go_wp2_with fail
          go_round
          case rel => exact ⟨k + 1, by omega, by go_num, fun j hj => by
            by_cases e : j = k
            · rw [e]; exact unhide HP
            · exact hall.out j (by omega)⟩
          case measure => simp [intOf]; omega
    · have hd : decide ((k : Int) < (ad.length : Int)) = false := by simp; omega
      go_wp2_with fail
      go_ret
      exact ⟨ret_int (by unfold hClI; rw [hCl_miss (fun j hj => hall.out j (by omega)), if_neg (by omega)]), rfl⟩

theorem own_heap {w : World} {B : Nat} {e : TypeId} {n g : Nat} {xs : List Value} (h : w.ownsRow B e 1 (.slice (some ⟨g, 0, none⟩) n n) n xs) : w.heap[g]? = some (.cells xs.toArray e (0, 0)) ∧ xs.length = n := by
  have h1 := h.1
  rcases h.2 with ⟨h0, _⟩ | ⟨g', cap, cur, hv, _, hg, _, _, hs, ht⟩
  · cases h0
  · simp only [Value.slice.injEq, Option.some.injEq, Addr.mk.injEq, true_and, and_true] at hv
    obtain ⟨rfl, rfl⟩ := hv
    have : cur.toList = xs := by
      rw [← ht, List.take_of_length_le]
      simp only [Array.length_toList, hs]; omega
    rw [hg, ← this]
    exact ⟨by simp, by simp only [Array.length_toList, hs]; omega⟩
theorem heap_own {w : World} {B : Nat} {e : TypeId} {n g : Nat} {xs : List Value} (h : w.heap[g]? = some (.cells xs.toArray e (0, 0))) (hl : xs.length = n) (hB : B ≤ g) (hm : n ≤ maxLen) : w.ownsRow B e 1 (.slice (some ⟨g, 0, none⟩) n n) n xs :=
  ⟨by omega, Or.inr ⟨g, n, xs.toArray, rfl, hB, h, Nat.le_refl _, hm, by simp [hl], by simp [← hl]⟩⟩
theorem bools_len (l : List Bool) : (bools l).length = l.length := by simp [bools]
theorem bools_one (l : List Bool) : ∀ u ∈ bools l, u.oneCell' = true := by
  intro u hu; simp only [bools, List.mem_map] at hu; obtain ⟨b, _, rfl⟩ := hu; rfl
theorem Try.sizeBool : (Try.prog.info? 4).map (·.size) = some 1 := by kernel_rfl

set_option maxRecDepth 100000 in
set_option maxHeartbeats 1000000 in
theorem without_any {w : World} {fv : Value} {fr : List Bool} (k : Nat) (hk : k < fr.length) (hF : Lst w fv 1 fr.length (bools fr)) :
    Calls Try.prog 39 #[fv, .int .i64 k] w fun e w' => ∃ v, e = .returned v ∧ Lst w' v 1 fr.length (bools (fr.set k false)) ∧ Below w.heap.size w w' := by
  obtain ⟨i0, hi, hz0, hz1, hz2⟩ := info_parts Try.infoBool
  have hle := hF.2.1
  have HF := hide hF
  obtain ⟨n, hn⟩ : ∃ n, n = fr.length := ⟨_, rfl⟩
  obtain ⟨g, off, cap, rfl, hnc, hm, hc⟩ := hF.get (by omega)
  rw [← hn] at hk hle hnc ⊢
  have HN := hide hn
  clear hF hn hc
  unfold maxLen at hm
  go_enter Try.func39, Try.ntmps39
  go_wp2_with (at_make; refine wpList_make_full _ rfl _ _ 47 rfl w.heap.size 4 i0 (.bool false) 1 Try.underlying47 hi hz0 hz1 .i64 .i64 _ _ n rfl rfl rfl rfl ?b2 ?b3 ?b4 ?_)
  case b2 => rw [hz2]; omega
  case b3 => unfold maxLen; omega
  case b4 => simp
  intro w1 hown1 hgrow1
  have hb1 : Below w.heap.size w w1 := (Below.refl _ _).grown hgrow1 (Nat.le_refl _) (fun k h => by cases h)
  obtain ⟨hg1, hl1⟩ := own_heap hown1
  have HG1 := hide hg1
  have HL1 := hide hl1
  have HB1 := hide hb1
  have HC : Hid (∀ j v, (bools fr)[j]? = some v → w1.cell? ⟨g, off + j, none⟩ = some v) := hide (fun j v hj => by
    obtain ⟨g', off', cap', hv', -, -, hc⟩ := (unhide HF).get (by rw [← unhide HN]; omega)
    simp only [Value.slice.injEq, Option.some.injEq, Addr.mk.injEq, and_true] at hv'
    obtain ⟨⟨rfl, rfl⟩, -, -⟩ := hv'
    rw [hb1.cell (World.block_lt_of_cell? w _ (hc j v hj))]; exact hc j v hj)
  clear hown1 hgrow1 hg1 hl1 hb1
  go_wp2_with (refine wpList_copy_splice rfl (.tmp 9) (.tmp 10) 47 47 rfl 4 Try.underlying47 Try.sizeBool (some ⟨w.heap.size, 0, none⟩) (some ⟨g, off, none⟩) n n n cap rfl rfl w.heap.size 0 _ 4 (unhide HG1) (bools fr) ?c1 ?c2 ?c3 (bools_one fr) w.heap.size w (unhide HB1) (Nat.le_refl _) ?_)
  case c1 => rw [bools_len, ← unhide HN]; simp
  case c2 => exact fun _ => unhide HC
  case c3 => rw [unhide HL1, bools_len, ← unhide HN]; simp
  intro w2 hg2 hb2
  have e2 : splice (madeCells #[Value.bool false] n).toList 0 (bools fr) = bools fr := by
    have h1 := unhide HL1
    unfold splice
    rw [List.take_zero, List.nil_append, List.drop_eq_nil_of_le (by rw [h1, bools_len, ← unhide HN]; omega), List.append_nil]
  have HO2 : Hid (w2.ownsRow w.heap.size 4 1 (.slice (some ⟨w.heap.size, 0, none⟩) n n) n (bools fr)) := hide (heap_own (by have := unhide hg2; rwa [e2] at this) (by rw [bools_len, ← unhide HN]) (Nat.le_refl _) (by unfold maxLen; omega))
  obtain ⟨d1, d2⟩ := rown_cell (unhide HO2) (bools_get (l := fr) (k := k) (by rw [← unhide HN]; exact hk))
  have HB2 := hide hb2
  clear hg2 hb2 e2
  go_wp2_with fail
  go_ret
  refine ⟨_, rfl, ?_, (unhide HB2).setCell (p := ⟨w.heap.size, k, none⟩) (Nat.le_refl _) _⟩
  have h3 := rown_set (j := k) (unhide HO2) (.bool false)
  have e3 : (bools fr).set k (.bool false) = bools (fr.set k false) := by simp [bools, List.map_set]
  rw [e3] at h3
  exact Lst.of_own h3 (by omega)
end Go.Proofs.Ytciihepbeacppaa
