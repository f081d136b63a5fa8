import Derived.Test.YtciihepbeacppaaMF
import Derived.Test.YtciihepbeacppaaMD
import Derived.Deep.OwnRows
import Derived.Deep.MidRow
import Derived.Test.YtciihepbeacppaaHC
import Derived.Test.YtciihepbeacppaaRH
namespace Go.Proofs.Ytciihepbeacppaa
open Go.RowKit

theorem wk_all {y : Lay} {T V : CF} (hT : Rm T) (hA : RmA T) (hTl : T.ow.length ≤ 1000000) (hVl : V.ow.length ≤ 1000000) : ∀ m, WkC y T V m (wk V T m) := by
  intro m
  induction m with
  | zero => intro w s k at_ count _ _ h; omega
  | succ m ih => exact walk_step hT hVl ih (place_step hT hA hTl hVl ih)

/-! ### begin, fits -/
/-- the search's block, whatever its last search has left -/
def Sq (w : World) (q f t : Nat) (an : List (Option Nat)) (st : Int) : Prop :=
  ∃ (mid : List Value) (vv ov uv pv : Value), Ob w 62 55 q (qHead f t an ++ (mid ++ [vv, ov, uv, pv, .int .i64 st])) ∧ mid.length = 24 ∧ an.length = 24
theorem Sw.sq {w : World} {y : Lay} {T V : CF} {s : SS} (h : Sw w y T V s) : Sq w y.q y.f y.t y.an s.st := ⟨_, _, _, _, _, h.ob, by rw [opCells_len]; exact h.lb, h.la⟩

theorem Ob.some {w : World} {T n A : Nat} {xs : List Value} (h : Ob w T n A xs) {j : Nat} (hj : j < n) : (∃ u, w.cell? ⟨A, j, none⟩ = some u) ∧ w.frozen? ⟨A, j, none⟩ = false := by
  refine ⟨?_, World.ownsRow.frozenAt h j⟩
  have hl : j < xs.length := by have := h.1; omega
  exact ⟨xs[j], by rw [World.ownsRow.cellAt h j (by omega)]; simp [hl]⟩
theorem Ob.set {w : World} {T n A : Nat} {xs : List Value} (h : Ob w T n A xs) (j : Nat) (u : Value) : Ob (w.setCell ⟨A, j, none⟩ u) T n A (xs.set j u) := (World.ownsRow.stored h j u).1
theorem Ob.alloc {w : World} {T n A : Nat} {xs : List Value} (h : Ob w T n A xs) (o : Obj) : Ob (w.alloc o) T n A xs := h.of_eq (Below.heap_alloc _ _ _ (World.ownsRow.lt h _ rfl).2)

/-- many cells one behind the other -/
def setL (xs : List Value) : Nat → List Value → List Value
  | _, [] => xs
  | o, v :: r => setL (xs.set o v) (o + 1) r
theorem Ob.setCells {T n A : Nat} : ∀ (vs : List Value) (o : Nat) {w : World} {xs : List Value}, Ob w T n A xs → Ob (w.setCells A o vs) T n A (setL xs o vs) := by
  intro vs
  induction vs with
  | nil => intro o w xs h; exact h
  | cons v r ih => intro o w xs h; exact ih (o + 1) (h.set o v)
theorem setL_mid : ∀ (vs a mid c : List Value), mid.length = vs.length → setL (a ++ (mid ++ c)) a.length vs = a ++ (vs ++ c) := by
  intro vs
  induction vs with
  | nil =>
    intro a mid c h
    have : mid = [] := List.eq_nil_of_length_eq_zero h
    subst this; rfl
  | cons v r ih =>
    intro a mid c h
    cases mid with
    | nil => simp at h
    | cons m mid =>
      have h2 := ih (a ++ [v]) mid c (by simpa using h)
      simp only [setL]
      rw [List.set_append_right _ _ (Nat.le_refl _), Nat.sub_self]
      simp only [List.cons_append, List.set_cons_zero]
      have e1 : a ++ v :: (mid ++ c) = (a ++ [v]) ++ (mid ++ c) := by simp
      have e2 : a.length + 1 = (a ++ [v]).length := by simp
      rw [e1, e2, h2]
      simp
theorem Stp.setCells {F F' : List Nat} {a : World} {b : Nat} (hb : b ∈ F) : ∀ (vs : List Value) (o : Nat) {w : World}, Stp F a F' w → Stp F a F' (w.setCells b o vs) := by
  intro vs
  induction vs with
  | nil => intro o w h; exact h
  | cons v r ih => intro o w h; exact ih (o + 1) (h.setCell (Or.inl hb) v)
theorem heap_setCells_ne {b k : Nat} (hk : k ≠ b) : ∀ (vs : List Value) (o : Nat) (w : World), (w.setCells b o vs).heap[k]? = w.heap[k]? := by
  intro vs
  induction vs with
  | nil => intro o w; rfl
  | cons v r ih => intro o w; exact (ih (o + 1) _).trans (Below.heap_setCell _ _ _ _ hk)
theorem Try.info24 : (Try.prog.info? 60).map (·.size) = some 24 := by kernel_rfl

set_option maxRecDepth 100000 in
set_option maxHeartbeats 8000000 in
theorem begin_any {w : World} {q f t : Nat} {an : List (Option Nat)} {st : Int} {F T : CF} {l : List Pr} {fav fov tav tov lv : Value} (h : Sq w q f t an st) (hF : IsF w f F fav fov) (hT : IsF w t T tav tov) (hl : w.ownsRow 0 89 3 lv l.length (prCells l)) (hll : l.length ≤ 1000000) (hTl : T.ow.length ≤ 1000000)
    (hq : ∀ k, k ∈ bsF f fav fov ++ (bsF t tav tov ++ lv.ownBlock.toList) → k ≠ q) :
    Calls Try.prog 43 #[.pointer (some ⟨q, 0, none⟩), lv] w fun e w' => e = .returned (.tuple #[]) ∧ ∃ v ov pv, Sw w' ⟨q, f, t, v, an, tav, tov, fav, lv, ov, pv⟩ T (vw F l) (beg (vw F l) T an st) ∧ Stp [q] w (fpS q ov pv) w' := by
  obtain ⟨mid, vv, ov0, uv, pv0, hob, hmid, han⟩ := h
  have hq0 : w.cell? ⟨q, 0, none⟩ = some (.pointer (some ⟨f, 0, none⟩)) := by rw [World.ownsRow.cellAt hob 0 (by omega)]; rfl
  have hf5 := hF.c5
  have hf0 := hF.cls (i := 0) (by omega)
  have hf1 := hF.cls (i := 1) (by omega)
  have hf2 := hF.cls (i := 2) (by omega)
  have hf3 := hF.cls (i := 3) (by omega)
  have hf4 := hF.cls (i := 4) (by omega)
  unfold clV at hf0 hf1 hf2 hf3 hf4
  obtain ⟨n0, hn0⟩ : ∃ x, x = F.cl.getD 0 0 := ⟨_, rfl⟩
  obtain ⟨n1, hn1⟩ : ∃ x, x = F.cl.getD 1 0 := ⟨_, rfl⟩
  obtain ⟨n2, hn2⟩ : ∃ x, x = F.cl.getD 2 0 := ⟨_, rfl⟩
  obtain ⟨n3, hn3⟩ : ∃ x, x = F.cl.getD 3 0 := ⟨_, rfl⟩
  obtain ⟨n4, hn4⟩ : ∃ x, x = F.cl.getD 4 0 := ⟨_, rfl⟩
  rw [← hn0] at hf0
  rw [← hn1] at hf1
  rw [← hn2] at hf2
  rw [← hn3] at hf3
  rw [← hn4] at hf4
  obtain ⟨fao, fcap, hfav⟩ := slice_of_own hF.ap
  rw [hfav] at hf5
  have HN : Hid (n0 = F.cl.getD 0 0 ∧ n1 = F.cl.getD 1 0 ∧ n2 = F.cl.getD 2 0 ∧ n3 = F.cl.getD 3 0 ∧ n4 = F.cl.getD 4 0) := hide ⟨hn0, hn1, hn2, hn3, hn4⟩
  clear hn0 hn1 hn2 hn3 hn4
  obtain ⟨lao, lcap, hlv, hlm', hln, -⟩ := pr_of_own hl
  have hlm : lcap ≤ 9223372036854775807 := by unfold maxLen at hlm'; omega
  have hobA : ∀ o, Ob (w.alloc o) 62 55 q (qHead f t an ++ (mid ++ [vv, ov0, uv, pv0, .int .i64 st])) := fun o => Ob.of_eq hob (Below.heap_alloc _ _ _ (World.ownsRow.lt hob _ rfl).2)
  have hq50 : ∀ o, (w.alloc o).cell? ⟨q, 50, none⟩ = some vv := fun o => by
    rw [World.ownsRow.cellAt (hobA o) 50 (by omega)]
    rw [List.getElem?_append_right (by simp [qHead, opCells_len, han]), List.getElem?_append_right (by simp [qHead, opCells_len, han, hmid])]
    simp [qHead, opCells_len, han, hmid]
  have hfz : ∀ o j, (w.alloc o).frozen? ⟨q, j, none⟩ = false := fun o j => World.ownsRow.frozenAt (hobA o) j
  have HF := hide hF
  have HT := hide hT
  have HL := hide hl
  have HQ := hide hq
  have HOb := hide hob
  have HLV := hide hlv
  have HFV := hide hfav
  rw [hlv]
  clear hF hT hl hq hob hobA hlm' hlv hfav
  go_enter Try.func43, Try.ntmps43
  go_wp2_with fail
  go_region
  obtain ⟨X, hX⟩ : ∃ X, X = qHead f t an ++ (mid ++ [vv, ov0, uv, pv0, Value.int IntKind.i64 st]) := ⟨_, rfl⟩
  obtain ⟨w1, hw1⟩ : ∃ w1, w1 = ((w.alloc (Obj.cells #[Value.int IntKind.i64 n0, Value.int IntKind.i64 n1, Value.int IntKind.i64 n2, Value.int IntKind.i64 n3, Value.int IntKind.i64 n4, Value.slice fao F.ap.length fcap, Value.slice lao l.length lcap] 67)).setCell ⟨q, 50, none⟩ (Value.pointer (some ⟨w.heap.size, 0, none⟩))).drew := ⟨_, rfl⟩
  rw [← hw1]
  have hqs : q < w.heap.size := (World.ownsRow.lt (unhide HOb) _ rfl).2
  have hST1 : Stp [q] w [q] w1 := by rw [hw1]; exact (((Stp.refl [q] w).alloc _).setCell (Or.inl (by simp)) _).drew
  have hOb1 : Ob w1 62 55 q (X.set 50 (.pointer (some ⟨w.heap.size, 0, none⟩))) := by
    rw [hw1]
    have h1 := Ob.of_eq (unhide HOb) (w' := w.alloc (Obj.cells #[Value.int IntKind.i64 n0, Value.int IntKind.i64 n1, Value.int IntKind.i64 n2, Value.int IntKind.i64 n3, Value.int IntKind.i64 n4, Value.slice fao F.ap.length fcap, Value.slice lao l.length lcap] 67)) (Below.heap_alloc _ _ _ hqs)
    rw [← hX] at h1
    exact Ob.of_eq (World.ownsRow.stored h1 50 _).1 rfl
  have hbk1 : ∀ k, k < w.heap.size → k ≠ q → w1.heap[k]? = w.heap[k]? := fun k hk hne => hST1.block k hk (by simpa using hne)
  have hIsV : IsF w1 w.heap.size (vw F l) fav lv := by
    refine ⟨?_, ?_, ?_⟩
    · have h1 := World.ownsRow_lit (base := 0) (e := 67) (size := 7) w #[Value.int IntKind.i64 n0, Value.int IntKind.i64 n1, Value.int IntKind.i64 n2, Value.int IntKind.i64 n3, Value.int IntKind.i64 n4, Value.slice fao F.ap.length fcap, Value.slice lao l.length lcap] 1 (Nat.zero_le _) (by simp [maxLen]) rfl
      have h2 : Ob w1 67 7 w.heap.size [Value.int IntKind.i64 n0, Value.int IntKind.i64 n1, Value.int IntKind.i64 n2, Value.int IntKind.i64 n3, Value.int IntKind.i64 n4, Value.slice fao F.ap.length fcap, Value.slice lao l.length lcap] := by
        refine Ob.of_eq h1 ?_
        rw [hw1]
        exact Below.heap_setCell _ _ _ _ (by show w.heap.size ≠ q; omega)
      obtain ⟨e0, e1, e2, e3, e4⟩ := unhide HN
      rw [← unhide HFV, ← unhide HLV] at h2
      unfold foCells clV
      rw [show (vw F l).cl = F.cl from rfl, ← e0, ← e1, ← e2, ← e3, ← e4]
      exact h2
    · exact ownsRow_of_eq (unhide HF).ap (fun k hk => hbk1 k ((unhide HF).ap.lt k hk).2 (unhide HQ k (by simp [bsF, hk])))
    · exact ownsRow_of_eq (unhide HL) (fun k hk => hbk1 k ((unhide HL).lt k hk).2 (unhide HQ k (by simp [hk])))
  have hIsT : IsF w1 t T tav tov := (unhide HT).of_eq (fun k hk => hbk1 k ((unhide HT).lt k hk) (unhide HQ k (by simp [hk])))
  have HV1 := hide hIsV
  have HT1 := hide hIsT
  have HST1 := hide hST1
  obtain ⟨X1, hX1⟩ : ∃ X1, X1 = X.set 50 (.pointer (some ⟨w.heap.size, 0, none⟩)) := ⟨_, rfl⟩
  rw [← hX1] at hOb1
  have HX1 := hide hX1
  have HX := hide hX
  have HO1 := hide hOb1
  obtain ⟨⟨u52, hu52⟩, hz52⟩ := hOb1.some (j := 52) (by omega)
  have hOb2 := hOb1.set 52 (.int .i64 (l.length : Int))
  have hmk := run_make_row' (P := Try.prog) 22 3 (.int .i64 0) 8 Try.underlying22 Try.infoInt rfl .i64 .i64 l.length (by omega) (by omega)
  obtain ⟨⟨u51, hu51⟩, hz51⟩ := (hOb2.alloc (.cells (madeCells #[.int .i64 0] l.length) 3)).some (j := 51) (by omega)
  clear hIsV hIsT hST1 hX1 hX hOb1 hOb2 hbk1 hq0 hf5 hf0 hf1 hf2 hf3 hf4 hq50 hfz
  have HW1 := hide hw1
  clear hw1
  go_wp2_with fail
  obtain ⟨O, hO⟩ : ∃ O, O = w1.heap.size := ⟨_, rfl⟩
  obtain ⟨w3, hw3⟩ : ∃ w3, w3 = ((w1.setCell ⟨q, 52, none⟩ (.int .i64 (l.length : Int))).alloc (.cells (madeCells #[Value.int .i64 0] l.length) 3)).setCell ⟨q, 51, none⟩ (.slice (some ⟨w1.heap.size, 0, none⟩) l.length l.length) := ⟨_, rfl⟩
  rw [← hw3, ← hO]
  have hqO : q < O := by rw [hO]; exact Nat.lt_of_lt_of_le hqs (unhide HST1).size
  have hST13 : Stp [q] w1 [q] w3 := by rw [hw3]; exact (((Stp.refl [q] w1).setCell (Or.inl (by simp)) _).alloc _).setCell (Or.inl (by simp)) _
  have hST3 : Stp [q] w [q] w3 := (unhide HST1).trans hST13
  have hOb3 : Ob w3 62 55 q ((X1.set 52 (.int .i64 (l.length : Int))).set 51 (.slice (some ⟨O, 0, none⟩) l.length l.length)) := by
    rw [hw3, hO]; exact (((unhide HO1).set 52 _).alloc _).set 51 _
  have hrow3 : w3.ownsRow 0 3 1 (.slice (some ⟨O, 0, none⟩) l.length l.length) l.length (List.replicate l.length (.int .i64 0)) := by
    have h1 := World.ownsRow_lit (base := 0) (e := 3) (size := 1) (w1.setCell ⟨q, 52, none⟩ (.int .i64 (l.length : Int))) (madeCells #[Value.int .i64 0] l.length) l.length (Nat.zero_le _) (by simp [maxLen]; omega) (by simp [madeCells])
    rw [toList_madeCells_one] at h1
    have e : (w1.setCell ⟨q, 52, none⟩ (.int .i64 (l.length : Int))).heap.size = O := by rw [hO]; simp
    rw [e] at h1
    refine ownsRow_of_eq h1 (fun k hk => ?_)
    cases hk
    rw [hw3]
    exact Below.heap_setCell _ _ _ _ (by show O ≠ q; omega)
  have hsz3 : w3.heap.size = O + 1 := by rw [hw3, hO]; simp
  have hvlt : w.heap.size < O := by
    have := (unhide HV1).lt w.heap.size (by simp [bsF])
    rw [hO]; exact this
  have hIsV3 : IsF w3 w.heap.size (vw F l) fav lv := (unhide HV1).of_eq (fun k hk => hST13.block k ((unhide HV1).lt k hk) (by
    simp only [List.mem_singleton]
    simp only [bsF, List.mem_cons, List.mem_append, Option.mem_toList] at hk
    rcases hk with rfl | hk | hk
    · omega
    · exact unhide HQ k (by simp [bsF, hk])
    · exact unhide HQ k (by simp [hk])))
  have hIsT3 : IsF w3 t T tav tov := (unhide HT1).of_eq (fun k hk => hST13.block k ((unhide HT1).lt k hk) (by
    simp only [List.mem_singleton]
    exact unhide HQ k (by simp [hk])))
  have HV3 := hide hIsV3
  have HT3 := hide hIsT3
  have HST3 := hide hST3
  have HO3 := hide hOb3
  have HR3 := hide hrow3
  have HO := hide hO
  clear hIsV3 hIsT3 hST3 hST13 hOb3 hrow3 hO hw3 hu52 hz52 hu51 hz51 hmk HW1 HT1 HV1 HO1 HST1
  go_loopw [4] (fun i wr => ∃ k : Nat, k ≤ l.length ∧ i = .int .i64 k ∧ Hid (wr.ownsRow 0 3 1 (.slice (some ⟨O, 0, none⟩) l.length l.length) l.length (List.replicate k (.int .i64 (-1)) ++ List.replicate (l.length - k) (.int .i64 0))) ∧ Hid (Stp [O] w3 [O] wr)) (fun i _ => l.length - (intOf i).toNat)
  case atStart => exact ⟨0, Nat.zero_le _, rfl, hide (by simpa using unhide HR3), hide (Stp.refl _ _)⟩
  case round =>
    obtain ⟨k, hk, rfl, hrow, hst⟩ := hrel
    have hObr : Ob wr 62 55 q ((X1.set 52 (.int .i64 (l.length : Int))).set 51 (.slice (some ⟨O, 0, none⟩) l.length l.length)) := (unhide HO3).of_eq ((unhide hst).block q (by omega) (by simp; omega))
    have hX1l : X1.length = 55 := by
      have h1 := (unhide HO3).1
      simp only [List.length_set] at h1
      omega
    have h51 : wr.cell? ⟨q, 51, none⟩ = some (.slice (some ⟨O, 0, none⟩) l.length l.length) := by
      rw [World.ownsRow.cellAt hObr 51 (by omega), List.getElem?_set_self (by simp; omega)]
    by_cases hlt : k < l.length
    · have hck : wr.cell? ⟨O, k, none⟩ = some (.int .i64 0) := by
        rw [(unhide hrow).cellAt k (by omega), List.getElem?_append_right (by simp), List.length_replicate, Nat.sub_self, List.getElem?_replicate, if_pos (by omega)]
      have hfk := (unhide hrow).frozenAt k
      have hnew := ((unhide hrow).stored k (.int .i64 (-1))).1
      have e : (List.replicate k (Value.int .i64 (-1)) ++ List.replicate (l.length - k) (Value.int .i64 0)).set k (Value.int .i64 (-1)) = List.replicate (k + 1) (Value.int .i64 (-1)) ++ List.replicate (l.length - (k + 1)) (Value.int .i64 0) := by
        rw [List.set_append_right k _ (by simp)]
        simp only [List.length_replicate, Nat.sub_self]
        rw [show l.length - k = (l.length - (k + 1)) + 1 by omega, List.replicate_succ, List.set_cons_zero, List.replicate_succ', List.append_assoc]
        rfl
      rw [e] at hnew
      have HNew := hide hnew
      have HSt := hide ((unhide hst).setCell (p := ⟨O, k, none⟩) (Or.inl (by simp)) (.int .i64 (-1)))
      clear hnew hObr hrow hst
      go_wp2_with fail
      go_roundw
      case rel => exact ⟨k + 1, by omega, by go_num, HNew, HSt⟩
      case measure => simp [intOf]; omega
    · have hd : decide ((k : Int) < (l.length : Int)) = false := by simp; omega
      have hkl : k = l.length := by omega
      subst hkl
      have hq1 : wr.cell? ⟨q, 1, none⟩ = some (.pointer (some ⟨t, 0, none⟩)) := by
        rw [World.ownsRow.cellAt hObr 1 (by omega), List.getElem?_set_ne (by omega), List.getElem?_set_ne (by omega), unhide HX1, List.getElem?_set_ne (by omega), unhide HX]
        rfl
      have hIsTr : IsF wr t T tav tov := (unhide HT3).of_eq (fun k hk => (unhide hst).block k ((unhide HT3).lt k hk) (by
        simp only [List.mem_singleton]
        rintro rfl
        have := (unhide HT).lt _ hk
        omega))
      have hT6 := hIsTr.c6
      obtain ⟨tao, tcap, htov, htm', htn, -⟩ := pr_of_own hIsTr.ow
      have htm : tcap ≤ 9223372036854775807 := by unfold maxLen at htm'; omega
      rw [htov] at hT6
      have hmk := run_make_row' (P := Try.prog) 47 4 (.bool false) 1 Try.underlying47 Try.infoBool rfl .i64 .i64 T.ow.length (by omega) (by omega)
      obtain ⟨⟨u53, hu53⟩, hz53⟩ := (hObr.alloc (.cells (madeCells #[.bool false] T.ow.length) 4)).some (j := 53) (by omega)
      have HTov := hide htov
      have HTr := hide hIsTr
      have hOb4 := (hObr.alloc (.cells (madeCells #[Value.bool false] T.ow.length) 4)).set 53 (Value.slice (some ⟨wr.heap.size, 0, none⟩) T.ow.length T.ow.length)
      have hRange : ((wr.alloc (.cells (madeCells #[Value.bool false] T.ow.length) 4)).setCell ⟨q, 53, none⟩ (Value.slice (some ⟨wr.heap.size, 0, none⟩) T.ow.length T.ow.length)).rangeAt q 2 (opCells an) := by
        intro j v hj
        have hj24 : j < 24 := by
          have := (List.getElem?_eq_some_iff.1 hj).1
          rw [opCells_len, han] at this; exact this
        rw [World.ownsRow.cellAt hOb4 (2 + j) (by omega), List.getElem?_set_ne (by omega), List.getElem?_set_ne (by omega), List.getElem?_set_ne (by omega), unhide HX1, List.getElem?_set_ne (by omega), unhide HX]
        rw [List.getElem?_append_left (by simp [qHead, opCells_len]; omega)]
        unfold qHead
        rw [List.getElem?_append_right (by simp)]
        simpa [show 2 + j - 2 = j by omega] using hj
      have hThere : ((wr.alloc (.cells (madeCells #[Value.bool false] T.ow.length) 4)).setCell ⟨q, 53, none⟩ (Value.slice (some ⟨wr.heap.size, 0, none⟩) T.ow.length T.ow.length)).there q 26 (opCells an).toArray.size := by
        intro j hj
        have hj24 : j < 24 := by simpa [opCells_len, han] using hj
        obtain ⟨⟨u, hu⟩, hz⟩ := hOb4.some (j := 26 + j) (by omega)
        exact ⟨by rw [hu]; rfl, hz⟩
      have hOb5 := Ob.setCells (opCells an) 26 hOb4
      have hInf : (Try.prog.info? 60).map (·.size) = some (opCells an).length := by rw [opCells_len, han]; exact Try.info24
      have hInf2 : (Try.prog.info? 60).map (·.size) = some (opCells an).toArray.size := by rw [List.size_toArray, opCells_len, han]; exact Try.info24
      have hOne : (opCells an).toArray.all (·.oneCell') = true := all_oneCell_toArray (by
        intro v hv
        obtain ⟨o, _, rfl⟩ := List.mem_map.1 hv
        rfl)
      have HR := hide hRange
      have HTh := hide hThere
      have HI := hide hInf
      have HI2 := hide hInf2
      have HOne := hide hOne
      have HOb5 := hide hOb5
      obtain ⟨AN, hAN⟩ : ∃ AN, AN = opCells an := ⟨_, rfl⟩
      rw [← hAN] at HR HTh HI HI2 HOne HOb5
      have HAN := hide hAN
      clear htov hObr hIsTr htm' hOb4 hRange hThere hInf hInf2 hOne hOb5 hAN
      go_wp2_with (first | refine wpList_load_mid rfl 60 (.tmp 66) rfl q 2 rfl AN _ (unhide HR) Try.underlying60 rfl (unhide HI) ?_ | refine wpList_store_mid rfl 60 (.tmp 69) (.tmp 67) rfl q 26 AN.toArray rfl rfl (unhide HTh) (unhide HI2) (unhide HOne) ?_)
      go_end0
      rw [← unhide HLV]
      have hql : (qHead f t an).length = 26 := by simp [qHead, opCells_len, han]
      have hL3 : O < wr.heap.size := by have := (unhide hst).size; omega
      have hobF : Ob (((wr.alloc (Obj.cells (madeCells #[Value.bool false] T.ow.length) 4)).setCell ⟨q, 53, none⟩ (Value.slice (some ⟨wr.heap.size, 0, none⟩) T.ow.length T.ow.length)).setCells q 26 AN) 62 55 q (qCells f t w.heap.size an (beg (vw F l) T an st) (.slice (some ⟨O, 0, none⟩) l.length l.length) (.slice (some ⟨wr.heap.size, 0, none⟩) T.ow.length T.ow.length)) := by
        have h5 := unhide HOb5
        rw [unhide HX1, unhide HX] at h5
        have hset : ∀ (tl : List Value) (j : Nat) (u : Value), (qHead f t an ++ (mid ++ tl)).set (50 + j) u = qHead f t an ++ (mid ++ tl.set j u) := by
          intro tl j u
          rw [List.set_append_right _ _ (by omega), hql, List.set_append_right _ _ (by omega), hmid, show 50 + j - 26 - 24 = j by omega]
        have s0 := hset [vv, ov0, uv, pv0, Value.int IntKind.i64 st] 0 (.pointer (some ⟨w.heap.size, 0, none⟩))
        have s1 := hset [.pointer (some ⟨w.heap.size, 0, none⟩), ov0, uv, pv0, Value.int IntKind.i64 st] 2 (.int .i64 (l.length : Int))
        have s2 := hset [.pointer (some ⟨w.heap.size, 0, none⟩), ov0, .int .i64 (l.length : Int), pv0, Value.int IntKind.i64 st] 1 (.slice (some ⟨O, 0, none⟩) l.length l.length)
        have s3 := hset [.pointer (some ⟨w.heap.size, 0, none⟩), .slice (some ⟨O, 0, none⟩) l.length l.length, .int .i64 (l.length : Int), pv0, Value.int IntKind.i64 st] 3 (Value.slice (some ⟨wr.heap.size, 0, none⟩) T.ow.length T.ow.length)
        simp only [List.set_cons_zero, List.set_cons_succ, Nat.add_zero, Nat.reduceAdd] at s0 s1 s2 s3
        rw [s0, s1, s2, s3, show (26 : Nat) = (qHead f t an).length from hql.symm, setL_mid AN (qHead f t an) mid _ (by rw [unhide HAN, opCells_len]; omega)] at h5
        rw [show 26 = (qHead f t an).length from hql.symm]
        rw [unhide HAN] at h5 ⊢
        exact h5
      obtain ⟨w5, hw5⟩ : ∃ w5, w5 = (((wr.alloc (Obj.cells (madeCells #[Value.bool false] T.ow.length) 4)).setCell ⟨q, 53, none⟩ (Value.slice (some ⟨wr.heap.size, 0, none⟩) T.ow.length T.ow.length)).setCells q 26 AN) := ⟨_, rfl⟩
      rw [← hw5] at hobF ⊢
      have hbk : ∀ k, k < wr.heap.size → k ≠ q → w5.heap[k]? = wr.heap[k]? := by
        intro k hk hne
        rw [hw5, heap_setCells_ne hne, Below.heap_setCell _ _ _ _ hne, Below.heap_alloc _ _ _ hk]
      have hbk3 : ∀ k, k < O → k ≠ q → w5.heap[k]? = w3.heap[k]? := fun k hk hne => (hbk k (by omega) hne).trans ((unhide hst).block k (by omega) (by simp; omega))
      have hlow : ∀ k, k ∈ bsF t tav tov → k < w.heap.size ∧ k ≠ q := fun k hk => ⟨(unhide HT).lt k hk, unhide HQ k (by simp [hk])⟩
      have hlowv : ∀ k, k ∈ bsF w.heap.size fav lv → k ≤ w.heap.size ∧ k ≠ q := by
        intro k hk
        simp only [bsF, List.mem_cons, List.mem_append, Option.mem_toList] at hk
        rcases hk with rfl | hk | hk
        · exact ⟨Nat.le_refl _, by omega⟩
        · exact ⟨Nat.le_of_lt ((unhide HF).ap.lt k hk).2, unhide HQ k (by simp [bsF, hk])⟩
        · exact ⟨Nat.le_of_lt ((unhide HL).lt k hk).2, unhide HQ k (by simp [hk])⟩
      refine ⟨rfl, w.heap.size, .slice (some ⟨O, 0, none⟩) l.length l.length, .slice (some ⟨wr.heap.size, 0, none⟩) T.ow.length T.ow.length, ⟨hobF, han, han, ?_, ?_, ?_, ?_, ?_, ?_, ?_⟩, ?_⟩
      · have h1 := unhide hrow
        rw [Nat.sub_self] at h1
        simp only [List.replicate_zero, List.append_nil] at h1
        have h2 : (beg (vw F l) T an st).ot = List.replicate l.length none := rfl
        rw [h2]
        simp only [opCells, List.map_replicate, List.length_replicate]
        exact ownsRow_of_eq h1 (fun k hk => by cases hk; exact hbk O hL3 (by omega))
      · have h1 := World.ownsRow_lit (base := 0) (e := 4) (size := 1) wr (madeCells #[Value.bool false] T.ow.length) T.ow.length (Nat.zero_le _) (by simp [maxLen]; omega) (by simp [madeCells])
        rw [toList_madeCells_one] at h1
        have h2 : (beg (vw F l) T an st).pl = List.replicate T.ow.length false := rfl
        rw [h2]
        simp only [List.map_replicate, List.length_replicate]
        refine ownsRow_of_eq h1 (fun k hk => ?_)
        cases hk
        have hne : wr.heap.size ≠ q := by omega
        rw [hw5, heap_setCells_ne hne]
        exact Below.heap_setCell _ _ _ _ hne
      · show [q, O, wr.heap.size].Nodup
        simp
        omega
      · exact (unhide HT3).of_eq (fun k hk => hbk3 k (by have := (hlow k hk).1; omega) (hlow k hk).2)
      · exact (unhide HV3).of_eq (fun k hk => hbk3 k (by have := (hlowv k hk).1; omega) (hlowv k hk).2)
      · intro k hk
        have := hlow k hk
        show k ∉ [q, O, wr.heap.size]
        simp
        omega
      · intro k hk
        have := hlowv k hk
        show k ∉ [q, O, wr.heap.size]
        simp
        omega
      · have h1 := unhide HST3
        have h2 := unhide hst
        have h3 : Stp [q] wr [q] w5 := by rw [hw5]; exact Stp.setCells (by simp) _ _ (((Stp.refl [q] wr).alloc _).setCell (Or.inl (by simp)) _)
        refine ⟨h3.os.trans (h2.os.trans h1.os), h3.tape.trans (h2.tape.trans h1.tape), h3.output.trans (h2.output.trans h1.output), Nat.le_trans h1.size (Nat.le_trans h2.size h3.size), fun k hk hF => ?_, fun k hk => ?_⟩
        · have hne : k ≠ q := by simpa using hF
          exact (hbk3 k (by omega) hne).trans (h1.block k hk hF)
        · have hk' : k ∈ [q, O, wr.heap.size] := hk
          simp at hk'
          simp
          omega
end Go.Proofs.Ytciihepbeacppaa

namespace Go.Proofs.Ytciihepbeacppaa
open Go.RowKit

/-! ### fits -/
theorem beg_wf {V T : CF} {an : List (Option Nat)} {st : Int} (han : an.length = 24) : Wf V T (beg V T an st) ∧ (uP (beg V T an st)).length + 0 = T.ow.length := by
  have hup : uP (beg V T an st) = List.range T.ow.length := by
    unfold uP beg
    simp only [List.length_replicate]
    rw [List.filter_eq_self]
    intro k hk
    have := List.mem_range.1 hk
    simp [List.getD_eq_getElem?_getD, this]
  have hfr : frL (beg V T an st) = List.range V.ow.length := by
    unfold frL beg
    simp only [List.length_replicate]
    rw [List.filter_eq_self]
    intro k hk
    have := List.mem_range.1 hk
    simp [List.getD_eq_getElem?_getD, this]
  exact ⟨⟨by simp [beg], by simp [beg], han, by rw [hfr]; simp [beg]⟩, by rw [hup]; simp⟩

/-- all that a search works on, as it stands between two tries -/
structure Se (w : World) (q f t : Nat) (an : List (Option Nat)) (F T : CF) (fav fov tav tov : Value) (st : Int) : Prop where
  sq : Sq w q f t an st
  ff : IsF w f F fav fov
  ft : IsF w t T tav tov
  nf : ∀ k ∈ bsF f fav fov, k ≠ q
  nt : ∀ k ∈ bsF t tav tov, k ≠ q

set_option maxRecDepth 100000 in
set_option maxHeartbeats 4000000 in
theorem fits_any {w : World} {q f t : Nat} {an : List (Option Nat)} {st : Int} {F T : CF} {l : List Pr} {fav fov tav tov lv : Value} (h : Se w q f t an F T fav fov tav tov st) (hl : w.ownsRow 0 89 3 lv l.length (prCells l)) (hlq : ∀ k, lv.ownBlock = some k → k ≠ q) (hll : l.length ≤ 1000000) (hTl : T.ow.length ≤ 1000000) (hR : Rm T) (hA : RmA T) :
    Calls Try.prog 32 #[.pointer (some ⟨q, 0, none⟩), lv] w fun e w' => e = .returned (.bool (fit (vw F l) T an st).1) ∧ ∃ v ov pv, Sw w' ⟨q, f, t, v, an, tav, tov, fav, lv, ov, pv⟩ T (vw F l) (fit (vw F l) T an st).2 ∧ Stp [q] w (fpS q ov pv) w' ∧ (∀ k ∈ fpS q ov pv, k = q ∨ w.heap.size ≤ k) := by
  have HB := hide (begin_any h.sq h.ff h.ft hl hll hTl (fun k hk => by
    simp only [List.mem_append, Option.mem_toList] at hk
    rcases hk with hk | hk | hk
    · exact h.nf k hk
    · exact h.nt k hk
    · exact hlq k hk))
  have han : an.length = 24 := by obtain ⟨_, _, _, _, _, _, _, h2⟩ := h.sq; exact h2
  have HP := hide (fun y => place_step (y := y) (T := T) (V := vw F l) hR hA hTl hll (m := l.length + 1) (wk_all hR hA hTl hll _))
  obtain ⟨hwf, hup⟩ := beg_wf (V := vw F l) (T := T) (an := an) (st := st) han
  have HW := hide hwf
  have HU := hide hup
  clear h hl hlq hwf hup
  go_enter Try.func32, Try.ntmps32
  go_wp2_with fail
  refine (unhide HB).mono ?_
  rintro e w1 ⟨rfl, v, ov, pv, hS1, hT1⟩
  have HS1 := hide hS1
  have HT1 := hide hT1
  clear hS1 hT1
  go_wp2_with fail
  refine (unhide HP ⟨q, f, t, v, an, tav, tov, fav, lv, ov, pv⟩ w1 (beg (vw F l) T an st) 0 (unhide HS1) (unhide HW) (by show l.length < l.length + 1; omega) (unhide HU)).mono ?_
  rintro e w2 ⟨rfl, hS2, hT2⟩
  have HS2 := hide hS2
  have HT2 := hide hT2
  clear hS2 hT2
  go_wp2_with fail
  go_ret
  refine ⟨rfl, v, ov, pv, unhide HS2, (unhide HT1).trans (unhide HT2), fun k hk => ?_⟩
  rcases (unhide HT1).foot k hk with h1 | h1
  · exact Or.inl (by simpa using h1)
  · exact Or.inr h1

/-! ### inner, isWhole -/
set_option maxRecDepth 100000 in
theorem inner_any (i : Nat) (hi : i ≤ 1000000) (w : World) : Calls Try.prog 47 #[.int .i64 i] w fun e w' => e = .returned (.tuple #[.int .i64 ((24 + 2 * i : Nat) : Int), .int .i64 ((25 + 2 * i : Nat) : Int)]) ∧ w' = w := by
  go_enter Try.func47, Try.ntmps47
  go_wp2_with fail
  refine bodyPost_ret (v := .tuple #[.int .i64 ((24 + 2 * i : Nat) : Int), .int .i64 ((25 + 2 * i : Nat) : Int)]) ?_ rfl ⟨rfl, rfl⟩
  simp [results, Try.results47, go_sem]
  omega

set_option maxRecDepth 100000 in
set_option maxHeartbeats 4000000 in
theorem whole_any {w : World} {q f t : Nat} {an : List (Option Nat)} {st : Int} {F : CF} {l : List Pr} {fav fov lv : Value} (h : Sq w q f t an st) (hF : IsF w f F fav fov) (hl : w.ownsRow 0 89 3 lv l.length (prCells l)) {i : Nat} (hi : i < l.length) :
    Calls Try.prog 45 #[.pointer (some ⟨q, 0, none⟩), lv, .int .i64 i] w fun e w' => e = .returned (.bool (whB F.ow.length l i)) ∧ w' = w := by
  obtain ⟨mid, vv, ov0, uv, pv0, hob, hmid, han⟩ := h
  have hq0 : w.cell? ⟨q, 0, none⟩ = some (.pointer (some ⟨f, 0, none⟩)) := by rw [World.ownsRow.cellAt hob 0 (by omega)]; rfl
  have hf6 := hF.c6
  obtain ⟨fao, fcap, hfov, hfm', hfn, -⟩ := pr_of_own hF.ow
  have hfm : fcap ≤ 9223372036854775807 := by unfold maxLen at hfm'; omega
  rw [hfov] at hf6
  obtain ⟨g, cap, hlv, hlm, hln⟩ := own_formP hl hi
  rw [hlv] at hl ⊢
  obtain ⟨hk, -, -⟩ := own_cells hl hi
  obtain ⟨kd, hkd⟩ : ∃ kd, kd = (l.getD i pr0).k := ⟨_, rfl⟩
  rw [← hkd] at hk
  have HE : Hid (whB F.ow.length l i = (decide (i < F.ow.length) && (kd == 4))) := hide (by unfold whB; rw [hkd])
  clear hob hfov hfm' hlv hl hkd hF
  by_cases hlt : i < F.ow.length
  · have hd : decide ((i : Int) < (F.ow.length : Int)) = true := by simp; omega
    have h4 : ((kd : Int) == 4) = (kd == 4) := by rw [Bool.eq_iff_iff, beq_iff_eq, beq_iff_eq]; omega
    go_enter Try.func45, Try.ntmps45
    go_wp2_with fail
    go_ret
    exact ⟨by rw [unhide HE]; simp [hlt], rfl⟩
  · have hd : decide ((i : Int) < (F.ow.length : Int)) = false := by simp; omega
    go_enter Try.func45, Try.ntmps45
    go_wp2_with fail
    go_ret
    exact ⟨by rw [unhide HE]; simp [hlt], rfl⟩
end Go.Proofs.Ytciihepbeacppaa

namespace Go.Proofs.Ytciihepbeacppaa
open Go.RowKit

/-! ### cut -/
theorem prCells_set0 {l : List Pr} {i : Nat} (hi : i < l.length) (k : Nat) : (prCells l).set (i * 3) (.int .i64 (k : Int)) = prCells (l.set i ⟨k, (l.getD i pr0).l, (l.getD i pr0).r⟩) := by
  induction l generalizing i with
  | nil => simp at hi
  | cons x l ih =>
    have hx : ∀ y : Pr, prCells (y :: l) = [Value.int .i64 y.k, .int .i64 y.l, .int .i64 y.r] ++ prCells l := fun y => rfl
    cases i with
    | zero => rw [hx, List.set_cons_zero, hx]; rfl
    | succ i =>
      have h1 := ih (i := i) (by simpa using hi)
      rw [hx, List.set_append_right _ _ (by simp; omega), List.set_cons_succ]
      show _ = [Value.int .i64 x.k, .int .i64 x.l, .int .i64 x.r] ++ prCells _
      rw [show (i + 1) * 3 - [Value.int .i64 (x.k : Int), .int .i64 (x.l : Int), .int .i64 (x.r : Int)].length = i * 3 by simp; omega, h1]
      rfl
theorem prCells_set2 {l : List Pr} {i : Nat} (hi : i < l.length) (r : Nat) : (prCells l).set (i * 3 + 2) (.int .i64 (r : Int)) = prCells (l.set i ⟨(l.getD i pr0).k, (l.getD i pr0).l, r⟩) := by
  induction l generalizing i with
  | nil => simp at hi
  | cons x l ih =>
    have hx : ∀ y : Pr, prCells (y :: l) = [Value.int .i64 y.k, .int .i64 y.l, .int .i64 y.r] ++ prCells l := fun y => rfl
    cases i with
    | zero => rw [hx, List.set_cons_zero, hx]; rfl
    | succ i =>
      have h1 := ih (i := i) (by simpa using hi)
      rw [hx, List.set_append_right _ _ (by simp; omega), List.set_cons_succ]
      show _ = [Value.int .i64 x.k, .int .i64 x.l, .int .i64 x.r] ++ prCells _
      rw [show (i + 1) * 3 + 2 - [Value.int .i64 (x.k : Int), .int .i64 (x.l : Int), .int .i64 (x.r : Int)].length = i * 3 + 2 by simp; omega, h1]
      rfl
theorem prCells_one (l : List Pr) : ∀ u ∈ prCells l, u.oneCell' = true := by
  intro u hu
  simp only [prCells, List.mem_flatMap] at hu
  obtain ⟨a, _, ha⟩ := hu
  simp only [prC, List.mem_cons, List.not_mem_nil, or_false] at ha
  rcases ha with rfl | rfl | rfl <;> rfl
theorem Try.infoPair : (Try.prog.info? 89).map (fun i => (i.zero, i.size, i.bytes)) = some (some (.agg #[.int .i64 0, .int .i64 0, .int .i64 0]), 3, 24) := by kernel_rfl
set_option maxRecDepth 100000 in
set_option maxHeartbeats 8000000 in
theorem cut_any {w : World} {l : List Pr} {lv : Value} (hl : w.ownsRow 0 89 3 lv l.length (prCells l)) {i size : Nat} (hi : i < l.length) (hll : l.length ≤ 10000) (hsz : size = 1 ∨ size = 2 ∨ size = 3) :
    Calls Try.prog 35 #[lv, .int .i64 i, .int .i64 size] w fun e w' => ∃ v, e = .returned v ∧ w'.ownsRow w.heap.size 89 3 v (cutA l i size).length (prCells (cutA l i size)) ∧ Below w.heap.size w w' := by
  obtain ⟨i0, hi0, hz0, hz1, hz2⟩ := info_parts Try.infoPair
  have HL := hide hl
  have HLst := hide (Lst.of_own hl (by omega))
  obtain ⟨lg, lcap, hlv, hlm, hln⟩ := own_formP hl hi
  have HLV := hide hlv
  have HIn := hide (inner_any i (by omega) w)
  rw [hlv]
  clear hl hlv
  go_enter Try.func35, Try.ntmps35
  go_wp2_with fail
  refine (unhide HIn).mono ?_
  rintro e w1 ⟨rfl, rfl⟩
  obtain ⟨near, hnear⟩ : ∃ near : Nat, near = 24 + 2 * i := ⟨_, rfl⟩
  obtain ⟨far, hfar⟩ : ∃ far : Nat, far = 25 + 2 * i := ⟨_, rfl⟩
  rw [← hnear, ← hfar]
  have hrow0 := World.ownsRow_lit (base := w1.heap.size) (e := 89) (size := 3) w1 #[] 0 (Nat.le_refl _) (by simp [maxLen]) rfl
  have HR0 := hide hrow0
  have HLst1 := hide ((unhide HLst).below ((Below.refl w1.heap.size w1).alloc (Nat.le_refl _) (.cells #[] 89)))
  rw [unhide HLV] at HLst1
  have HN := hide hnear
  have HFa := hide hfar
  have hn1 : near ≤ 30000 := by omega
  have hf1 : far ≤ 30000 := by omega
  clear hrow0 hnear hfar
  go_wp2_with (at_builtin; refine wpList_app_lst rfl (.tmp 16) (.tmp 17) 65 rfl w1.heap.size 89 i0 _ 3 24 Try.underlying65 hi0 hz0 hz1 hz2 rfl (by decide) _ 0 [] rfl (unhide HR0) _ l.length (prCells l) rfl (unhide HLst1) (prCells_one l) (by omega) (by decide) (by simp) ?_)
  intro v1 wA hown1 hgrow1
  have hbA : Below w1.heap.size w1 wA := ((Below.refl w1.heap.size w1).alloc (Nat.le_refl _) _).grown hgrow1 (by simp) (fun k e => by cases e; exact Nat.le_refl _)
  obtain ⟨g, cap, hv1, hcm, hcn⟩ := own_formP (rowBase hown1 (Nat.zero_le _)) hi
  subst hv1
  obtain ⟨hc0, -, hc2⟩ := own_cells (rowBase hown1 (Nat.zero_le _)) hi
  obtain ⟨kd, hkd⟩ : ∃ kd, kd = (l.getD i pr0).k := ⟨_, rfl⟩
  obtain ⟨rr, hrr⟩ : ∃ rr, rr = (l.getD i pr0).r := ⟨_, rfl⟩
  rw [← hkd] at hc0
  rw [← hrr] at hc2
  have hz := hown1.frozenAt (i * 3)
  have hrowB := (hown1.stored (i * 3) (.int .i64 3)).1
  rw [show (Value.int .i64 3) = Value.int .i64 ((3 : Nat) : Int) from rfl, prCells_set0 hi] at hrowB
  have hlB : (l.set i ⟨3, (l.getD i pr0).l, (l.getD i pr0).r⟩).length = l.length := by simp
  have hiB : i < (l.set i ⟨3, (l.getD i pr0).l, (l.getD i pr0).r⟩).length := by rw [hlB]; exact hi
  have hrowB' : (wA.setCell ⟨g, i * 3, none⟩ (.int .i64 3)).ownsRow w1.heap.size 89 3 (.slice (some ⟨g, 0, none⟩) l.length cap) (l.set i ⟨3, (l.getD i pr0).l, (l.getD i pr0).r⟩).length (prCells (l.set i ⟨3, (l.getD i pr0).l, (l.getD i pr0).r⟩)) := by rw [hlB]; exact hrowB
  have hBg : w1.heap.size ≤ g := (hown1.lt g rfl).1
  have hbB : Below w1.heap.size w1 (wA.setCell ⟨g, i * 3, none⟩ (.int .i64 3)) := hbA.setCell hBg _
  have HB := hide hbB
  have HRB := hide hrowB'
  have HKD := hide hkd
  have HRR := hide hrr
  have HBG := hide hBg
  have HGr := hide hgrow1
  rcases hsz with rfl | hsz
  · clear hown1 hbA hkd hrr hrowB hrowB' hbB hgrow1 hlB hiB
    go_wp2_with fail
    refine bodyPost_ret (v := .slice (some ⟨g, 0, none⟩) l.length cap) (by simp [results, Try.results35, go_sem]) rfl ⟨_, rfl, ?_, unhide HB⟩
    unfold cutA
    rw [if_pos rfl]
    have := unhide HRB
    simp only [List.length_set] at this ⊢
    exact this
  · have hc2B : (wA.setCell ⟨g, i * 3, none⟩ (.int .i64 3)).cell? ⟨g, i * 3 + 2, none⟩ = some (.int .i64 rr) := by
      rw [World.cell?_setCell_other _ _ _ _ (by simp)]; exact hc2
    have hzB : (wA.setCell ⟨g, i * 3, none⟩ (.int .i64 3)).frozen? ⟨g, i * 3 + 2, none⟩ = false := hrowB.frozenAt (i * 3 + 2)
    have hrowC := (hrowB.stored (i * 3 + 2) (.int .i64 (near : Int))).1
    rw [prCells_set2 hiB] at hrowC
    have eC : (l.set i ⟨3, (l.getD i pr0).l, (l.getD i pr0).r⟩).set i ⟨((l.set i ⟨3, (l.getD i pr0).l, (l.getD i pr0).r⟩).getD i pr0).k, ((l.set i ⟨3, (l.getD i pr0).l, (l.getD i pr0).r⟩).getD i pr0).l, near⟩ = l.set i ⟨3, (l.getD i pr0).l, near⟩ := by
      rw [List.set_set, getD_set _ _ _ _ _ hi, if_pos rfl]
    rw [eC] at hrowC
    replace hrowC : ((wA.setCell ⟨g, i * 3, none⟩ (.int .i64 3)).setCell ⟨g, i * 3 + 2, none⟩ (.int .i64 (near : Int))).ownsRow w1.heap.size 89 3 (.slice (some ⟨g, 0, none⟩) l.length cap) l.length (prCells (l.set i ⟨3, (l.getD i pr0).l, near⟩)) := hrowC
    have hbC : Below w1.heap.size w1 ((wA.setCell ⟨g, i * 3, none⟩ (.int .i64 3)).setCell ⟨g, i * 3 + 2, none⟩ (.int .i64 (near : Int))) := hbB.setCell hBg _
    have HRC := hide hrowC
    have HBC := hide hbC
    have hs1 : ((size : Int) == 1) = false := by rw [beq_eq_false_iff_ne]; omega
    clear hown1 hbA hkd hrr hrowB hrowB' hbB hgrow1 hlB hiB eC hrowC hbC
    rcases hsz with rfl | rfl
    · go_wp2_with (at_builtin; refine wpList_app1 _ rfl (.tmp 38) (.tmp 42) 65 rfl w1.heap.size 89 i0 _ 3 24 Try.underlying65 hi0 hz0 hz1 hz2 rfl (by decide) _ l.length (prCells (l.set i ⟨3, (l.getD i pr0).l, near⟩)) rfl ((unhide HRC).alloc _) ⟨_, 0, none⟩ 1 [.int .i64 3, .int .i64 near, .int .i64 rr] rfl rfl ?c1 ?c2 ?c3 ?c4 ?c5 ?_)
      case c1 => exact new_cellsR _ _ (by simp) _ _
      case c2 => exact prCells_one [⟨3, near, rr⟩]
      case c3 => omega
      case c4 => omega
      case c5 => have := (unhide HBC).size; simp at this ⊢; omega
      intro g2 cap2 wD hownD hgrowD hblkD
      have hbD : Below w1.heap.size w1 wD := ((unhide HBC).alloc (unhide HBC).size _).grown hgrowD (by have := (unhide HBC).size; simp [World.setCell] at this ⊢; omega) (fun k e => by cases e; exact unhide HBG)
      have HD := hide hownD
      have HBD := hide hbD
      clear hownD hgrowD hblkD hbD
      go_wp2_with fail
      refine bodyPost_ret (v := .slice (some ⟨g2, 0, none⟩) (l.length + 1) cap2) (by simp [results, Try.results35, go_sem]) rfl ⟨_, rfl, ?_, unhide HBD⟩
      unfold cutA
      rw [if_neg (by decide), if_pos rfl, ← unhide HN, ← unhide HRR, prCells_app, pr_at hi]
      have := unhide HD
      simp only [List.length_append, List.length_set, List.length_singleton]
      exact this
    · go_wp2_with (at_builtin; refine wpList_app1 _ rfl (.tmp 44) (.tmp 48) 65 rfl w1.heap.size 89 i0 _ 3 24 Try.underlying65 hi0 hz0 hz1 hz2 rfl (by decide) _ l.length (prCells (l.set i ⟨3, (l.getD i pr0).l, near⟩)) rfl ((unhide HRC).alloc _) ⟨_, 0, none⟩ 1 [.int .i64 4, .int .i64 near, .int .i64 far] rfl rfl ?c1 ?c2 ?c3 ?c4 ?c5 ?_)
      case c1 => exact new_cellsR _ _ (by simp) _ _
      case c2 => exact prCells_one [⟨4, near, far⟩]
      case c3 => omega
      case c4 => omega
      case c5 => have := (unhide HBC).size; simp at this ⊢; omega
      intro g2 cap2 wD hownD hgrowD hblkD
      have hbD : Below w1.heap.size w1 wD := ((unhide HBC).alloc (unhide HBC).size _).grown hgrowD (by have := (unhide HBC).size; simp [World.setCell] at this ⊢; omega) (fun k e => by cases e; exact unhide HBG)
      have HD := hide hownD
      have HBD := hide hbD
      clear hownD hgrowD hblkD hbD
      go_wp2_with (at_builtin; refine wpList_app1 _ rfl (.tmp 50) (.tmp 54) 65 rfl w1.heap.size 89 i0 _ 3 24 Try.underlying65 hi0 hz0 hz1 hz2 rfl (by decide) _ (l.length + 1) _ rfl ((unhide HD).alloc _) ⟨_, 0, none⟩ 1 [.int .i64 3, .int .i64 far, .int .i64 rr] rfl rfl ?d1 ?d2 ?d3 ?d4 ?d5 ?_)
      case d1 => exact new_cellsR _ _ (by simp) _ _
      case d2 => exact prCells_one [⟨3, far, rr⟩]
      case d3 => omega
      case d4 => omega
      case d5 => have := (unhide HBD).size; simp at this ⊢; omega
      intro g3 cap3 wE hownE hgrowE hblkE
      have hbE : Below w1.heap.size w1 wE := ((unhide HBD).alloc (unhide HBD).size _).grown hgrowE (by have := (unhide HBD).size; simp; omega) (fun k e => ((unhide HD).lt k e).1)
      have HE := hide hownE
      have HBE := hide hbE
      clear hownE hgrowE hblkE hbE
      go_wp2_with fail
      refine bodyPost_ret (v := .slice (some ⟨g3, 0, none⟩) (l.length + 1 + 1) cap3) (by simp [results, Try.results35, go_sem]) rfl ⟨_, rfl, ?_, unhide HBE⟩
      unfold cutA
      rw [if_neg (by decide), if_neg (by decide), ← unhide HN, ← unhide HFa, ← unhide HRR, prCells_app, pr_at hi]
      have := unhide HE
      simp only [List.length_append, List.length_set, List.length_cons, List.length_nil]
      exact this
end Go.Proofs.Ytciihepbeacppaa

namespace Go.Proofs.Ytciihepbeacppaa
open Go.RowKit

theorem Sq.below {w w' : World} {q f t : Nat} {an : List (Option Nat)} {st : Int} (h : Sq w q f t an st) (hb : Below w.heap.size w w') : Sq w' q f t an st := by
  obtain ⟨mid, vv, ov0, uv, pv0, hob, hmid, han⟩ := h
  exact ⟨mid, vv, ov0, uv, pv0, hob.of_eq (hb.block _ (World.ownsRow.lt hob _ rfl).2), hmid, han⟩
theorem IsF.below {w w' : World} {A : Nat} {f : CF} {av ov : Value} (h : IsF w A f av ov) (hb : Below w.heap.size w w') : IsF w' A f av ov := h.of_eq (fun k hk => hb.block k (h.lt k hk))
theorem Se.below {w w' : World} {q f t : Nat} {an : List (Option Nat)} {F T : CF} {fav fov tav tov : Value} {st : Int} (h : Se w q f t an F T fav fov tav tov st) (hb : Below w.heap.size w w') : Se w' q f t an F T fav fov tav tov st :=
  ⟨h.sq.below hb, h.ff.below hb, h.ft.below hb, h.nf, h.nt⟩
theorem rowB {w w' : World} {B : Nat} {e : TypeId} {sz n : Nat} {v : Value} {xs : List Value} (h : w.ownsRow B e sz v n xs) (hb : Below w.heap.size w w') : w'.ownsRow B e sz v n xs := ownsRow_of_eq h (fun k hk => hb.block k (h.lt k hk).2)

/-! ### cutAll -/
def cutR (n : Nat) (l : List Pr) (i : Nat) : List Pr := (List.range i).foldl (cuF n l) l
theorem cutR_succ (n : Nat) (l : List Pr) (i : Nat) : cutR n l (i + 1) = cuF n l (cutR n l i) i := by
  unfold cutR; rw [List.range_succ, List.foldl_append]; rfl
theorem cutA_up (l : List Pr) (i size : Nat) : (cutA l i size).length ≤ l.length + 2 := by
  unfold cutA; split
  · simp
  · split <;> simp
theorem cutR_len (n : Nat) (l : List Pr) (i : Nat) : l.length ≤ (cutR n l i).length ∧ (cutR n l i).length ≤ l.length + 2 * i := by
  induction i with
  | zero => exact ⟨Nat.le_refl _, Nat.le_refl _⟩
  | succ i ih =>
    rw [cutR_succ]
    unfold cuF
    split
    · have h1 := cut_len (l := cutR n l i) (i := i) (size := 3)
      have h2 := cutA_up (cutR n l i) i 3
      omega
    · omega

set_option maxRecDepth 100000 in
set_option maxHeartbeats 4000000 in
theorem cutAll_any {w : World} {q f t : Nat} {an : List (Option Nat)} {st : Int} {F T : CF} {l : List Pr} {fav fov tav tov lv : Value} (h : Se w q f t an F T fav fov tav tov st) (hl : w.ownsRow 0 89 3 lv l.length (prCells l)) (hll : l.length ≤ 3000) :
    Calls Try.prog 33 #[.pointer (some ⟨q, 0, none⟩), lv] w fun e w' => ∃ v, e = .returned v ∧ w'.ownsRow 0 89 3 v (cutL F.ow.length l).length (prCells (cutL F.ow.length l)) ∧ (∀ k, v.ownBlock = some k → lv.ownBlock = some k ∨ w.heap.size ≤ k) ∧ Below w.heap.size w w' := by
  obtain ⟨lao, lcap, hlv⟩ := slice_of_own hl
  have HS := hide h
  have HL := hide hl
  have HLV := hide hlv
  rw [hlv]
  clear h hl hlv
  go_enter Try.func33, Try.ntmps33
  go_wp2_with fail
  go_loopw [5, 6] (fun fv i wr => ∃ k : Nat, k ≤ l.length ∧ i = .int .i64 k ∧ Hid (wr.ownsRow 0 89 3 fv (cutR F.ow.length l k).length (prCells (cutR F.ow.length l k))) ∧ Hid (∀ b, fv.ownBlock = some b → lv.ownBlock = some b ∨ w.heap.size ≤ b) ∧ Hid (Below w.heap.size w wr)) (fun _ i _ => l.length - (intOf i).toNat)
  case atStart => exact ⟨0, Nat.zero_le _, rfl, hide (by rw [← unhide HLV]; exact unhide HL), hide (fun b hb => Or.inl (by rw [unhide HLV]; exact hb)), hide (Below.refl _ _)⟩
  case round =>
    obtain ⟨k, hk, rfl, hrow, hown, hbl⟩ := hrel
    by_cases hlt : k < l.length
    · have hd : decide ((k : Int) < (l.length : Int)) = true := by simp; omega
      have HW := hide (whole_any ((unhide HS).sq.below (unhide hbl)) ((unhide HS).ff.below (unhide hbl)) (rowB (unhide HL) (unhide hbl)) hlt)
      rw [unhide HLV] at HW
      have hst := cutR_succ F.ow.length l k
      unfold cuF at hst
      cases hwh : whB F.ow.length l k with
      | true =>
        rw [hwh, if_pos rfl] at hst
        rw [hwh] at HW
        have hlen := cutR_len F.ow.length l k
        have HCut := hide (cut_any (i := k) (size := 3) (unhide hrow) (by omega) (by omega) (Or.inr (Or.inr rfl)))
        have HSt := hide hst
        clear hst
        go_wp2_with fail
        refine (unhide HW).mono ?_
        rintro e w1 ⟨rfl, rfl⟩
        go_wp2_with fail
        refine (unhide HCut).mono ?_
        rintro e w2 ⟨v2, rfl, hrow2, hb2⟩
        have HR2 := hide hrow2
        have HB2 := hide hb2
        clear hrow2 hb2
        go_wp2_with fail
        go_roundw
        case rel =>
          refine ⟨k + 1, by omega, by go_num, hide ?_, hide (fun b hb => Or.inr ?_), hide ((unhide hbl).trans ((unhide HB2).mono (unhide hbl).size))⟩
          · rw [unhide HSt]; exact rowBase (unhide HR2) (Nat.zero_le _)
          · have h1 := ((unhide HR2).lt b hb).1
            have h2 := (unhide hbl).size
            omega
        case measure => simp [intOf]; omega
      | false =>
        rw [hwh, if_neg (by simp)] at hst
        rw [hwh] at HW
        have HSt := hide hst
        clear hst
        go_wp2_with fail
        refine (unhide HW).mono ?_
        rintro e w1 ⟨rfl, rfl⟩
        go_wp2_with fail
        go_roundw
        case rel => exact ⟨k + 1, by omega, by go_num, hide (by rw [unhide HSt]; exact unhide hrow), hown, hbl⟩
        case measure => simp [intOf]; omega
    · have hd : decide ((k : Int) < (l.length : Int)) = false := by simp; omega
      have hkl : k = l.length := by omega
      subst hkl
      go_wp2_with fail
      refine bodyPost_ret (v := u5) (by simp [results, Try.results33, go_sem]) rfl ⟨_, rfl, unhide hrow, by rw [← unhide HLV]; exact unhide hown, unhide hbl⟩

/-! ### tears, torn -/
def tePb (i : Nat) (b : Option Nat) : Bool := b == some (24 + 2 * i) || b == some (25 + 2 * i)
theorem opI_eqs (o : Option Nat) (n : Nat) : (opI o == (n : Int)) = (o == some n) := by
  cases o with
  | none => simp [opI]
  | some m => rw [Bool.eq_iff_iff]; simp [opI]; omega

set_option maxRecDepth 100000 in
set_option maxHeartbeats 8000000 in
theorem tears_any {y : Lay} {T V : CF} {w : World} {s : SS} (h : Sw w y T V s) (hlo : s.ot.length = V.ow.length) (hVl : V.ow.length ≤ 100000) {i : Nat} (hi : i < s.ot.length) :
    Calls Try.prog 46 #[.pointer (some ⟨y.q, 0, none⟩), .int .i64 i] w fun e w' => e = .returned (.bool (teB V.ow s i)) ∧ ∃ n, w' = w.drewN n := by
  have hcv := h.cv
  have HIn := hide (inner_any i (by omega) w)
  obtain ⟨near, hnear⟩ : ∃ near : Nat, near = 24 + 2 * i := ⟨_, rfl⟩
  obtain ⟨far, hfar⟩ : ∃ far : Nat, far = 25 + 2 * i := ⟨_, rfl⟩
  rw [← hnear, ← hfar] at HIn
  have HB1 := hide (begins_any near h.fv)
  have HB2 := hide (begins_any far h.fv)
  have HS := hide h
  have HN := hide hnear
  have HF := hide hfar
  have HE0 : Hid ((bgn V.ow near = none ∨ bgn V.ow far = none) → teB V.ow s i = true) := hide (by
    intro hx
    unfold teB
    rw [← hnear, ← hfar]
    rcases hx with hx | hx
    · rw [hx]
    · rw [hx]; cases bgn V.ow near <;> rfl)
  clear h hnear hfar
  cases h1 : bgn V.ow near with
  | none =>
    have HE := hide (unhide HE0 (Or.inl h1))
    rw [h1] at HB1
    clear h1
    go_enter Try.func46, Try.ntmps46
    go_wp2_with fail
    refine (unhide HIn).mono ?_
    rintro e w1 ⟨rfl, rfl⟩
    go_wp2_with fail
    refine (unhide HB1).mono ?_
    rintro e w2 ⟨rfl, rfl⟩
    rw [show opI none = (-1 : Int) from rfl]
    go_wp2_with fail
    refine (unhide HB2).mono ?_
    rintro e w3 ⟨rfl, rfl⟩
    go_wp2_with fail
    go_ret
    exact ⟨by rw [unhide HE]; rfl, 0, rfl⟩
  | some m =>
    obtain ⟨hm, -⟩ := bgn_some h1
    cases h2 : bgn V.ow far with
    | none =>
      have HE := hide (unhide HE0 (Or.inr h2))
      rw [h1] at HB1
      rw [h2] at HB2
      have hm0 : decide ((m : Int) < 0) = false := by simp
      clear h1 h2
      go_enter Try.func46, Try.ntmps46
      go_wp2_with fail
      refine (unhide HIn).mono ?_
      rintro e w1 ⟨rfl, rfl⟩
      go_wp2_with fail
      refine (unhide HB1).mono ?_
      rintro e w2 ⟨rfl, rfl⟩
      rw [show opI (some m) = (m : Int) from rfl]
      go_wp2_with fail
      refine (unhide HB2).mono ?_
      rintro e w3 ⟨rfl, rfl⟩
      rw [show opI none = (-1 : Int) from rfl]
      go_wp2_with fail
      go_ret
      exact ⟨by rw [unhide HE]; rfl, 0, rfl⟩
    | some e0 =>
      obtain ⟨he, -⟩ := bgn_some h2
      have hm' : m < s.ot.length := by omega
      have he' : e0 < s.ot.length := by omega
      obtain ⟨O, ocap, hov, hocn, hocm', -, -⟩ := (unhide HS).own (by intro e; rw [e] at hi; simp at hi)
      have hocm : ocap ≤ 9223372036854775807 := by unfold maxLen at hocm'; omega
      have hco := (unhide HS).co
      rw [hov] at hco
      obtain ⟨hx1, -⟩ := (unhide HS).ocell hov hi
      obtain ⟨hx2, -⟩ := (unhide HS).ocell hov hm'
      obtain ⟨hx3, -⟩ := (unhide HS).ocell hov he'
      obtain ⟨oi, hoi⟩ : ∃ x, x = s.ot.getD i none := ⟨_, rfl⟩
      obtain ⟨om, hom⟩ : ∃ x, x = s.ot.getD m none := ⟨_, rfl⟩
      obtain ⟨oe, hoe⟩ : ∃ x, x = s.ot.getD e0 none := ⟨_, rfl⟩
      rw [← hoi] at hx1
      rw [← hom] at hx2
      rw [← hoe] at hx3
      have hopeq : ∀ a b : Option Nat, (opI a != opI b) = decide (a ≠ b) := by
        intro a b
        cases a <;> cases b <;> rw [Bool.eq_iff_iff] <;> simp [opI] <;> omega
      have hq1 := hopeq om oi
      have hq2 := hopeq oe oi
      have HE1 : Hid (teB V.ow s i = if om ≠ oi ∨ oe ≠ oi then true else s.bd.any (tePb i)) := hide (by
        unfold teB
        rw [← unhide HN, ← unhide HF, h1, h2]
        dsimp only
        rw [← hoi, ← hom, ← hoe, unhide HN, unhide HF]
        rfl)
      rw [h1] at HB1
      rw [h2] at HB2
      have hm0 : decide ((m : Int) < 0) = false := by simp
      have he0 : decide ((e0 : Int) < 0) = false := by simp
      have HOV := hide hov
      clear h1 h2 hov hoi hom hoe hopeq hocm'
      by_cases hb : om ≠ oi ∨ oe ≠ oi
      · have HE : Hid (teB V.ow s i = true) := hide (by rw [unhide HE1, if_pos hb])
        by_cases hb1 : om = oi
        · have hb2 : oe ≠ oi := by rcases hb with h | h; exact absurd hb1 h; exact h
          rw [decide_eq_false (by simpa using hb1)] at hq1
          rw [decide_eq_true hb2] at hq2
          clear hb hb1 hb2
          go_enter Try.func46, Try.ntmps46
          go_wp2_with fail
          refine (unhide HIn).mono ?_
          rintro e w1 ⟨rfl, rfl⟩
          go_wp2_with fail
          refine (unhide HB1).mono ?_
          rintro e w2 ⟨rfl, rfl⟩
          rw [show opI (some m) = (m : Int) from rfl]
          go_wp2_with fail
          refine (unhide HB2).mono ?_
          rintro e w3 ⟨rfl, rfl⟩
          rw [show opI (some e0) = (e0 : Int) from rfl]
          go_wp2_with fail
          go_quiet (fail)
          go_wp2_with fail
          go_ret
          exact ⟨by rw [unhide HE]; rfl, _, rfl⟩
        · rw [decide_eq_true hb1] at hq1
          clear hb hb1
          go_enter Try.func46, Try.ntmps46
          go_wp2_with fail
          refine (unhide HIn).mono ?_
          rintro e w1 ⟨rfl, rfl⟩
          go_wp2_with fail
          refine (unhide HB1).mono ?_
          rintro e w2 ⟨rfl, rfl⟩
          rw [show opI (some m) = (m : Int) from rfl]
          go_wp2_with fail
          refine (unhide HB2).mono ?_
          rintro e w3 ⟨rfl, rfl⟩
          rw [show opI (some e0) = (e0 : Int) from rfl]
          go_wp2_with fail
          go_quiet (fail)
          go_wp2_with fail
          go_ret
          exact ⟨by rw [unhide HE]; rfl, _, rfl⟩
      · have HE : Hid (teB V.ow s i = s.bd.any (tePb i)) := hide (by rw [unhide HE1, if_neg hb])
        have hb1 : om = oi := Classical.byContradiction (fun h => hb (Or.inl h))
        have hb2 : oe = oi := Classical.byContradiction (fun h => hb (Or.inr h))
        rw [decide_eq_false (by simpa using hb1)] at hq1
        rw [decide_eq_false (by simpa using hb2)] at hq2
        clear hb hb1 hb2
        go_enter Try.func46, Try.ntmps46
        go_wp2_with fail
        refine (unhide HIn).mono ?_
        rintro e w1 ⟨rfl, rfl⟩
        go_wp2_with fail
        refine (unhide HB1).mono ?_
        rintro e w2 ⟨rfl, rfl⟩
        rw [show opI (some m) = (m : Int) from rfl]
        go_wp2_with fail
        refine (unhide HB2).mono ?_
        rintro e w3 ⟨rfl, rfl⟩
        rw [show opI (some e0) = (e0 : Int) from rfl]
        go_wp2_with fail
        go_quiet (fail)
        go_wp2_with fail
        go_loopw [9] (fun c wr => ∃ k : Nat, k ≤ 24 ∧ c = .int .i64 k ∧ Hid (∀ j, j < k → tePb i (s.b j) = false) ∧ ∃ n, wr = w3.drewN n) (fun c _ => 24 - (intOf c).toNat)
        case atStart => exact ⟨0, Nat.zero_le _, rfl, hide (fun j hj => by omega), _, rfl⟩
        case round =>
          obtain ⟨k, hk, rfl, hall, n, rfl⟩ := hrel
          by_cases hlt : k < 24
          · have hd : decide ((k : Int) < 24) = true := by simp; omega
            have hcb := (unhide HS).cb hlt
            obtain ⟨bk, hbk⟩ : ∃ bk, bk = s.b k := ⟨_, rfl⟩
            rw [← hbk] at hcb
            have e1 := opI_eqs bk near
            have e2 := opI_eqs bk far
            have HT : Hid (tePb i bk = ((bk == some near) || (bk == some far))) := hide (by unfold tePb; rw [unhide HN, unhide HF])
            have HBK := hide hbk
            have hlb : k < s.bd.length := by rw [(unhide HS).lb]; exact hlt
            clear hbk
            cases f1 : (bk == some near) with
            | true =>
              rw [f1] at e1
              go_wp2_with fail
              go_ret
              refine ⟨?_, n, rfl⟩
              rw [unhide HE]
              have : s.bd.any (tePb i) = true := List.any_eq_true.2 ⟨s.bd[k], List.getElem_mem hlb, by
                have h3 : s.b k = s.bd[k] := by unfold SS.b; simp [hlb]
                rw [← h3, ← unhide HBK, unhide HT, f1]; rfl⟩
              rw [this]; rfl
            | false =>
              rw [f1] at e1
              cases f2 : (bk == some far) with
              | true =>
                rw [f2] at e2
                go_wp2_with fail
                go_ret
                refine ⟨?_, n, rfl⟩
                rw [unhide HE]
                have : s.bd.any (tePb i) = true := List.any_eq_true.2 ⟨s.bd[k], List.getElem_mem hlb, by
                  have h3 : s.b k = s.bd[k] := by unfold SS.b; simp [hlb]
                  rw [← h3, ← unhide HBK, unhide HT, f1, f2]; rfl⟩
                rw [this]; rfl
              | false =>
                rw [f2] at e2
                go_wp2_with fail
                go_roundw
                case rel =>
                  refine ⟨k + 1, by omega, by go_num, hide (fun j hj => ?_), n, rfl⟩
                  by_cases e : j = k
                  · subst e; rw [← unhide HBK, unhide HT, f1, f2]; rfl
                  · exact unhide hall j (by omega)
                case measure => simp [intOf]; omega
          · have hd : decide ((k : Int) < 24) = false := by simp; omega
            go_wp2_with fail
            go_ret
            refine ⟨?_, n, rfl⟩
            rw [unhide HE]
            have : s.bd.any (tePb i) = false := by
              rw [List.any_eq_false]
              intro b hb
              obtain ⟨j, hj, rfl⟩ := List.mem_iff_getElem.1 hb
              have h3 : s.b j = s.bd[j] := by unfold SS.b; simp [hj]
              have h4 := unhide hall j (by have := (unhide HS).lb; omega)
              rw [← h3, h4]; simp
            rw [this]; rfl
end Go.Proofs.Ytciihepbeacppaa

namespace Go.Proofs.Ytciihepbeacppaa
open Go.RowKit

/-! ### torn -/
theorem find_range {p : Nat → Bool} {n k : Nat} (hk : k < n) (hn : ∀ j, j < k → p j = false) (h : p k = true) : (List.range n).find? p = some k := by
  rw [List.find?_eq_some_iff_getElem]
  refine ⟨h, k, by simpa using hk, by simp, fun j hj => ?_⟩
  simp [hn j hj]
theorem find_range_none {p : Nat → Bool} {n : Nat} (hn : ∀ j, j < n → p j = false) : (List.range n).find? p = none := by
  rw [List.find?_eq_none]
  intro j hj
  rw [hn j (List.mem_range.1 hj)]; simp

set_option maxRecDepth 100000 in
set_option maxHeartbeats 8000000 in
theorem torn_any {y : Lay} {F T V : CF} {w : World} {s : SS} {l : List Pr} {fav fov lv : Value} (h : Sw w y T V s) (hF : IsF w y.f F fav fov) (hl : w.ownsRow 0 89 3 lv l.length (prCells l)) (hlo : s.ot.length = V.ow.length) (hVl : V.ow.length ≤ 100000) (hlV : l.length ≤ V.ow.length) :
    Calls Try.prog 34 #[.pointer (some ⟨y.q, 0, none⟩), lv] w fun e w' => e = .returned (.int .i64 (opI (trn F.ow.length l V.ow s))) ∧ ∃ n, w' = w.drewN n := by
  obtain ⟨lao, lcap, hlv⟩ := slice_of_own hl
  have HS := hide h
  have HF := hide hF
  have HL := hide hl
  have HLV := hide hlv
  rw [hlv]
  clear h hF hl hlv
  go_enter Try.func34, Try.ntmps34
  go_wp2_with fail
  go_loopw [5] (fun i wr => ∃ k : Nat, k ≤ l.length ∧ i = .int .i64 k ∧ Hid (∀ j, j < k → (whB F.ow.length l j && teB V.ow s j) = false) ∧ ∃ n, wr = w.drewN n) (fun i _ => l.length - (intOf i).toNat)
  case atStart => exact ⟨0, Nat.zero_le _, rfl, hide (fun j hj => by omega), 0, rfl⟩
  case round =>
    obtain ⟨k, hk, rfl, hall, n, rfl⟩ := hrel
    by_cases hlt : k < l.length
    · have hd : decide ((k : Int) < (l.length : Int)) = true := by simp; omega
      have hSn := (unhide HS).drewN n
      have HW := hide (whole_any (i := k) hSn.sq ((unhide HF).drewN n) (ownsRow_of_eq (unhide HL) (fun _ _ => by simp)) hlt)
      rw [unhide HLV] at HW
      have HTe := hide (tears_any hSn hlo hVl (i := k) (by omega))
      clear hSn
      cases hwh : whB F.ow.length l k with
      | false =>
        rw [hwh] at HW
        go_wp2_with fail
        refine (unhide HW).mono ?_
        rintro e w1 ⟨rfl, rfl⟩
        go_wp2_with fail
        go_roundw
        case rel =>
          refine ⟨k + 1, by omega, by go_num, hide (fun j hj => ?_), n, rfl⟩
          by_cases e : j = k
          · subst e; rw [hwh]; rfl
          · exact unhide hall j (by omega)
        case measure => simp [intOf]; omega
      | true =>
        rw [hwh] at HW
        go_wp2_with fail
        refine (unhide HW).mono ?_
        rintro e w1 ⟨rfl, rfl⟩
        go_wp2_with fail
        refine (unhide HTe).mono ?_
        rintro e w2 ⟨rfl, n2, rfl⟩
        cases hte : teB V.ow s k with
        | true =>
          have HE : Hid (trn F.ow.length l V.ow s = some k) := hide (find_range hlt (unhide hall) (by rw [hwh, hte]; rfl))
          go_wp2_with fail
          go_ret
          exact ⟨by rw [unhide HE]; rfl, n + n2, rfl⟩
        | false =>
          go_wp2_with fail
          go_roundw
          case rel =>
            refine ⟨k + 1, by omega, by go_num, hide (fun j hj => ?_), n + n2, rfl⟩
            by_cases e : j = k
            · subst e; rw [hwh, hte]; rfl
            · exact unhide hall j (by omega)
          case measure => simp [intOf]; omega
    · have hd : decide ((k : Int) < (l.length : Int)) = false := by simp; omega
      have HE : Hid (trn F.ow.length l V.ow s = none) := hide (find_range_none (fun j hj => unhide hall j (by omega)))
      go_wp2_with fail
      go_ret
      exact ⟨by rw [unhide HE]; rfl, n, rfl⟩

/-! ### always -/
/-- how many lists are whole -/
def nWh (n : Nat) (l : List Pr) : Nat := ((List.range n).filter (fun i => (l.getD i pr0).k == 4)).length
theorem filter_less {p q : Nat → Bool} {l : List Nat} {i : Nat} (hl : l.Nodup) (hi : i ∈ l) (hp : p i = true) (hq : q i = false) (h : ∀ j ∈ l, j ≠ i → q j = p j) : (l.filter q).length + 1 = (l.filter p).length := by
  induction l with
  | nil => cases hi
  | cons a l ih =>
    have hn := List.nodup_cons.1 hl
    by_cases e : a = i
    · subst e
      have : l.filter q = l.filter p := List.filter_congr (fun j hj => h j (by simp [hj]) (fun e => hn.1 (e ▸ hj)))
      simp [hp, hq, this]
    · have hm : i ∈ l := by
        rcases List.mem_cons.1 hi with h | h
        · exact absurd h.symm e
        · exact h
      have h2 := h a (by simp) e
      have h3 := ih hn.2 hm (fun j hj => h j (by simp [hj]))
      cases hpa : p a with
      | true =>
        rw [List.filter_cons_of_pos hpa, List.filter_cons_of_pos (by rw [h2, hpa]), List.length_cons, List.length_cons]
        omega
      | false =>
        rw [List.filter_cons_of_neg (p := q) (by rw [h2, hpa]; simp), List.filter_cons_of_neg (p := p) (by rw [hpa]; simp)]
        exact h3
theorem nWh_cut {n : Nat} {l : List Pr} (hn : n ≤ l.length) {i : Nat} (hi : i < n) (hk : (l.getD i pr0).k = 4) (size : Nat) : nWh n (cutA l i size) + 1 = nWh n l := by
  unfold nWh
  refine filter_less List.nodup_range (List.mem_range.2 hi) ?_ ?_ (fun j hj hji => ?_)
  · rw [hk]; rfl
  · rw [cut_at (by omega) (by omega), if_pos rfl]; rfl
  · have := List.mem_range.1 hj
    rw [cut_at (by omega) (by omega), if_neg (fun e => hji e.symm)]
/-- what a call of always finds -/
structure Al (w : World) (q f t : Nat) (an : List (Option Nat)) (F T : CF) (fav fov tav tov : Value) (st : Int) (l : List Pr) (lv : Value) : Prop where
  se : Se w q f t an F T fav fov tav tov st
  rw : w.ownsRow 0 89 3 lv l.length (prCells l)
  lq : ∀ k, lv.ownBlock = some k → k ≠ q
  ln : F.ow.length ≤ l.length
  bd : l.length + 2 * nWh F.ow.length l ≤ 1000
theorem Al.after {w w' : World} {q f t : Nat} {an : List (Option Nat)} {F T : CF} {fav fov tav tov : Value} {st st' : Int} {l : List Pr} {lv : Value} (h : Al w q f t an F T fav fov tav tov st l lv) (hb : ∀ k, k < w.heap.size → k ≠ q → w'.heap[k]? = w.heap[k]?) (hs : Sq w' q f t an st') : Al w' q f t an F T fav fov tav tov st' l lv :=
  ⟨⟨hs, h.se.ff.of_eq (fun k hk => hb k (h.se.ff.lt k hk) (h.se.nf k hk)), h.se.ft.of_eq (fun k hk => hb k (h.se.ft.lt k hk) (h.se.nt k hk)), h.se.nf, h.se.nt⟩,
   ownsRow_of_eq h.rw (fun k hk => hb k (h.rw.lt k hk).2 (h.lq k hk)), h.lq, h.ln, h.bd⟩
theorem alw_step {F T : CF} {an : List (Option Nat)} {m : Nat} {st : Int} {l : List Pr} {r1 r2 : Bool × SS} (h1 : r1 = fit (vw F l) T an st) (h2 : r2 = fit (vw F (cutL F.ow.length l)) T an r1.2.st) :
    alw F T an (m + 1) st l = if r1.1 = true then (true, r1.2.st) else if r2.1 = true then (match trn F.ow.length l (cutL F.ow.length l) r2.2 with
      | none => (false, r2.2.st)
      | some i => match alw F T an m r2.2.st (cutA l i 1) with
          | (false, t) => (false, t)
          | (true, t) => match alw F T an m t (cutA l i 2) with
            | (false, t) => (false, t)
            | (true, t) => alw F T an m t (cutA l i 3)) else (false, r2.2.st) := by
  rw [alw, ← h1]
  obtain ⟨b1, s1⟩ := r1
  cases b1 with
  | true => rfl
  | false =>
    dsimp only at h2 ⊢
    rw [← h2]
    obtain ⟨b2, s2⟩ := r2
    cases b2 <;> rfl
/-! the owners' list keeps its length -/
theorem plL_ot {W : SS → Nat → Nat → Nat → Bool × SS} (hW : ∀ s k a c, (W s k a c).2.ot.length = s.ot.length) {k left count : Nat} : ∀ (l : List Pr) (s : SS), (plL W k left count l s).2.ot.length = s.ot.length := by
  intro l
  induction l with
  | nil => intro s; rfl
  | cons p r ih =>
    intro s
    have h1 := hW { s with bd := s.bd.set left (some p.l) } k p.l count
    simp only [plL]
    cases hr : W { s with bd := s.bd.set left (some p.l) } k p.l count with
    | mk b s' =>
      rw [hr] at h1
      cases b with
      | true => exact h1
      | false => exact (ih s').trans h1
theorem plF_ot {V T : CF} {W : SS → Nat → Nat → Nat → Bool × SS} (hW : ∀ s k a c, (W s k a c).2.ot.length = s.ot.length) (s : SS) (count : Nat) : (plF W V T s count).2.ot.length = s.ot.length := by
  unfold plF
  split
  · rfl
  · split
    · rfl
    · split
      · rfl
      · split
        · exact hW _ _ _ _
        · exact plL_ot hW _ _
theorem enF_ot {T : CF} {P : SS → Nat → Bool × SS} (hP : ∀ s c, (P s c).2.ot.length = s.ot.length) (s : SS) (k at_ count : Nat) : (enF P T s k at_ count).2.ot.length = s.ot.length := by
  unfold enF
  split
  · rfl
  · have h1 := hP { s with bd := s.bd.set (T.ow.getD k pr0).r (some at_), pl := s.pl.set k true } (count + 1)
    cases hr : P { s with bd := s.bd.set (T.ow.getD k pr0).r (some at_), pl := s.pl.set k true } (count + 1) with
    | mk b s' =>
      rw [hr] at h1
      cases b <;> exact h1
theorem wk_ot {V T : CF} : ∀ (m : Nat) (s : SS) (k a c : Nat), (wk V T m s k a c).2.ot.length = s.ot.length := by
  intro m
  induction m with
  | zero => intro s k a c; rfl
  | succ m ih =>
    intro s k a c
    by_cases h0 : wrap64 (s.st - 1) < 0
    · simp only [wk]; rw [if_pos h0]
    · cases h1 : bgn V.ow a with
      | none => simp only [wk]; rw [if_neg h0, h1]
      | some i =>
        by_cases h2 : s.ot.getD i none = none
        · by_cases h3 : (T.ow.getD k pr0).k ≠ 4 ∧ (V.ow.getD i pr0).k = 4
          · simp only [wk]; rw [if_neg h0, h1]; dsimp only; rw [if_neg (by rw [h2]; simp), if_pos h3]
          · rw [wk_main h0 h1 h2 h3 rfl]
            have e1 := enF_ot (T := T) (plF_ot (V := V) (T := T) ih) { s with st := wrap64 (s.st - 1), ot := s.ot.set i (some k), un := s.un - 1 } k (V.ow.getD i pr0).r c
            have e2 : ∀ s2, (wkQ V T m s2 k (V.ow.getD i pr0).r c).2.ot.length = s2.ot.length := by
              intro s2
              unfold wkQ
              split
              · exact ih _ _ _ _
              · rfl
            have e3 : (s.ot.set i (some k)).length = s.ot.length := by simp
            split
            · exact e1.trans e3
            · split
              · exact (e2 _).trans (e1.trans e3)
              · show (List.set _ _ _).length = _
                rw [List.length_set]
                exact (e2 _).trans (e1.trans e3)
        · simp only [wk]; rw [if_neg h0, h1]; dsimp only; rw [if_pos h2]
theorem fit_ot (V T : CF) (an : List (Option Nat)) (st : Int) : (fit V T an st).2.ot.length = V.ow.length := by
  unfold fit
  rw [plF_ot (wk_ot _)]
  simp [beg]
/-- the three cuts, one behind the other -/
def alz (F T : CF) (an : List (Option Nat)) (m : Nat) (l : List Pr) (i : Nat) : Nat → Int → Bool × Int
  | 0, st => (true, st)
  | c + 1, st => match alw F T an m st (cutA l i (3 - c)) with
    | (false, t) => (false, t)
    | (true, t) => alz F T an m l i c t
theorem alz_three (F T : CF) (an : List (Option Nat)) (m : Nat) (l : List Pr) (i : Nat) (st : Int) : alz F T an m l i 3 st = (match alw F T an m st (cutA l i 1) with
          | (false, t) => (false, t)
          | (true, t) => match alw F T an m t (cutA l i 2) with
            | (false, t) => (false, t)
            | (true, t) => alw F T an m t (cutA l i 3)) := by
  simp only [alz]
  cases h1 : alw F T an m st (cutA l i (3 - 2)) with
  | mk b t =>
    cases b with
    | false => rfl
    | true =>
      dsimp only
      cases h2 : alw F T an m t (cutA l i (3 - 1)) with
      | mk b2 t2 =>
        cases b2 with
        | false => rfl
        | true =>
          dsimp only
          cases h3 : alw F T an m t2 (cutA l i (3 - 0)) with
          | mk b3 t3 =>
            cases b3 <;> rfl
/-- always does as alw says -/
def AlC (F T : CF) (an : List (Option Nat)) (m : Nat) : Prop :=
  ∀ (w : World) (q f t : Nat) (fav fov tav tov : Value) (st : Int) (l : List Pr) (lv : Value), Al w q f t an F T fav fov tav tov st l lv → nWh F.ow.length l < m →
    Calls Try.prog 17 #[.pointer (some ⟨q, 0, none⟩), lv] w fun e w' => e = .returned (.bool (alw F T an m st l).1) ∧ Sq w' q f t an (alw F T an m st l).2 ∧ Stp [q] w [q] w'
theorem Stp.q {q : Nat} {w w' : World} {F : List Nat} (h : Stp [q] w F w') : Stp [q] w [q] w' := ⟨h.os, h.tape, h.output, h.size, h.block, fun _ hk => Or.inl hk⟩
theorem Stp.blk {q : Nat} {w w' : World} {F : List Nat} (h : Stp [q] w F w') : ∀ k, k < w.heap.size → k ≠ q → w'.heap[k]? = w.heap[k]? := fun k hk hne => h.block k hk (by simpa using hne)

set_option maxRecDepth 100000 in
set_option maxHeartbeats 8000000 in
theorem always_step {F T : CF} {an : List (Option Nat)} (hR : Rm T) (hA : RmA T) (hTl : T.ow.length ≤ 1000000) {m : Nat} (ih : AlC F T an m) : AlC F T an (m + 1) := by
  intro w q f t fav fov tav tov st l lv h hm
  have hll : l.length ≤ 1000 := by have := h.bd; omega
  obtain ⟨r1, hr1⟩ : ∃ r1, r1 = fit (vw F l) T an st := ⟨_, rfl⟩
  obtain ⟨r2, hr2⟩ : ∃ r2, r2 = fit (vw F (cutL F.ow.length l)) T an r1.2.st := ⟨_, rfl⟩
  have HE := hide (alw_step (m := m) hr1 hr2)
  have HF1 := hide (fits_any h.se h.rw h.lq (by omega) hTl hR hA)
  rw [← hr1] at HF1
  have HAl := hide h
  have HIH := hide ih
  have HM := hide hm
  have HR2 := hide hr2
  obtain ⟨lao, lcap, hlv⟩ := slice_of_own h.rw
  have HLV := hide hlv
  rw [hlv] at HF1 ⊢
  have hlv' := hlv
  clear h ih hm hr1 hr2 hlv hlv'
  go_enter Try.func17, Try.ntmps17
  go_wp2_with fail
  refine (unhide HF1).mono ?_
  rintro e w1 ⟨rfl, v1, ov1, pv1, hS1, hT1, hfp1⟩
  obtain ⟨b1, s1⟩ := r1
  cases b1 with
  | true =>
    have HS1 := hide hS1.sq
    have HT1 := hide hT1.q
    clear hS1 hT1 hfp1
    go_wp2_with fail
    go_ret
    rw [unhide HE]
    exact ⟨rfl, unhide HS1, unhide HT1⟩
  | false =>
    have hAl1 := (unhide HAl).after hT1.blk hS1.sq
    have HT1 := hide hT1.q
    have HAl1 := hide hAl1
    have HCA := hide (cutAll_any hAl1.se hAl1.rw (by omega))
    rw [unhide HLV] at HCA
    clear hS1 hT1 hfp1 hAl1
    dsimp only at HE HR2 HCA HAl1
    go_wp2_with fail
    refine (unhide HCA).mono ?_
    rintro e w2 ⟨v2, rfl, hrow2, hown2, hb2⟩
    rw [← unhide HLV] at hown2
    have hAl2 := (unhide HAl1).after (fun k hk _ => hb2.block k hk) ((unhide HAl1).se.sq.below hb2)
    have hlq2 : ∀ k, v2.ownBlock = some k → k ≠ q := by
      intro k hk
      rcases hown2 k hk with h1 | h1
      · exact (unhide HAl1).lq k h1
      · obtain ⟨_, _, _, _, _, hob, _, _⟩ := (unhide HAl1).se.sq
        have h2 : q < w1.heap.size := (World.ownsRow.lt hob _ rfl).2
        omega
    have hcl := cutR_len F.ow.length l l.length
    have hcl2 : (cutL F.ow.length l).length ≤ 3000 := by have : cutL F.ow.length l = cutR F.ow.length l l.length := rfl; rw [this]; omega
    have HF2 := hide (fits_any hAl2.se hrow2 hlq2 (by omega) hTl hR hA)
    rw [← unhide HR2] at HF2
    have HAl2 := hide hAl2
    have HT2 := hide ((unhide HT1).trans (Stp.ofBelow (F := [q]) hb2))
    have HRow2 := hide hrow2
    obtain ⟨cao, ccap, hv2⟩ := slice_of_own hrow2
    subst hv2
    clear hrow2 hown2 hb2 hAl2 hlq2
    go_wp2_with fail
    refine (unhide HF2).mono ?_
    rintro e w3 ⟨rfl, v3, ov3, pv3, hS3, hT3, hfp3⟩
    obtain ⟨b2, s2⟩ := r2
    cases b2 with
    | false =>
      have HS3 := hide hS3.sq
      have HT3 := hide ((unhide HT2).trans hT3.q)
      clear hS3 hT3 hfp3
      go_wp2_with fail
      go_ret
      rw [unhide HE]
      exact ⟨rfl, unhide HS3, unhide HT3⟩
    | true =>
      dsimp only at hS3 HE
      have hAl3 := (unhide HAl2).after hT3.blk hS3.sq
      have hlo3 : s2.ot.length = (cutL F.ow.length l).length := by
        have h1 := fit_ot (vw F (cutL F.ow.length l)) T an s1.st
        rw [← unhide HR2] at h1
        exact h1
      have HTo := hide (torn_any (F := F) (l := l) hS3 hAl3.se.ff hAl3.rw hlo3 (by show (cutL F.ow.length l).length ≤ 100000; omega) (by show l.length ≤ (cutL F.ow.length l).length; have : cutL F.ow.length l = cutR F.ow.length l l.length := rfl; rw [this]; exact hcl.1))
      rw [unhide HLV] at HTo
      rw [show (vw F (cutL F.ow.length l)).ow = cutL F.ow.length l from rfl] at HTo
      have HAl3 := hide hAl3
      have HT3 := hide ((unhide HT2).trans hT3.q)
      clear hS3 hT3 hfp3 hAl3 hlo3
      go_wp2_with fail
      refine (unhide HTo).mono ?_
      rintro e w4 ⟨rfl, n4, rfl⟩
      cases htr : trn F.ow.length l (cutL F.ow.length l) s2 with
      | none =>
        rw [htr] at HE
        rw [show opI none = (-1 : Int) from rfl]
        have HS4 := hide ((unhide HAl3).after (w' := w3.drewN n4) (fun _ _ _ => by simp) ((unhide HAl3).se.sq.below ⟨rfl, rfl, rfl, Nat.le_refl _, fun _ _ => rfl⟩))
        clear htr
        go_wp2_with fail
        go_ret
        rw [unhide HE]
        exact ⟨rfl, (unhide HS4).se.sq, (unhide HT3).drewN n4⟩
      | some i =>
        rw [htr] at HE
        obtain ⟨hi, hik⟩ := trn_some htr
        have hil : i < l.length := Nat.lt_of_lt_of_le hi (unhide HAl).ln
        rw [show opI (some i) = (i : Int) from rfl]
        have hi0 : decide ((i : Int) < 0) = false := by simp
        have HAl4 := hide ((unhide HAl3).after (w' := w3.drewN n4) (fun _ _ _ => by simp) ((unhide HAl3).se.sq.below ⟨rfl, rfl, rfl, Nat.le_refl _, fun _ _ => rfl⟩))
        have HT4 := hide ((unhide HT3).drewN n4)
        have HIK := hide hik
        clear htr HTo hik
        have HZ : Hid (alw F T an (m + 1) st l = alz F T an m l i 3 s2.st) := hide (by rw [unhide HE, alz_three]; rfl)
        go_wp2_with fail
        go_loopw [7] (fun z wr => ∃ (k : Nat) (stz : Int), 1 ≤ k ∧ k ≤ 4 ∧ z = .int .i64 k ∧ Hid (Al wr q f t an F T fav fov tav tov stz l lv) ∧ Hid (alz F T an m l i (4 - k) stz = alz F T an m l i 3 s2.st) ∧ Hid (Stp [q] w [q] wr)) (fun z _ => 4 - (intOf z).toNat)
        case atStart => exact ⟨1, s2.st, Nat.le_refl _, by omega, rfl, HAl4, hide rfl, HT4⟩
        case round =>
          obtain ⟨k, stz, hk1, hk4, rfl, hal, hz, hst⟩ := hrel
          by_cases hlt : k < 4
          · have hd : decide ((k : Int) ≤ 3) = true := by simp; omega
            have HCut := hide (cut_any (i := i) (size := k) (unhide hal).rw hil (by omega) (by omega))
            rw [unhide HLV] at HCut
            go_wp2_with fail
            refine (unhide HCut).mono ?_
            rintro e w5 ⟨v5, rfl, hrow5, hb5⟩
            have hal5 := (unhide hal).after (fun k hk _ => hb5.block k hk) ((unhide hal).se.sq.below hb5)
            have hq5 : q < wr.heap.size := by
              obtain ⟨_, _, _, _, _, hob, _, _⟩ := (unhide hal).se.sq
              exact (World.ownsRow.lt hob _ rfl).2
            have hnw := nWh_cut (unhide HAl).ln hi (unhide HIK) k
            have halC : Al w5 q f t an F T fav fov tav tov stz (cutA l i k) v5 := ⟨hal5.se, rowBase hrow5 (Nat.zero_le _), fun b hb => by have := (hrow5.lt b hb).1; omega, Nat.le_trans (unhide HAl).ln cut_len, by
              have h1 := cutA_up l i k
              have h2 := (unhide HAl).bd
              omega⟩
            have HAw := hide (unhide HIH w5 q f t fav fov tav tov stz (cutA l i k) v5 halC (by have := unhide HM; omega))
            have hstep : alz F T an m l i (4 - k) stz = (match alw F T an m stz (cutA l i k) with
              | (false, t) => (false, t)
              | (true, t) => alz F T an m l i (4 - (k + 1)) t) := by
              rw [show 4 - k = (4 - (k + 1)) + 1 by omega]
              simp only [alz]
              rw [show 3 - (4 - (k + 1)) = k by omega]
            have HStep := hide hstep
            have HAl5 := hide hal5
            have HT5 := hide ((unhide hst).trans (Stp.ofBelow (F := [q]) hb5))
            obtain ⟨v5a, v5c, hv5⟩ := slice_of_own hrow5
            subst hv5
            clear hrow5 hb5 hal5 hnw halC hstep
            go_wp2_with fail
            refine (unhide HAw).mono ?_
            rintro e w6 ⟨rfl, hS6, hT6⟩
            have HAl6 := hide ((unhide HAl5).after hT6.blk hS6)
            have HT6 := hide ((unhide HT5).trans hT6)
            have HS6 := hide hS6
            clear hS6 hT6
            obtain ⟨r6, hr6⟩ : ∃ r6, r6 = alw F T an m stz (cutA l i k) := ⟨_, rfl⟩
            rw [← hr6] at HStep HAl6 HS6 ⊢
            clear hr6
            obtain ⟨b6, t6⟩ := r6
            cases b6 with
            | true =>
              go_wp2_with fail
              go_roundw
              case rel => exact ⟨k + 1, t6, by omega, by omega, by go_num, HAl6, hide ((unhide HStep).symm.trans (unhide hz)), HT6⟩
              case measure => simp [intOf]; omega
            | false =>
              have HFin : Hid (alw F T an (m + 1) st l = (false, t6)) := hide (by rw [unhide HZ, ← unhide hz, unhide HStep])
              go_wp2_with fail
              go_ret
              rw [unhide HFin]
              exact ⟨rfl, unhide HS6, unhide HT6⟩
          · have hd : decide ((k : Int) ≤ 3) = false := by simp; omega
            have hk : k = 4 := by omega
            subst hk
            have HFin : Hid (alw F T an (m + 1) st l = (true, stz)) := hide (by rw [unhide HZ, ← unhide hz]; rfl)
            go_wp2_with fail
            go_ret
            rw [unhide HFin]
            exact ⟨rfl, (unhide hal).se.sq, unhide hst⟩
theorem always_all {F T : CF} {an : List (Option Nat)} (hR : Rm T) (hA : RmA T) (hTl : T.ow.length ≤ 1000000) : ∀ m, AlC F T an m := by
  intro m
  induction m with
  | zero => intro w q f t fav fov tav tov st l lv _ h; omega
  | succ m ih => exact always_step hR hA hTl ih
end Go.Proofs.Ytciihepbeacppaa
