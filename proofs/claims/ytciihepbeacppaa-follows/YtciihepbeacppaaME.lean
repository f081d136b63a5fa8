import Derived.Test.YtciihepbeacppaaMD
import Derived.Test.YtciihepbeacppaaMA
import Derived.Laws.OwnMore
namespace Go.Proofs.Ytciihepbeacppaa
open Go.RowKit

/-! ### formulas in classes, as they lie in memory -/
def prC (p : Pr) : List Value := [.int .i64 p.k, .int .i64 p.l, .int .i64 p.r]
def prCells (l : List Pr) : List Value := l.flatMap prC
def opI : Option Nat → Int
  | none => -1
  | some n => n
def opCells (l : List (Option Nat)) : List Value := l.map (fun o => Value.int .i64 (opI o))
theorem prCells_len (l : List Pr) : (prCells l).length = l.length * 3 := by
  induction l with
  | nil => rfl
  | cons a l ih => show (prC a ++ prCells l).length = _; rw [List.length_append, ih]; simp [prC]; omega
theorem prCells_app (a b : List Pr) : prCells (a ++ b) = prCells a ++ prCells b := by simp [prCells]
theorem pr_get {l : List Pr} {k : Nat} (h : k < l.length) : (prCells l)[k * 3]? = some (.int .i64 l[k].k) ∧ (prCells l)[k * 3 + 1]? = some (.int .i64 l[k].l) ∧ (prCells l)[k * 3 + 2]? = some (.int .i64 l[k].r) := by
  induction l generalizing k with
  | nil => simp at h
  | cons x l ih =>
    have hx : prCells (x :: l) = [Value.int .i64 x.k, .int .i64 x.l, .int .i64 x.r] ++ prCells l := rfl
    cases k with
    | zero => rw [hx]; simp
    | succ k =>
      have := ih (k := k) (by simpa using h)
      rw [hx, show (k + 1) * 3 = k * 3 + 3 by omega]
      simp only [List.getElem_cons_succ]
      refine ⟨?_, ?_, ?_⟩
      · rw [List.getElem?_append_right (by simp)]; simpa using this.1
      · rw [List.getElem?_append_right (by simp)]; simpa [show k * 3 + 3 + 1 - 3 = k * 3 + 1 by omega] using this.2.1
      · rw [List.getElem?_append_right (by simp)]; simpa [show k * 3 + 3 + 2 - 3 = k * 3 + 2 by omega] using this.2.2
theorem pr_of_own {w : World} {B : Nat} {v : Value} {l : List Pr} (h : w.ownsRow B 89 3 v l.length (prCells l)) :
    ∃ ao cap, v = .slice ao l.length cap ∧ cap ≤ maxLen ∧ l.length ≤ cap ∧ (l ≠ [] → ∃ g, ao = some ⟨g, 0, none⟩ ∧ ∀ j, (h : j < l.length) → w.cell? ⟨g, j * 3, none⟩ = some (.int .i64 l[j].k) ∧ w.cell? ⟨g, j * 3 + 1, none⟩ = some (.int .i64 l[j].l) ∧ w.cell? ⟨g, j * 3 + 2, none⟩ = some (.int .i64 l[j].r)) := by
  have hw := h
  rcases h.2 with ⟨rfl, h0⟩ | ⟨g, cap, cur, rfl, _, _, hn, hm, _, _⟩
  · have : l = [] := List.eq_nil_of_length_eq_zero h0
    subst this
    exact ⟨_, _, rfl, by simp, by simp, fun h => absurd rfl h⟩
  · refine ⟨_, _, rfl, hm, hn, fun _ => ⟨g, rfl, fun j hj => ?_⟩⟩
    have hg := pr_get hj
    exact ⟨(hw.cellAt _ (by omega)).trans hg.1, (hw.cellAt _ (by omega)).trans hg.2.1, (hw.cellAt _ (by omega)).trans hg.2.2⟩
def clV (f : CF) (i : Nat) : Value := .int .i64 ((f.cl.getD i 0 : Nat) : Int)
def foCells (f : CF) (av ov : Value) : List Value := [clV f 0, clV f 1, clV f 2, clV f 3, clV f 4, av, ov]
/-- an object of one type in a block of its own -/
def Ob (w : World) (T n A : Nat) (xs : List Value) : Prop := w.ownsRow 0 T n (.slice (some ⟨A, 0, none⟩) 1 1) 1 xs
structure IsF (w : World) (A : Nat) (f : CF) (av ov : Value) : Prop where
  ob : Ob w 67 7 A (foCells f av ov)
  ap : w.ownsRow 0 89 3 av f.ap.length (prCells f.ap)
  ow : w.ownsRow 0 89 3 ov f.ow.length (prCells f.ow)
def bsF (A : Nat) (av ov : Value) : List Nat := A :: (av.ownBlock.toList ++ ov.ownBlock.toList)
theorem Ob.of_eq {w w' : World} {T n A : Nat} {xs : List Value} (h : Ob w T n A xs) (he : w'.heap[A]? = w.heap[A]?) : Ob w' T n A xs :=
  ownsRow_of_eq h (fun k hk => by cases hk; exact he)
theorem IsF.of_eq {w w' : World} {A : Nat} {f : CF} {av ov : Value} (h : IsF w A f av ov) (he : ∀ k ∈ bsF A av ov, w'.heap[k]? = w.heap[k]?) : IsF w' A f av ov :=
  ⟨h.ob.of_eq (he A (by simp [bsF])), ownsRow_of_eq h.ap (fun k hk => he k (by simp [bsF, hk])), ownsRow_of_eq h.ow (fun k hk => he k (by simp [bsF, hk]))⟩
theorem IsF.lt {w : World} {A : Nat} {f : CF} {av ov : Value} (h : IsF w A f av ov) : ∀ k ∈ bsF A av ov, k < w.heap.size := by
  intro k hk
  simp only [bsF, List.mem_cons, List.mem_append, Option.mem_toList] at hk
  rcases hk with rfl | hk | hk
  · exact (World.ownsRow.lt h.ob _ rfl).2
  · exact (h.ap.lt k hk).2
  · exact (h.ow.lt k hk).2
theorem IsF.drewN {w : World} {A : Nat} {f : CF} {av ov : Value} (h : IsF w A f av ov) (n : Nat) : IsF (w.drewN n) A f av ov := h.of_eq (fun _ _ => by simp)
theorem IsF.alloc {w : World} {A : Nat} {f : CF} {av ov : Value} (h : IsF w A f av ov) (o : Obj) : IsF (w.alloc o) A f av ov := h.of_eq (fun k hk => Below.heap_alloc _ _ _ (h.lt k hk))
theorem IsF.cls {w : World} {A : Nat} {f : CF} {av ov : Value} (h : IsF w A f av ov) {i : Nat} (hi : i < 5) : w.cell? ⟨A, i, none⟩ = some (clV f i) := by
  have := World.ownsRow.cellAt h.ob i (by omega)
  rw [this]
  have hk : i = 0 ∨ i = 1 ∨ i = 2 ∨ i = 3 ∨ i = 4 := by omega
  rcases hk with rfl | rfl | rfl | rfl | rfl <;> rfl
theorem IsF.c5 {w : World} {A : Nat} {f : CF} {av ov : Value} (h : IsF w A f av ov) : w.cell? ⟨A, 5, none⟩ = some av := World.ownsRow.cellAt h.ob 5 (by omega)
theorem IsF.c6 {w : World} {A : Nat} {f : CF} {av ov : Value} (h : IsF w A f av ov) : w.cell? ⟨A, 6, none⟩ = some ov := World.ownsRow.cellAt h.ob 6 (by omega)

/-! ### Begins -/
theorem bgn_hit {l : List Pr} {c k : Nat} (hk : k < l.length) (hn : ∀ j, (hj : j < l.length) → j < k → l[j].l ≠ c) (h : l[k].l = c) : bgn l c = some k := by
  induction l generalizing k with
  | nil => simp at hk
  | cons x r ih =>
    cases k with
    | zero => simp only [List.getElem_cons_zero] at h; simp [bgn, h]
    | succ k =>
      have h0 : x.l ≠ c := hn 0 (by simp) (by omega)
      simp only [bgn, if_neg h0]
      rw [ih (k := k) (by simpa using hk) (fun j hj hjk => hn (j + 1) (by simpa using hj) (by omega)) (by simpa using h)]
      rfl
theorem bgn_miss {l : List Pr} {c : Nat} (hn : ∀ j, (hj : j < l.length) → l[j].l ≠ c) : bgn l c = none := by
  induction l with
  | nil => rfl
  | cons x r ih =>
    have h0 : x.l ≠ c := hn 0 (by simp)
    simp only [bgn, if_neg h0]
    rw [ih (fun j hj => hn (j + 1) (by simpa using hj))]
    rfl
theorem nat_beq {a b : Nat} : ((a : Int) == (b : Int)) = decide (a = b) := by
  rw [Bool.eq_iff_iff, beq_iff_eq, decide_eq_true_eq]; omega

set_option maxRecDepth 100000 in
set_option maxHeartbeats 1000000 in
theorem begins_any {w : World} {A : Nat} {f : CF} {av ov : Value} (c : Nat) (h : IsF w A f av ov) :
    Calls Try.prog 57 #[.pointer (some ⟨A, 0, none⟩), .int .i64 c] w fun e w' => e = .returned (.int .i64 (opI (bgn f.ow c))) ∧ w' = w := by
  obtain ⟨ao, cap, hov, hm, hnc, hc⟩ := pr_of_own h.ow
  have h6 := h.c6
  rw [hov] at h6
  have HC := hide hc
  clear hc h hov
  unfold maxLen at hm
  go_enter Try.func57, Try.ntmps57
  go_wp2_with fail
  go_loop [5] (fun i => ∃ k : Nat, k ≤ f.ow.length ∧ i = .int .i64 k ∧ Hid (∀ j, (hj : j < f.ow.length) → j < k → f.ow[j].l ≠ c)) (fun i => f.ow.length - (intOf i).toNat)
  case atStart => exact ⟨0, Nat.zero_le _, rfl, fun _ _ h => absurd h (by omega)⟩
  case round =>
    obtain ⟨k, hk, rfl, hall⟩ := hrel
    by_cases hlt : k < f.ow.length
    · obtain ⟨g, hao, hcell⟩ := unhide HC (by intro h; rw [h] at hlt; simp at hlt)
      have hcx := (hcell k hlt).2.1
      clear hcell
      rw [hao] at h6
      cases he : ((f.ow[k].l : Int) == (c : Int)) with
      | true =>
        go_wp2_with fail
        go_ret
        exact ⟨ret_int (by rw [bgn_hit hlt hall.out (by rw [nat_beq] at he; simpa using he)]; rfl), rfl⟩
      | false =>
        go_wp2_with fail
        go_round
        case rel =>
          refine ⟨k + 1, by omega, by go_num, fun j hj hjk => ?_⟩
          by_cases hjk' : j = k
          · subst hjk'; intro e; rw [nat_beq] at he; simp [e] at he
          · exact hall.out j hj (by omega)
        case measure => simp [intOf]; omega
    · have hd : decide ((k : Int) < (f.ow.length : Int)) = false := by simp; omega
      go_wp2_with fail
      go_ret
      exact ⟨ret_int (by rw [bgn_miss (fun j hj => hall.out j hj (by omega))]; rfl), rfl⟩
end Go.Proofs.Ytciihepbeacppaa

namespace Go.Proofs.Ytciihepbeacppaa
open Go.RowKit

/-! ### clear, Differ -/
theorem opI_ge (o : Option Nat) : decide ((0 : Int) ≤ opI o) = o.isSome := by cases o <;> simp [opI]

set_option maxRecDepth 100000 in
set_option maxHeartbeats 1000000 in
theorem clear_any {w : World} {A : Nat} {f : CF} {av ov : Value} (a b : Nat) (h : IsF w A f av ov) :
    Calls Try.prog 69 #[.pointer (some ⟨A, 0, none⟩), .int .i64 a, .int .i64 b] w fun e w' => e = .returned (.bool (clrB f a b)) ∧ w' = w := by
  have HA := hide (begins_any a h)
  have HB := hide (begins_any b h)
  have h0 := h.cls (i := 0) (by omega)
  unfold clV at h0
  obtain ⟨c0, hc0⟩ : ∃ c0, c0 = f.cl.getD 0 0 := ⟨_, rfl⟩
  rw [← hc0] at h0
  have HC := hide hc0
  clear h hc0
  go_enter Try.func69, Try.ntmps69
  go_wp2_with fail
  refine (unhide HA).mono ?_
  rintro e w1 ⟨rfl, rfl⟩
  have hg1 := opI_ge (bgn f.ow a)
  cases h1 : (bgn f.ow a).isSome <;> rw [h1] at hg1
  all_goals
    go_wp2_with fail
    refine (unhide HB).mono ?_
    rintro e w1 ⟨rfl, rfl⟩
    have hg2 := opI_ge (bgn f.ow b)
    cases h2 : (bgn f.ow b).isSome <;> rw [h2] at hg2
  · go_wp2_with fail
    go_ret
    exact ⟨by unfold clrB; rw [h1, h2]; rfl, rfl⟩
  · cases h3 : ((a : Int) == (c0 : Int)) <;>
    · go_wp2_with fail
      go_ret
      exact ⟨by unfold clrB; rw [h1, h2, ← unhide HC]; rw [nat_beq] at h3; simp at h3; simp [h3], rfl⟩
  · cases h3 : ((b : Int) == (c0 : Int)) <;>
    · go_wp2_with fail
      go_ret
      exact ⟨by unfold clrB; rw [h1, h2, ← unhide HC]; rw [nat_beq] at h3; simp at h3; simp [h3], rfl⟩
  · go_wp2_with fail
    go_ret
    exact ⟨by unfold clrB; rw [h1, h2]; rfl, rfl⟩

def dfP (a b : Nat) (p : Pr) : Bool := (p.l == a && p.r == b) || (p.l == b && p.r == a)
theorem dif_here {f : CF} {a b k : Nat} (hne : a ≠ b) (hk : k < f.ap.length) (h : dfP a b f.ap[k] = true) : difB f a b = true := by
  unfold difB
  rw [if_neg hne]
  have : f.ap.any (dfP a b) = true := List.any_eq_true.2 ⟨_, List.getElem_mem hk, h⟩
  show (f.ap.any (dfP a b) || clrB f a b) = true
  rw [this]; rfl
theorem dif_none {f : CF} {a b : Nat} (hne : a ≠ b) (h : ∀ j, (hj : j < f.ap.length) → dfP a b f.ap[j] = false) : difB f a b = clrB f a b := by
  unfold difB
  rw [if_neg hne]
  have : f.ap.any (dfP a b) = false := by
    rw [List.any_eq_false]
    intro p hp
    obtain ⟨j, hj, rfl⟩ := List.mem_iff_getElem.1 hp
    rw [h j hj]; simp
  show (f.ap.any (dfP a b) || clrB f a b) = _
  rw [this]; rfl

set_option maxRecDepth 100000 in
set_option maxHeartbeats 2000000 in
theorem differ_any {w : World} {A : Nat} {f : CF} {av ov : Value} (a b : Nat) (h : IsF w A f av ov) :
    Calls Try.prog 64 #[.pointer (some ⟨A, 0, none⟩), .int .i64 a, .int .i64 b] w fun e w' => e = .returned (.bool (difB f a b)) ∧ Below w.heap.size w w' := by
  by_cases hab : a = b
  · subst hab
    have he : ((a : Int) == (a : Int)) = true := by simp
    go_enter Try.func64, Try.ntmps64
    go_wp2_with fail
    go_ret
    exact ⟨by unfold difB; simp, Below.refl _ _⟩
  · have hne : ((a : Int) == (b : Int)) = false := by rw [nat_beq]; simpa using hab
    obtain ⟨ao, cap, hav, hm, hnc, hc⟩ := pr_of_own h.ap
    have h5 := h.c5
    rw [hav] at h5
    have HC := hide hc
    have HF := hide h
    clear hc hav h
    unfold maxLen at hm
    go_enter Try.func64, Try.ntmps64
    go_wp2_with fail
    go_loopw [17] (fun i wr => ∃ k : Nat, k ≤ f.ap.length ∧ i = .int .i64 k ∧ Hid (∀ j, (hj : j < f.ap.length) → j < k → dfP a b f.ap[j] = false) ∧ Below w.heap.size w wr) (fun i _ => f.ap.length - (intOf i).toNat)
    case atStart => exact ⟨0, Nat.zero_le _, rfl, fun _ _ h => absurd h (by omega), Below.refl _ _⟩
    case round =>
      obtain ⟨k, hk, rfl, hall, hbl⟩ := hrel
      by_cases hlt : k < f.ap.length
      · obtain ⟨g, hao, hcell⟩ := unhide HC (by intro h; rw [h] at hlt; simp at hlt)
        subst hao
        obtain ⟨hx0, hx1, hx2⟩ := hcell k hlt
        have c0 := (hbl.cell (World.block_lt_of_cell? w _ hx0)).trans hx0
        have c1 := (hbl.cell (World.block_lt_of_cell? w _ hx1)).trans hx1
        have c2 := (hbl.cell (World.block_lt_of_cell? w _ hx2)).trans hx2
        clear hcell hx0 hx1 hx2
        have HB := hide hbl
        obtain ⟨p, hp⟩ : ∃ p, p = f.ap[k] := ⟨_, rfl⟩
        rw [← hp] at c0 c1 c2
        have HP := hide hp
        clear hbl hp
        have HR : Hid (dfP a b p = true → difB f a b = true) := hide (fun h => dif_here hab hlt (by rw [← unhide HP]; exact h))
        have HN : Hid (dfP a b p = false → ∀ j, (hj : j < f.ap.length) → j < k + 1 → dfP a b f.ap[j] = false) := hide (fun h j hj hjk => by
          by_cases e : j = k
          · subst e; rw [← unhide HP]; exact h
          · exact hall.out j hj (by omega))
        have round : dfP a b p = false → (∃ k_1 : Nat, k_1 ≤ f.ap.length ∧ Value.int IntKind.i64 ((k : Int) + 1) = Value.int IntKind.i64 k_1 ∧ Hid (∀ (j : Nat) (hj : j < f.ap.length), j < k_1 → dfP a b f.ap[j] = false) ∧ Below w.heap.size w (wr.alloc (Obj.cells #[Value.int IntKind.i64 p.k, Value.int IntKind.i64 p.l, Value.int IntKind.i64 p.r] 89))) ∧ f.ap.length - (intOf (Value.int IntKind.i64 ((k : Int) + 1))).toNat < f.ap.length - (intOf (Value.int IntKind.i64 (k : Int))).toNat := fun h =>
          ⟨⟨k + 1, by omega, by go_num, hide (unhide HN h), (unhide HB).alloc (unhide HB).size _⟩, by simp [intOf]; omega⟩
        have HRo := hide round
        clear round
        cases h1 : ((p.l : Int) == (a : Int)) with
        | true =>
          have hla : Hid (p.l = a) := hide (by rw [nat_beq] at h1; simpa using h1)
          cases h2 : ((p.r : Int) == (b : Int)) with
          | true =>
            have hrb : Hid (p.r = b) := hide (by rw [nat_beq] at h2; simpa using h2)
            go_wp2_with fail
            go_ret
            exact ⟨by rw [unhide HR (by simp [dfP, unhide hla, unhide hrb])]; rfl, (unhide HB).alloc (unhide HB).size _⟩
          | false =>
            have h3 : ((p.l : Int) == (b : Int)) = false := by rw [unhide hla]; exact hne
            have hrb : Hid (p.r ≠ b) := hide (by rw [nat_beq] at h2; simpa using h2)
            go_wp2_with fail
            exact unhide HRo (by simp [dfP, unhide hla, unhide hrb, hab])
        | false =>
          have hla : Hid (p.l ≠ a) := hide (by rw [nat_beq] at h1; simpa using h1)
          cases h3 : ((p.l : Int) == (b : Int)) with
          | true =>
            have hlb : Hid (p.l = b) := hide (by rw [nat_beq] at h3; simpa using h3)
            cases h4 : ((p.r : Int) == (a : Int)) with
            | true =>
              have hra : Hid (p.r = a) := hide (by rw [nat_beq] at h4; simpa using h4)
              go_wp2_with fail
              go_ret
              exact ⟨by rw [unhide HR (by simp [dfP, unhide hlb, unhide hra])]; rfl, (unhide HB).alloc (unhide HB).size _⟩
            | false =>
              have hra : Hid (p.r ≠ a) := hide (by rw [nat_beq] at h4; simpa using h4)
              go_wp2_with fail
              exact unhide HRo (by simp [dfP, unhide hla, unhide hra])
          | false =>
            have hlb : Hid (p.l ≠ b) := hide (by rw [nat_beq] at h3; simpa using h3)
            go_wp2_with fail
            exact unhide HRo (by simp [dfP, unhide hla, unhide hlb])
      · have hd : decide ((k : Int) < (f.ap.length : Int)) = false := by simp; omega
        go_wp2_with fail
        refine (clear_any a b ((unhide HF).of_eq (fun k hk => hbl.block k ((unhide HF).lt k hk)))).mono ?_
        rintro e w1 ⟨rfl, rfl⟩
        go_wp2_with fail
        go_ret
        exact ⟨by rw [dif_none hab (fun j hj => hall.out j hj (by omega))]; rfl, hbl⟩
end Go.Proofs.Ytciihepbeacppaa

namespace Go.Proofs.Ytciihepbeacppaa
open Go.RowKit

/-! ### the search, as it lies in memory -/
def ptr (A : Nat) : Value := .pointer (some ⟨A, 0, none⟩)
def qHead (F0 T0 : Nat) (an : List (Option Nat)) : List Value := [ptr F0, ptr T0] ++ opCells an
def qTail (V0 : Nat) (s : SS) (ov pv : Value) : List Value := [ptr V0, ov, .int .i64 (s.un : Int), pv, .int .i64 s.st]
def qCells (F0 T0 V0 : Nat) (an : List (Option Nat)) (s : SS) (ov pv : Value) : List Value := qHead F0 T0 an ++ (opCells s.bd ++ qTail V0 s ov pv)
def fpS (Q : Nat) (ov pv : Value) : List Nat := Q :: (ov.ownBlock.toList ++ pv.ownBlock.toList)
/-- where things lie: the search, the formulas, their lists, the owners, the placed -/
structure Lay where
  q : Nat
  f : Nat
  t : Nat
  v : Nat
  an : List (Option Nat)
  tav : Value
  tov : Value
  vav : Value
  vov : Value
  ov : Value
  pv : Value
def Lay.fp (y : Lay) : List Nat := fpS y.q y.ov y.pv
structure Sw (w : World) (y : Lay) (T V : CF) (s : SS) : Prop where
  ob : Ob w 62 55 y.q (qCells y.f y.t y.v y.an s y.ov y.pv)
  la : y.an.length = 24
  lb : s.bd.length = 24
  ow : w.ownsRow 0 3 1 y.ov s.ot.length (opCells s.ot)
  pl : w.ownsRow 0 4 1 y.pv s.pl.length (s.pl.map Value.bool)
  nd : y.fp.Nodup
  ft : IsF w y.t T y.tav y.tov
  fv : IsF w y.v V y.vav y.vov
  dt : ∀ k ∈ bsF y.t y.tav y.tov, k ∉ y.fp
  dv : ∀ k ∈ bsF y.v y.vav y.vov, k ∉ y.fp
section
variable {w w' : World} {y : Lay} {T V : CF} {s s' : SS}
theorem opCells_len (l : List (Option Nat)) : (opCells l).length = l.length := by simp [opCells]
theorem qHead_len (h : Sw w y T V s) : (qHead y.f y.t y.an).length = 26 := by simp [qHead, opCells_len, h.la]
theorem Sw.qlt (h : Sw w y T V s) : ∀ k ∈ y.fp, k < w.heap.size := by
  intro k hk
  simp only [Lay.fp, fpS, List.mem_cons, List.mem_append, Option.mem_toList] at hk
  rcases hk with rfl | hk | hk
  · exact (World.ownsRow.lt h.ob _ rfl).2
  · exact (h.ow.lt k hk).2
  · exact (h.pl.lt k hk).2
theorem Sw.frz (h : Sw w y T V s) (j : Nat) : w.frozen? ⟨y.q, j, none⟩ = false := World.ownsRow.frozenAt h.ob j
theorem Sw.c0 (h : Sw w y T V s) : w.cell? ⟨y.q, 0, none⟩ = some (.pointer (some ⟨y.f, 0, none⟩)) := by rw [World.ownsRow.cellAt h.ob 0 (by omega)]; rfl
theorem Sw.c1 (h : Sw w y T V s) : w.cell? ⟨y.q, 1, none⟩ = some (.pointer (some ⟨y.t, 0, none⟩)) := by rw [World.ownsRow.cellAt h.ob 1 (by omega)]; rfl
theorem Sw.tail (h : Sw w y T V s) {j : Nat} (hj : j < 5) : w.cell? ⟨y.q, 50 + j, none⟩ = (qTail y.v s y.ov y.pv)[j]? := by
  rw [World.ownsRow.cellAt h.ob (50 + j) (by omega)]
  unfold qCells
  rw [List.getElem?_append_right (by rw [qHead_len h]; omega), qHead_len h, List.getElem?_append_right (by rw [opCells_len, h.lb]; omega), opCells_len, h.lb]
  rw [show 50 + j - 26 - 24 = j by omega]
theorem Sw.cv (h : Sw w y T V s) : w.cell? ⟨y.q, 50, none⟩ = some (.pointer (some ⟨y.v, 0, none⟩)) := h.tail (j := 0) (by omega)
theorem Sw.co (h : Sw w y T V s) : w.cell? ⟨y.q, 51, none⟩ = some y.ov := h.tail (j := 1) (by omega)
theorem Sw.cu (h : Sw w y T V s) : w.cell? ⟨y.q, 52, none⟩ = some (.int .i64 (s.un : Int)) := h.tail (j := 2) (by omega)
theorem Sw.cp (h : Sw w y T V s) : w.cell? ⟨y.q, 53, none⟩ = some y.pv := h.tail (j := 3) (by omega)
theorem Sw.cs (h : Sw w y T V s) : w.cell? ⟨y.q, 54, none⟩ = some (.int .i64 s.st) := h.tail (j := 4) (by omega)
theorem Sw.cb (h : Sw w y T V s) {r : Nat} (hr : r < 24) : w.cell? ⟨y.q, 26 + r, none⟩ = some (.int .i64 (opI (s.b r))) := by
  rw [World.ownsRow.cellAt h.ob (26 + r) (by omega)]
  unfold qCells
  rw [List.getElem?_append_right (by rw [qHead_len h]; omega), qHead_len h, List.getElem?_append_left (by rw [opCells_len, h.lb]; omega)]
  rw [show 26 + r - 26 = r by omega]
  have hl : r < s.bd.length := by rw [h.lb]; exact hr
  simp [opCells, SS.b, hl]
/-- a change in the search's own block -/
theorem Sw.setQ (h : Sw w y T V s) {j : Nat} {u : Value} (hq : (qCells y.f y.t y.v y.an s y.ov y.pv).set j u = qCells y.f y.t y.v y.an s' y.ov y.pv) (h1 : s'.bd.length = 24) (h2 : s'.ot = s.ot) (h3 : s'.pl = s.pl) : Sw (w.setCell ⟨y.q, j, none⟩ u) y T V s' := by
  have hob := (World.ownsRow.stored h.ob j u).1
  rw [hq] at hob
  have hn := h.nd
  simp only [Lay.fp, fpS, List.nodup_cons, List.mem_append, Option.mem_toList, not_or] at hn
  have hoth : ∀ k, k ≠ y.q → (w.setCell ⟨y.q, j, none⟩ u).heap[k]? = w.heap[k]? := fun k hk => Below.heap_setCell _ _ _ _ (fun e => hk e)
  refine ⟨hob, h.la, h1, ?_, ?_, h.nd, ?_, ?_, h.dt, h.dv⟩
  · rw [h2]; exact ownsRow_of_eq h.ow (fun k hk => hoth k (by rintro rfl; exact hn.1.1 hk))
  · rw [h3]; exact ownsRow_of_eq h.pl (fun k hk => hoth k (by rintro rfl; exact hn.1.2 hk))
  · exact h.ft.of_eq (fun k hk => hoth k (by rintro rfl; exact h.dt _ hk (by simp [Lay.fp, fpS])))
  · exact h.fv.of_eq (fun k hk => hoth k (by rintro rfl; exact h.dv _ hk (by simp [Lay.fp, fpS])))
theorem Sw.setB (h : Sw w y T V s) {r : Nat} (hr : r < 24) (o : Option Nat) : Sw (w.setCell ⟨y.q, 26 + r, none⟩ (.int .i64 (opI o))) y T V { s with bd := s.bd.set r o } := by
  refine h.setQ ?_ (by simpa using h.lb) rfl rfl
  unfold qCells
  rw [List.set_append_right (26 + r) _ (by rw [qHead_len h]; omega), qHead_len h, show 26 + r - 26 = r by omega, List.set_append_left r _ (by rw [opCells_len, h.lb]; exact hr)]
  congr 2
  simp [opCells, List.map_set]
theorem Sw.setT (h : Sw w y T V s) {j : Nat} {u : Value} (h1 : (qTail y.v s y.ov y.pv).set j u = qTail y.v s' y.ov y.pv) (hb : s'.bd = s.bd) (h2 : s'.ot = s.ot) (h3 : s'.pl = s.pl) : Sw (w.setCell ⟨y.q, 50 + j, none⟩ u) y T V s' := by
  refine h.setQ ?_ (by rw [hb]; exact h.lb) h2 h3
  unfold qCells
  rw [List.set_append_right (50 + j) _ (by rw [qHead_len h]; omega), qHead_len h, List.set_append_right (50 + j - 26) _ (by rw [opCells_len, h.lb]; omega), opCells_len, h.lb, show 50 + j - 26 - 24 = j by omega, h1, hb]
theorem Sw.setUn (h : Sw w y T V s) (n : Nat) : Sw (w.setCell ⟨y.q, 52, none⟩ (.int .i64 (n : Int))) y T V { s with un := n } := h.setT (j := 2) rfl rfl rfl rfl
theorem Sw.setSt (h : Sw w y T V s) (n : Int) : Sw (w.setCell ⟨y.q, 54, none⟩ (.int .i64 n)) y T V { s with st := n } := h.setT (j := 4) rfl rfl rfl rfl
/-- the owners -/
theorem Sw.own (h : Sw w y T V s) (hn : s.ot ≠ []) : ∃ O cap, y.ov = .slice (some ⟨O, 0, none⟩) s.ot.length cap ∧ s.ot.length ≤ cap ∧ cap ≤ maxLen ∧ (∀ i, i < s.ot.length → w.cell? ⟨O, i, none⟩ = some (.int .i64 (opI (s.ot.getD i none)))) ∧ (∀ j, w.frozen? ⟨O, j, none⟩ = false) := by
  have ho := h.ow
  rcases h.ow.2 with ⟨_, h0⟩ | ⟨O, cap, cur, hv, _, _, hnc, hm, _⟩
  · exact absurd (List.eq_nil_of_length_eq_zero h0) hn
  · rw [hv] at ho
    refine ⟨O, cap, hv, hnc, hm, fun i hi => ?_, fun j => ho.frozenAt j⟩
    rw [ho.cellAt i (by omega)]
    simp [opCells, hi]
theorem Sw.plc (h : Sw w y T V s) (hn : s.pl ≠ []) : ∃ L cap, y.pv = .slice (some ⟨L, 0, none⟩) s.pl.length cap ∧ s.pl.length ≤ cap ∧ cap ≤ maxLen ∧ (∀ i, i < s.pl.length → w.cell? ⟨L, i, none⟩ = some (.bool (s.pl.getD i false))) ∧ (∀ j, w.frozen? ⟨L, j, none⟩ = false) := by
  have ho := h.pl
  rcases h.pl.2 with ⟨_, h0⟩ | ⟨O, cap, cur, hv, _, _, hnc, hm, _⟩
  · exact absurd (List.eq_nil_of_length_eq_zero h0) hn
  · rw [hv] at ho
    refine ⟨O, cap, hv, hnc, hm, fun i hi => ?_, fun j => ho.frozenAt j⟩
    rw [ho.cellAt i (by omega)]
    simp [hi]
theorem Sw.setO (h : Sw w y T V s) {O cap : Nat} (hv : y.ov = .slice (some ⟨O, 0, none⟩) s.ot.length cap) (i : Nat) (o : Option Nat) : Sw (w.setCell ⟨O, i, none⟩ (.int .i64 (opI o))) y T V { s with ot := s.ot.set i o } := by
  have ho := h.ow
  rw [hv] at ho
  have hst := (ho.stored i (.int .i64 (opI o))).1
  have hm : O ∈ y.fp := by simp [Lay.fp, fpS, hv, Value.ownBlock]
  have hn := h.nd
  simp only [Lay.fp, fpS, List.nodup_cons, List.mem_append, Option.mem_toList, not_or, List.nodup_append] at hn
  have hob : y.ov.ownBlock = some O := by rw [hv]; rfl
  have hoth : ∀ k, k ≠ O → (w.setCell ⟨O, i, none⟩ (.int .i64 (opI o))).heap[k]? = w.heap[k]? := fun k hk => Below.heap_setCell _ _ _ _ (fun e => hk e)
  refine ⟨h.ob.of_eq (hoth _ (fun e => hn.1.1 (by rw [hob, e]))), h.la, h.lb, ?_, ?_, h.nd, ?_, ?_, h.dt, h.dv⟩
  · rw [hv]
    have e : (opCells s.ot).set i (.int .i64 (opI o)) = opCells (s.ot.set i o) := by simp [opCells, List.map_set]
    rw [e] at hst
    simpa using hst
  · exact ownsRow_of_eq h.pl (fun k hk => hoth k (by rintro rfl; exact hn.2.2.2 _ hob _ hk rfl))
  · exact h.ft.of_eq (fun k hk => hoth k (by rintro rfl; exact h.dt _ hk hm))
  · exact h.fv.of_eq (fun k hk => hoth k (by rintro rfl; exact h.dv _ hk hm))
theorem Sw.setP (h : Sw w y T V s) {O cap : Nat} (hv : y.pv = .slice (some ⟨O, 0, none⟩) s.pl.length cap) (i : Nat) (o : Bool) : Sw (w.setCell ⟨O, i, none⟩ (.bool o)) y T V { s with pl := s.pl.set i o } := by
  have ho := h.pl
  rw [hv] at ho
  have hst := (ho.stored i (.bool o)).1
  have hm : O ∈ y.fp := by simp [Lay.fp, fpS, hv, Value.ownBlock]
  have hn := h.nd
  simp only [Lay.fp, fpS, List.nodup_cons, List.mem_append, Option.mem_toList, not_or, List.nodup_append] at hn
  have hob : y.pv.ownBlock = some O := by rw [hv]; rfl
  have hoth : ∀ k, k ≠ O → (w.setCell ⟨O, i, none⟩ (.bool o)).heap[k]? = w.heap[k]? := fun k hk => Below.heap_setCell _ _ _ _ (fun e => hk e)
  refine ⟨h.ob.of_eq (hoth _ (fun e => hn.1.2 (by rw [hob, e]))), h.la, h.lb, ?_, ?_, h.nd, ?_, ?_, h.dt, h.dv⟩
  · exact ownsRow_of_eq h.ow (fun k hk => hoth k (by rintro rfl; exact hn.2.2.2 _ hk _ hob rfl))
  · rw [hv]
    have e : (s.pl.map Value.bool).set i (.bool o) = (s.pl.set i o).map Value.bool := by simp [List.map_set]
    rw [e] at hst
    simpa using hst
  · exact h.ft.of_eq (fun k hk => hoth k (by rintro rfl; exact h.dt _ hk hm))
  · exact h.fv.of_eq (fun k hk => hoth k (by rintro rfl; exact h.dv _ hk hm))
theorem Sw.of_eq (h : Sw w y T V s) (he : ∀ k, k < w.heap.size → w'.heap[k]? = w.heap[k]?) : Sw w' y T V s :=
  ⟨h.ob.of_eq (he _ (World.ownsRow.lt h.ob _ rfl).2), h.la, h.lb, ownsRow_of_eq h.ow (fun k hk => he k (h.ow.lt k hk).2), ownsRow_of_eq h.pl (fun k hk => he k (h.pl.lt k hk).2), h.nd,
   h.ft.of_eq (fun k hk => he k (h.ft.lt k hk)), h.fv.of_eq (fun k hk => he k (h.fv.lt k hk)), h.dt, h.dv⟩
theorem Sw.below (h : Sw w y T V s) (hb : Below w.heap.size w w') : Sw w' y T V s := h.of_eq (fun k hk => hb.block k hk)
theorem Sw.memQ (y : Lay) : y.q ∈ y.fp := by simp [Lay.fp, fpS]
theorem Sw.memO {O n cap : Nat} (hv : y.ov = .slice (some ⟨O, 0, none⟩) n cap) : O ∈ y.fp := by simp [Lay.fp, fpS, hv, Value.ownBlock]
theorem Sw.memP {O n cap : Nat} (hv : y.pv = .slice (some ⟨O, 0, none⟩) n cap) : O ∈ y.fp := by simp [Lay.fp, fpS, hv, Value.ownBlock]
end
end Go.Proofs.Ytciihepbeacppaa

namespace Go.Proofs.Ytciihepbeacppaa
open Go.RowKit

/-! ### end -/
/-- a call of place does as P says -/
def PlC (y : Lay) (T V : CF) (m : Nat) (P : SS → Nat → Bool × SS) : Prop :=
  ∀ (w : World) (s : SS) (count : Nat), Sw w y T V s → Wf V T s → s.un < m → (uP s).length + count = T.ow.length →
    Calls Try.prog 44 #[.pointer (some ⟨y.q, 0, none⟩), .int .i64 count] w fun e w' => e = .returned (.bool (P s count).1) ∧ Sw w' y T V (P s count).2 ∧ Stp y.fp w y.fp w'
def WkC (y : Lay) (T V : CF) (m : Nat) (W : SS → Nat → Nat → Nat → Bool × SS) : Prop :=
  ∀ (w : World) (s : SS) (k at_ count : Nat), Sw w y T V s → Wf V T s → s.un < m → k ∈ uP s → (uP s).length + count = T.ow.length →
    Calls Try.prog 56 #[.pointer (some ⟨y.q, 0, none⟩), .int .i64 k, .int .i64 at_, .int .i64 count] w fun e w' => e = .returned (.bool (W s k at_ count).1) ∧ Sw w' y T V (W s k at_ count).2 ∧ Stp y.fp w y.fp w'
theorem uP_mem {s : SS} {k : Nat} (h : k ∈ uP s) : k < s.pl.length ∧ s.pl.getD k false = false := by
  obtain ⟨h1, h2⟩ := List.mem_filter.1 h
  exact ⟨List.mem_range.1 h1, by simpa using h2⟩
theorem pr_at {l : List Pr} {k : Nat} (h : k < l.length) : l.getD k pr0 = l[k] := by simp [h]
theorem opI_neg (o : Option Nat) : (opI o != (-1 : Int)) = o.isSome := by
  cases o with
  | none => rfl
  | some n => simp [opI]

set_option maxRecDepth 100000 in
set_option maxHeartbeats 4000000 in
theorem end_any {y : Lay} {T V : CF} (hT : Rm T) {m : Nat} {P : SS → Nat → Bool × SS} (hP : PlC y T V m P) (hPk : PlOK V T P) {w : World} {s : SS} {k at_ count : Nat} (h : Sw w y T V s) (hw : Wf V T s) (hm : s.un < m) (hk : k ∈ uP s) (hc : (uP s).length + count = T.ow.length) :
    Calls Try.prog 65 #[.pointer (some ⟨y.q, 0, none⟩), .int .i64 k, .int .i64 at_, .int .i64 count] w fun e w' => e = .returned (.bool (enF P T s k at_ count).1) ∧ Sw w' y T V (enF P T s k at_ count).2 ∧ Stp y.fp w y.fp w' := by
  obtain ⟨hkl, hkp⟩ := uP_mem hk
  have hkT : k < T.ow.length := by rw [← hw.lp]; exact hkl
  obtain ⟨ao, tcap, hov, htm, htn, htc⟩ := pr_of_own h.ft.ow
  obtain ⟨g, hao, hcell⟩ := htc (by intro e; rw [e] at hkT; simp at hkT)
  have hr := (hcell k hkT).2.2
  have hT6 := h.ft.c6
  rw [hov, hao] at hT6
  have hq1 := h.c1
  obtain ⟨right, hri⟩ : ∃ right, right = (T.ow.getD k pr0).r := ⟨_, rfl⟩
  have hr24 : right < 24 := by rw [hri]; exact (hT.at k).2
  rw [← pr_at hkT, ← hri] at hr
  have hcb := h.cb hr24
  obtain ⟨bef, hbe⟩ : ∃ bef, bef = s.b right := ⟨_, rfl⟩
  rw [← hbe] at hcb
  have hpne : s.pl ≠ [] := by intro e; rw [e] at hkl; simp at hkl
  obtain ⟨L, lcap, hpv, hlc, hlm, hpc, hpf⟩ := h.plc hpne
  have hlen := hw.lp
  have hcl : count < T.ow.length := by
    have := List.length_pos_of_mem hk
    omega
  have hfz := h.frz (26 + right)
  have HS := hide h
  have HW := hide hw
  have HK := hide hk
  have HC := hide hc
  have HPC := hide hP
  have HPK := hide hPk
  have HRI := hide hri
  have HBE := hide hbe
  have HPV := hide hpv
  have HM := hide hm
  -- behind the two stores
  have HS1 := hide (h.setB hr24 (some at_))
  have hq7 := (unhide HS1).cp
  rw [hpv] at hq7
  have hpf1 : (w.setCell ⟨y.q, 26 + right, none⟩ (.int .i64 (opI (some at_)))).frozen? ⟨L, k, none⟩ = false := by
    obtain ⟨L', c', e', _, _, _, h2⟩ := (unhide HS1).plc hpne
    rw [hpv] at e'
    cases e'
    exact h2 k
  have hpc1 : (w.setCell ⟨y.q, 26 + right, none⟩ (.int .i64 (opI (some at_)))).cell? ⟨L, k, none⟩ = some (.bool false) := by
    obtain ⟨L', c', e', _, _, h2, _⟩ := (unhide HS1).plc hpne
    rw [hpv] at e'
    cases e'
    have := h2 k hkl
    rw [this]
    exact congrArg some (congrArg Value.bool hkp)
  have HS2 := hide ((unhide HS1).setP (i := k) (o := true) hpv)
  rw [show (opI (some at_)) = (at_ : Int) from rfl] at hq7 hpf1 hpc1 HS2 HS1
  have hlm2 : lcap ≤ 9223372036854775807 := by unfold maxLen at hlm; omega
  have htm2 : tcap ≤ 9223372036854775807 := by unfold maxLen at htm; omega
  clear htm hlm
  have hs2u : ({ s with bd := s.bd.set right (some at_), pl := s.pl.set k true } : SS).un < m := hm
  have hw2 : Wf V T { s with bd := s.bd.set right (some at_), pl := s.pl.set k true } := ⟨hw.lo, by simpa using hw.lp, by simpa using hw.lb, hw.un⟩
  have hup := uP_take (s := s) hk (s' := { s with bd := s.bd.set right (some at_), pl := s.pl.set k true }) rfl
  have hle := hup.length_eq
  rw [List.length_cons] at hle
  have hc2 : (uP { s with bd := s.bd.set right (some at_), pl := s.pl.set k true }).length + (count + 1) = T.ow.length := by omega
  have HCall := hide (hP _ _ (count + 1) (unhide HS2) hw2 hs2u hc2)
  have HOK := hide (hPk _ (count + 1) hw2 hc2 _ _ rfl)
  -- what end answers
  obtain ⟨r, hr0⟩ : ∃ r, r = P { s with bd := s.bd.set right (some at_), pl := s.pl.set k true } (count + 1) := ⟨_, rfl⟩
  rw [← hr0] at HCall HOK
  have HEn : Hid ((bef = none ∨ bef = some at_) → enF P T s k at_ count = (if r.1 = true then (true, r.2) else (false, { r.2 with pl := r.2.pl.set k false, bd := r.2.bd.set right bef }))) := hide (fun hb => by
    unfold enF
    rw [← hri, ← hbe, if_neg (by rintro ⟨a, b⟩; rcases hb with hb | hb; exact a hb; exact b hb), ← hr0]
    obtain ⟨b1, s1⟩ := r
    cases b1 <;> rfl)
  have HEf : Hid (¬ (bef = none ∨ bef = some at_) → enF P T s k at_ count = (false, s)) := hide (fun hb => by
    unfold enF
    rw [← hri, ← hbe, if_pos ⟨fun e => hb (Or.inl e), fun e => hb (Or.inr e)⟩])
  have HSt2 : Hid (Stp y.fp w y.fp ((w.setCell ⟨y.q, 26 + right, none⟩ (.int .i64 (at_ : Int))).setCell ⟨L, k, none⟩ (.bool true))) := hide (((Stp.refl y.fp w).setCell (Or.inl (Sw.memQ y)) _).setCell (Or.inl (Sw.memP hpv)) _)
  clear hr0 hw2 hs2u hc2 hle hup
  clear h hw hk hc hP hPk hri hbe hpv hcell htc hpc hpf hm hov hao hkp
  have main : ∀ (hbef : Hid (bef = none ∨ bef = some at_)) (x : Int) (hx : w.cell? ⟨y.q, 26 + right, none⟩ = some (.int .i64 x)) (hxb : Hid (x = opI bef)) (hx1 : (x != (-1 : Int)) = false ∨ ((x != (-1 : Int)) = true ∧ (x != (at_ : Int)) = false)), Calls Try.prog 65 #[.pointer (some ⟨y.q, 0, none⟩), .int .i64 k, .int .i64 at_, .int .i64 count] w fun e w' => e = .returned (.bool (enF P T s k at_ count).1) ∧ Sw w' y T V (enF P T s k at_ count).2 ∧ Stp y.fp w y.fp w' := by
    intro hbef x hx hxb hx1
    have HEn' := hide (unhide HEn (unhide hbef))
    clear hcb hbef
    rcases hx1 with hx1 | ⟨hx1, hx2⟩
    all_goals
      go_enter Try.func65, Try.ntmps65
      go_wp2_with fail
      rw [show ((count : Int) + 1) = ((count + 1 : Nat) : Int) by omega]
      refine (unhide HCall).mono ?_
      rintro e w3 ⟨rfl, hS3, hT3⟩
      obtain ⟨b, s3⟩ := r
      cases b with
      | true =>
        have HS3 := hide hS3
        have HT3 := hide hT3
        clear hS3 hT3
        go_wp2_with fail
        go_ret
        rw [unhide HEn']
        exact ⟨rfl, unhide HS3, (unhide HSt2).trans (unhide HT3)⟩
      | false =>
        have hs3 := (unhide HOK).1 rfl
        dsimp only at hS3 hs3
        have hpl3 : s3.pl = s.pl.set k true := by rw [hs3]
        have hpne3 : s3.pl ≠ [] := by
          rw [hpl3]; intro e
          have := congrArg List.length e
          simp at this
          exact hpne this
        have hc3 := hS3.cp
        rw [unhide HPV] at hc3
        obtain ⟨L', lc', e', _, _, hpc3, hpf3⟩ := hS3.plc hpne3
        rw [unhide HPV] at e'
        have eL : L = L' := by injection e' with e1 _ _; injection e1 with e1; injection e1
        subst eL
        have hx3 := hpc3 k (by rw [hpl3]; simpa using hkl)
        have hy3 := hpf3 k
        have hl3 : s3.pl.length = s.pl.length := by rw [hpl3]; simp
        have HS4 := hide (hS3.setP (i := k) (o := false) (by rw [hl3]; exact unhide HPV))
        have hfz4 := (unhide HS4).frz (26 + right)
        have HS5 := hide ((unhide HS4).setB hr24 bef)
        have HT5 : Hid (Stp y.fp w y.fp ((w3.setCell ⟨L, k, none⟩ (.bool false)).setCell ⟨y.q, 26 + right, none⟩ (.int .i64 (opI bef)))) := hide (((unhide HSt2).trans ((hT3.setCell (Or.inl (Sw.memP (unhide HPV))) _).setCell (Or.inl (Sw.memQ y)) _)))
        rw [← unhide hxb] at HS5 HT5
        have hcb4 : ∃ u, (w3.setCell ⟨L, k, none⟩ (.bool false)).cell? ⟨y.q, 26 + right, none⟩ = some u := ⟨_, (unhide HS4).cb hr24⟩
        obtain ⟨u4, hcb4⟩ := hcb4
        clear hS3 hT3 hpc3 hpf3 hs3 hpl3 hpne3 hl3
        go_wp2_with fail
        go_ret
        rw [unhide HEn']
        exact ⟨rfl, unhide HS5, unhide HT5⟩
  have HCb := hide hcb
  have HM := hide main
  clear main
  cases bef with
  | none => exact unhide HM (hide (Or.inl rfl)) (-1) hcb (hide rfl) (Or.inl rfl)
  | some b0 =>
    by_cases e : b0 = at_
    · refine unhide HM (hide (Or.inr (by rw [e]))) (b0 : Int) hcb (hide rfl) (Or.inr ⟨opI_neg (some b0), ?_⟩)
      rw [e]; simp
    · have hne : ((b0 : Int) != (at_ : Int)) = true := by rw [bne_iff_ne]; omega
      have hn1 : ((b0 : Int) != (-1 : Int)) = true := opI_neg (some b0)
      have hcb' : w.cell? ⟨y.q, 26 + right, none⟩ = some (.int .i64 (b0 : Int)) := hcb
      have HEf' := hide (unhide HEf (by rintro (h | h); cases h; exact e (Option.some.inj h)))
      clear hcb
      go_enter Try.func65, Try.ntmps65
      go_wp2_with fail
      go_ret
      rw [unhide HEf']
      exact ⟨rfl, unhide HS, Stp.refl _ _⟩
end Go.Proofs.Ytciihepbeacppaa
