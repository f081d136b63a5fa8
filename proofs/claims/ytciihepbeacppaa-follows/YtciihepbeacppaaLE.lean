import Derived.Test.YtciihepbeacppaaMK
import Derived.Deep.DeepCutAuto
import Derived.Deep.Cut
import Derived.Deep.CutRange
import Derived.Deep.QuietTactic
import Derived.BigQuiet
import Derived.BigRegion
import Derived.Test.YtciihepbeacppaaHJ
import Derived.Test.YtciihepbeacppaaMA
namespace Go.Proofs.Ytciihepbeacppaa
open Go.RowKit

def vsK (store : List Int) (k : Nat) : List Int := (List.range k).map (fun j => store.getD j 0)
theorem vsK_len (store : List Int) (k : Nat) : (vsK store k).length = k := by simp [vsK]
theorem vsK_step (store : List Int) (k : Nat) : vsK store (k + 1) = vsK store k ++ [store.getD k 0] := by simp [vsK, List.range_succ]
theorem cells4H {w : World} {r : Nat} {a b c d : Value} {T : TypeId} (h : w.heap[r]? = some (.cells #[a, b, c, d] T (0, 0))) : (w.cell? ⟨r, 0, none⟩ = some a ∧ w.cell? ⟨r, 1, none⟩ = some b ∧ w.cell? ⟨r, 2, none⟩ = some c ∧ w.cell? ⟨r, 3, none⟩ = some d) ∧ ∀ j, w.frozen? ⟨r, j, none⟩ = false := by
  refine ⟨⟨?_, ?_, ?_, ?_⟩, fun j => ?_⟩ <;> simp [World.cell?, World.frozen?, h]
/-- the heap while its store is laid -/
structure HsA (w0 wr : World) (vv sv : Value) (l : List Int) : Prop where
  hx : wr.heap[w0.heap.size]? = some (.cells #[vv, sv, .slice none 0 0, .slice none 0 0] 33 (0, 0))
  rw : wr.ownsRow (w0.heap.size + 1) 3 1 sv l.length (ints l)
  bl : Below w0.heap.size w0 wr
  sz : w0.heap.size + 1 ≤ wr.heap.size
  nn : ∀ v ∈ l, 0 ≤ v ∧ v ≤ 1048576

theorem HsA.add {w0 wr w4 : World} {vv sv : Value} {l : List Int} {x : Int} {g cap : Nat} {o : Obj} (h : HsA w0 wr vv sv l) (hx : 0 ≤ x ∧ x ≤ 1048576) (hown : w4.ownsRow (w0.heap.size + 1) 3 1 (.slice (some ⟨g, 0, none⟩) (l.length + 1) cap) (l.length + 1) (ints l ++ [.int .i64 x])) (hg : (wr.alloc o).grownBy w4 sv.ownBlock) :
    w4.heap[w0.heap.size]? = some (.cells #[vv, sv, .slice none 0 0, .slice none 0 0] 33 (0, 0)) ∧ HsA w0 (w4.setCell ⟨w0.heap.size, 1, none⟩ (.slice (some ⟨g, 0, none⟩) (l.length + 1) cap)) vv (.slice (some ⟨g, 0, none⟩) (l.length + 1) cap) (l ++ [x]) := by
  have hs := h.sz
  have h4 : w4.heap[w0.heap.size]? = some (.cells #[vv, sv, .slice none 0 0, .slice none 0 0] 33 (0, 0)) := by
    rw [hg.block _ (by simp; omega) (fun e => by have := (h.rw.lt _ e.symm).1; omega), Below.heap_alloc _ _ _ (by omega)]
    exact h.hx
  refine ⟨h4, set6 h4 _, ?_, ?_, ?_, fun v hv => ?_⟩
  · have e : ints (l ++ [x]) = ints l ++ [.int .i64 x] := by simp [ints]
    rw [e, List.length_append, List.length_singleton]
    exact own_setH hown (by omega) _
  · exact ((h.bl.alloc (by omega) o).grown hg (by simp; omega) (fun k e => by have := (h.rw.lt k e).1; omega)).setCell (p := ⟨w0.heap.size, 1, none⟩) (Nat.le_refl _) _
  · have := hg.size; simp [World.setCell] at this ⊢; omega
  · rcases List.mem_append.1 hv with hv | hv
    · exact h.nn v hv
    · simp at hv; subst hv; exact hx

/-- a list of ints that is given -/
structure LsI (w : World) (v : Value) (l : List Int) : Prop where
  le : l.length ≤ 20000
  sl : ∃ ao cap, v = .slice ao l.length cap
  g : 0 < l.length → Lst w v 1 l.length (ints l)
/-- the heap while its cells are laid -/
structure HsC (w0 wr : World) (vv sv av xv : Value) (st ad nx : List Int) : Prop where
  hx : wr.heap[w0.heap.size]? = some (.cells #[vv, sv, av, xv] 33 (0, 0))
  rs : wr.ownsRow (w0.heap.size + 1) 3 1 sv st.length (ints st)
  ra : wr.ownsRow (w0.heap.size + 1) 3 1 av ad.length (ints ad)
  rx : wr.ownsRow (w0.heap.size + 1) 3 1 xv nx.length (ints nx)
  bl : Below w0.heap.size w0 wr
  sz : w0.heap.size + 1 ≤ wr.heap.size
  n1 : ∀ k, sv.ownBlock = some k → av.ownBlock ≠ some k ∧ xv.ownBlock ≠ some k
  n2 : ∀ k, av.ownBlock = some k → xv.ownBlock ≠ some k
theorem HsA.toC {w0 wr : World} {vv sv : Value} {l : List Int} (h : HsA w0 wr vv sv l) : HsC w0 wr vv sv (.slice none 0 0) (.slice none 0 0) l [] [] :=
  ⟨h.hx, h.rw, World.ownsRow_nil _ _ _ _, World.ownsRow_nil _ _ _ _, h.bl, h.sz, fun k _ => ⟨fun e => (by cases e), fun e => (by cases e)⟩, fun k e => (by cases e)⟩
theorem ints_app1 (l : List Int) (x : Int) : ints (l ++ [x]) = ints l ++ [.int .i64 x] := by simp [ints]
theorem HsC.addA {w0 wr w4 : World} {vv sv av xv : Value} {st ad nx : List Int} {x : Int} {g cap k n : Nat} {o : Obj} (h : HsC w0 wr vv sv av xv st ad nx) (hn : ad.length = n) (hown : w4.ownsRow (w0.heap.size + 1) 3 1 (.slice (some ⟨g, 0, none⟩) (n + 1) cap) (n + 1) (ints ad ++ [.int .i64 x]))
    (hg : ((wr.drewN k).alloc o).grownBy w4 av.ownBlock) (hblk : some g = av.ownBlock ∨ g = ((wr.drewN k).alloc o).heap.size) :
    HsC w0 (w4.setCell ⟨w0.heap.size, 2, none⟩ (.slice (some ⟨g, 0, none⟩) (n + 1) cap)) vv sv (.slice (some ⟨g, 0, none⟩) (n + 1) cap) xv st (ad ++ [x]) nx := by
  subst hn
  have hs := h.sz
  have hsz : ((wr.drewN k).alloc o).heap.size = wr.heap.size + 1 := by simp
  have hsame : ∀ j, j < wr.heap.size → av.ownBlock ≠ some j → w4.heap[j]? = wr.heap[j]? := fun j h1 h2 => by
    rw [hg.block j (by omega) (fun e => h2 e.symm)]
    exact Below.heap_alloc (wr.drewN k) o j h1
  have h4 : w4.heap[w0.heap.size]? = some (.cells #[vv, sv, av, xv] 33 (0, 0)) := (hsame _ (by omega) (fun e => by have := (h.ra.lt _ e).1; omega)).trans h.hx
  have hgn : sv.ownBlock ≠ some g ∧ xv.ownBlock ≠ some g := by
    rcases hblk with e | e
    · exact ⟨fun e2 => (h.n1 g e2).1 e.symm, h.n2 g e.symm⟩
    · exact ⟨fun e2 => by have := (h.rs.lt g e2).2; omega, fun e2 => by have := (h.rx.lt g e2).2; omega⟩
  refine ⟨set6 h4 _, own_setH (ownsRow_of_eq h.rs (fun j hj => hsame j (h.rs.lt j hj).2 (h.n1 j hj).1)) (by omega) _, ?_, own_setH (ownsRow_of_eq h.rx (fun j hj => hsame j (h.rx.lt j hj).2 (fun e => h.n2 j e hj))) (by omega) _, ?_, ?_, fun j hj => ⟨fun e => ?_, (h.n1 j hj).2⟩, fun j hj => ?_⟩
  · rw [ints_app1, List.length_append, List.length_singleton]
    exact own_setH hown (by omega) _
  · exact (((h.bl.trans (⟨rfl, rfl, rfl, Nat.le_refl _, fun _ _ => rfl⟩ : Below w0.heap.size wr (wr.drewN k))).alloc (by simp; omega) o).grown hg (by omega) (fun j e => by have := (h.ra.lt j e).1; omega)).setCell (p := ⟨w0.heap.size, 2, none⟩) (Nat.le_refl _) _
  · have := hg.size; simp [World.setCell] at this ⊢; omega
  · cases e; exact hgn.1 hj
  · cases hj; exact hgn.2
theorem HsC.addX {w0 wr w4 : World} {vv sv av xv : Value} {st ad nx : List Int} {x : Int} {g cap k n : Nat} {o : Obj} (h : HsC w0 wr vv sv av xv st ad nx) (hn : nx.length = n) (hown : w4.ownsRow (w0.heap.size + 1) 3 1 (.slice (some ⟨g, 0, none⟩) (n + 1) cap) (n + 1) (ints nx ++ [.int .i64 x]))
    (hg : ((wr.drewN k).alloc o).grownBy w4 xv.ownBlock) (hblk : some g = xv.ownBlock ∨ g = ((wr.drewN k).alloc o).heap.size) :
    HsC w0 (w4.setCell ⟨w0.heap.size, 3, none⟩ (.slice (some ⟨g, 0, none⟩) (n + 1) cap)) vv sv av (.slice (some ⟨g, 0, none⟩) (n + 1) cap) st ad (nx ++ [x]) := by
  subst hn
  have hs := h.sz
  have hsz : ((wr.drewN k).alloc o).heap.size = wr.heap.size + 1 := by simp
  have hsame : ∀ j, j < wr.heap.size → xv.ownBlock ≠ some j → w4.heap[j]? = wr.heap[j]? := fun j h1 h2 => by
    rw [hg.block j (by omega) (fun e => h2 e.symm)]
    exact Below.heap_alloc (wr.drewN k) o j h1
  have h4 : w4.heap[w0.heap.size]? = some (.cells #[vv, sv, av, xv] 33 (0, 0)) := (hsame _ (by omega) (fun e => by have := (h.rx.lt _ e).1; omega)).trans h.hx
  have hgn : sv.ownBlock ≠ some g ∧ av.ownBlock ≠ some g := by
    rcases hblk with e | e
    · exact ⟨fun e2 => (h.n1 g e2).2 e.symm, fun e2 => h.n2 g e2 e.symm⟩
    · exact ⟨fun e2 => by have := (h.rs.lt g e2).2; omega, fun e2 => by have := (h.ra.lt g e2).2; omega⟩
  refine ⟨set6 h4 _, own_setH (ownsRow_of_eq h.rs (fun j hj => hsame j (h.rs.lt j hj).2 (h.n1 j hj).2)) (by omega) _, own_setH (ownsRow_of_eq h.ra (fun j hj => hsame j (h.ra.lt j hj).2 (h.n2 j hj))) (by omega) _, ?_, ?_, ?_, fun j hj => ⟨(h.n1 j hj).1, fun e => ?_⟩, fun j hj e => ?_⟩
  · rw [ints_app1, List.length_append, List.length_singleton]
    exact own_setH hown (by omega) _
  · exact (((h.bl.trans (⟨rfl, rfl, rfl, Nat.le_refl _, fun _ _ => rfl⟩ : Below w0.heap.size wr (wr.drewN k))).alloc (by simp; omega) o).grown hg (by omega) (fun j e => by have := (h.rx.lt j e).1; omega)).setCell (p := ⟨w0.heap.size, 3, none⟩) (Nat.le_refl _) _
  · have := hg.size; simp [World.setCell] at this ⊢; omega
  · cases e; exact hgn.1 hj
  · cases e; exact hgn.2 hj
theorem HsC.drewN {w0 wr : World} {vv sv av xv : Value} {st ad nx : List Int} (h : HsC w0 wr vv sv av xv st ad nx) (n : Nat) : HsC w0 (wr.drewN n) vv sv av xv st ad nx :=
  ⟨h.hx, h.rs, h.ra, h.rx, h.bl.trans ⟨rfl, rfl, rfl, Nat.le_refl _, fun _ _ => rfl⟩, h.sz, h.n1, h.n2⟩
theorem HsC.below {w0 wr w' : World} {vv sv av xv : Value} {st ad nx : List Int} (h : HsC w0 wr vv sv av xv st ad nx) (hb : Below wr.heap.size wr w') : HsC w0 w' vv sv av xv st ad nx :=
  ⟨(hb.block _ (by have := h.sz; omega)).trans h.hx, rowBelow2 h.rs hb, rowBelow2 h.ra hb, rowBelow2 h.rx hb, h.bl.trans (hb.mono (by have := h.sz; omega)), Nat.le_trans h.sz hb.size, h.n1, h.n2⟩
def evK (c : List Int) (m : Nat) : List Int := (List.range m).map (fun j => c.getD (2 * j) 0)
def odK (c : List Int) (m : Nat) : List Int := (List.range m).map (fun j => c.getD (2 * j + 1) 0)
theorem evK_len (c : List Int) (m : Nat) : (evK c m).length = m := by simp [evK]
theorem odK_len (c : List Int) (m : Nat) : (odK c m).length = m := by simp [odK]
theorem evK_step (c : List Int) (m : Nat) : evK c (m + 1) = evK c m ++ [c.getD (2 * m) 0] := by simp [evK, List.range_succ]
theorem odK_step (c : List Int) (m : Nat) : odK c (m + 1) = odK c m ++ [c.getD (2 * m + 1) 0] := by simp [odK, List.range_succ]
/-- so far they are cells -/
structure OkC (c : List Int) (m : Nat) : Prop where
  sa : ∀ v ∈ evK c m, 0 < v ∧ v ≤ 1048576
  sn : ∀ v ∈ odK c m, 0 ≤ v ∧ v ≤ 1048576
  up : (evK c m).Pairwise (· < ·)
theorem OkC.zero (c : List Int) : OkC c 0 := ⟨fun v hv => by simp [evK] at hv, fun v hv => by simp [odK] at hv, by simp [evK]⟩
theorem up_last {l : List Int} {p a : Int} (h : (l ++ [p]).Pairwise (· < ·)) (ha : p < a) : ((l ++ [p]) ++ [a]).Pairwise (· < ·) := by
  rw [List.pairwise_append]
  refine ⟨h, List.pairwise_singleton _ _, fun x hx y hy => ?_⟩
  rw [List.mem_singleton] at hy
  subst hy
  rcases List.mem_append.1 hx with hx | hx
  · have := (List.pairwise_append.1 h).2.2 x hx p (by simp)
    omega
  · rw [List.mem_singleton] at hx; subst hx; exact ha
theorem OkC.step {c : List Int} {m : Nat} (h : OkC c m) (h1 : 0 < c.getD (2 * m) 0 ∧ c.getD (2 * m) 0 ≤ 1048576) (h2 : 0 ≤ c.getD (2 * m + 1) 0 ∧ c.getD (2 * m + 1) 0 ≤ 1048576) (h3 : ∀ j, m = j + 1 → c.getD (2 * j) 0 < c.getD (2 * m) 0) : OkC c (m + 1) := by
  refine ⟨fun v hv => ?_, fun v hv => ?_, ?_⟩
  · rw [evK_step] at hv
    rcases List.mem_append.1 hv with hv | hv
    · exact h.sa v hv
    · rw [List.mem_singleton] at hv; subst hv; exact h1
  · rw [odK_step] at hv
    rcases List.mem_append.1 hv with hv | hv
    · exact h.sn v hv
    · rw [List.mem_singleton] at hv; subst hv; exact h2
  · cases m with
    | zero => rw [evK_step]; simp [evK]
    | succ j =>
      have hu := h.up
      rw [evK_step]
      rw [evK_step] at hu ⊢
      exact up_last hu (h3 j rfl)
theorem rfo_len : ∀ (l : List ByteArray) (cur : List ByteArray) (al : List RAt), rfo cur l = some al → al.length ≤ l.length + 1 := by
  have hp : ∀ cur : List ByteArray, (pce cur).length ≤ 1 := by
    intro cur
    unfold pce
    split <;> simp
  intro l
  induction l with
  | nil =>
    intro cur al h
    simp only [rfo] at h
    split at h
    · cases h; have := hp cur; simpa using this
    · cases h
  | cons x r ih =>
    intro cur al h
    simp only [rfo] at h
    split at h
    · split at h
      · obtain ⟨q, hq, rfl⟩ := Option.map_eq_some_iff.1 h
        have h1 := ih _ _ hq
        have h2 := hp cur
        rw [List.length_append, List.length_cons]
        omega
      · cases h
    · have := ih _ _ h
      rw [List.length_cons]
      omega
theorem rrW_le {l : List UInt8} (h : foE l = 0) : (rrW l).length ≤ 240 := by
  unfold foE at h
  by_cases h1 : 240 < l.length
  · rw [if_pos h1] at h; cases h
  · rw [if_neg h1] at h
    cases hs : spl l with
    | none => rw [if_pos hs] at h; cases h
    | some L =>
      have := (splitF_len _ _ _ hs).2
      unfold rrW
      rw [hs]
      simp only [Option.getD_some, List.length_map]
      omega
theorem paE_both {a b : List UInt8} (h : paE a b = 0) : foE a = 0 ∧ foE b = 0 := by
  unfold paE at h
  by_cases h1 : foE a ≠ 0
  · rw [if_pos h1] at h; exact absurd h h1
  · rw [if_neg h1] at h
    by_cases h2 : foE b ≠ 0
    · rw [if_pos h2] at h; exact absurd h h2
    · exact ⟨by omega, by omega⟩
theorem fo_len {a b : List UInt8} {al : List RAt} (h : paE a b = 0) (h2 : rfo [] (rrW a) = some al) : al.length ≤ 241 := by
  have h1 := rfo_len _ _ _ h2
  have h3 := rrW_le (paE_both h).1
  omega
theorem fo_len2 {a b : List UInt8} {bl : List RAt} (h : paE a b = 0) (h2 : rfo [] (rrW b) = some bl) : bl.length ≤ 241 := by
  have h1 := rfo_len _ _ _ h2
  have h3 := rrW_le (paE_both h).2
  omega
theorem HpB_below {w w' : World} {X : Nat} {ns : List ByteArray} {vs : List Int} (h : HpB w X ns vs) (hb : Below w.heap.size w w') : HpB w' X ns vs := by
  obtain ⟨nv, sv, h1, h2, h3, h4⟩ := h
  exact ⟨nv, sv, by rw [hb.cell (World.block_lt_of_cell? w _ h1)]; exact h1, by rw [hb.cell (World.block_lt_of_cell? w _ h2)]; exact h2, h3.below hb, h4.below hb⟩
set_option maxRecDepth 100000 in
set_option maxHeartbeats 8000000 in
theorem entailed_good {s t : ByteArray} {stv cev : Value} {store cells : List Int} (w : World) (hs : s.size ≤ 20000) (ht : t.size ≤ 20000) (h0 : paE s.data.toList t.data.toList = 0) (hst : LsI w stv store) (hce : LsI w cev cells)
    (HEnt : ∀ w, Calls Try.prog 5 #[.string s, .string t] w fun e w' => ∃ (y : Bool) (n : Nat), e = .returned (.tuple #[.bool y, .int .i64 n]) ∧ Below w.heap.size w w' ∧ EntP s.data.toList t.data.toList y n) :
    Calls Try.prog 4 #[.string s, .string t, stv, cev] w fun e w' => e = .returned (.bool true) ∧ Below w.heap.size w w' := by
  obtain ⟨j0, hj, hy0, hy1, hy2⟩ := info_parts Try.infoInt
  have HE := hide HEnt
  have H0 := hide h0
  have HST := hide hst
  have HCE := hide hce
  have hsl := hst.le
  have hcl := hce.le
  obtain ⟨sa, sc, rfl⟩ := hst.sl
  obtain ⟨ca, cc, rfl⟩ := hce.sl
  clear HEnt h0 hst hce
  go_enter Try.func4, Try.ntmps4
  go_wp2_with fail
  refine (unhide HE w).mono ?_
  rintro e w1 ⟨y, n, rfl, hb1, hE⟩
  have HN : Hid (n = 0 ∨ (n = 7 ∧ y = false)) := hide (hE.2 (unhide H0)).1
  have HQ := hide (hE.2 (unhide H0)).2
  have HB1 := hide hb1
  clear hb1 hE
  go_wp2_with fail
  refine (paired_law s t w1 hs ht).mono ?_
  rintro e w2 ⟨hb2, (⟨hz, _⟩ | ⟨_, al, bl, av, bv, vv, hal, hbl, rfl, hra, hrb, hrv⟩)⟩
  · exact absurd (unhide H0) hz
  · obtain ⟨a1, c1, hv⟩ := slice_of_own hra
    obtain ⟨a2, c2, hv2⟩ := slice_of_own hrb
    obtain ⟨a3, c3, hv3⟩ := slice_of_own hrv
    subst hv
    subst hv2
    subst hv3
    have HB2 := hide ((unhide HB1).trans (hb2.mono (unhide HB1).size))
    have HAL := hide hal
    have HBL := hide hbl
    have HRA := hide hra
    have HRB := hide hrb
    have HRV := hide hrv
    obtain ⟨V, hV⟩ : ∃ V, V = (nm2 s.data.toList t.data.toList).length := ⟨_, rfl⟩
    have HV := hide hV
    rw [← hV]
    have hV2 : V ≤ 4 := by
      rcases Nat.lt_or_ge 4 V with h | h
      · exfalso
        have h1 := unhide H0
        unfold paE at h1
        split at h1
        · contradiction
        · split at h1
          · contradiction
          · rw [if_pos (Or.inl (by rw [← hV]; exact h))] at h1; cases h1
      · exact h
    clear hal hbl hra hrb hrv hb2 hV
    have hcase : ((n : Int) != 0) = false ∨ (((n : Int) != 0) = true ∧ ((n : Int) != 7) = false ∧ y = false) := by
      rcases unhide HN with h | ⟨h, h2⟩
      · left; simp [h]
      · right; exact ⟨by simp [h], by simp [h], h2⟩
    have HCA := hide hcase
    clear hcase
    go_upto_region 5 with fail
    go_cut [52] (fun c wx => c = .bool false ∧ wx = w2)
    case first =>
      rcases unhide HCA with h | ⟨h1, h2, h3⟩
      · go_wp2_with fail
        go_meet
        exact ⟨rfl, rfl⟩
      · subst h3
        go_wp2_with fail
        go_meet
        exact ⟨rfl, rfl⟩
    case rest =>
      obtain ⟨rfl, hwc⟩ := hcut
      subst hwc
      go_wp2_with fail
      go_loopw [16] (fun kv wr => ∃ (k : Nat) (sv : Value), k ≤ V ∧ kv = .int .i64 k ∧ Hid (HsA wc wr (.slice a3 V c3) sv (vsK store k))) (fun kv _ => V - (intOf kv).toNat)
      case atStart =>
        refine ⟨0, .slice none 0 0, Nat.zero_le _, rfl, hide ⟨heap_alloc_new wc _, World.ownsRow_nil _ _ _ _, below_box _ _, by simp, fun v hv => by simp [vsK] at hv⟩⟩
      case round =>
        obtain ⟨k, sv, hk, rfl, hH⟩ := hrel
        obtain ⟨⟨z0, z1, z2, z3⟩, zf⟩ := cells4H (unhide hH).hx
        have f1 := zf 1
        have hbr : Below w.heap.size w wr := (unhide HB2).trans ((unhide hH).bl.mono (unhide HB2).size)
        have HBR := hide hbr
        have HRW : Hid (wr.ownsRow (wc.heap.size + 1) 3 1 sv k (ints (vsK store k))) := hide (by have := (unhide hH).rw; rwa [vsK_len] at this)
        obtain ⟨q1, q2, hsv⟩ := slice_of_own (unhide HRW)
        subst hsv
        clear zf hbr
        by_cases hlt : k < V
        · obtain ⟨x, hx⟩ : ∃ x, x = store.getD k 0 := ⟨_, rfl⟩
          have HX := hide hx
          by_cases hks : k < store.length
          · obtain ⟨g, off, cap, hv, hnc, hmc, hc⟩ := ((unhide HST).g (by omega)).get (by omega)
            simp only [Value.slice.injEq, true_and] at hv
            obtain ⟨rfl, rfl⟩ := hv
            have q0 := hc k _ (ints_get hks)
            rw [← hx] at q0
            have cV : wr.cell? ⟨g, off + k, none⟩ = some (.int .i64 x) := by rw [(unhide HBR).cell (World.block_lt_of_cell? w _ q0)]; exact q0
            clear hc q0 hx
            by_cases hx1 : x < 0
            · go_wp2_with fail
              go_ret
              exact ⟨rfl, unhide HBR⟩
            · have hd1 : decide (x < 0) = false := by simp; omega
              by_cases hx2 : 1048576 < x
              · go_wp2_with fail
                go_ret
                exact ⟨rfl, unhide HBR⟩
              · have hd2 : decide (1048576 < x) = false := by simp; omega
                go_wp2_with (at_builtin; refine wpList_app1 _ rfl (.tmp 80) (.tmp 82) 22 rfl (wc.heap.size + 1) 3 j0 (.int .i64 0) 1 8 Try.underlying22 hj hy0 hy1 hy2 rfl (by decide) _ k (ints (vsK store k)) rfl ((unhide HRW).alloc _) ⟨_, 0, none⟩ 1 [.int .i64 x] rfl rfl (one_new _ _ _) (ints_one [x]) (by omega) (by omega) (by have := (unhide hH).sz; simp; omega) ?_)
                intro g2 cap2 w4 hown4 hgrow4 hblk4
                obtain ⟨hz, hH2⟩ := (unhide hH).add ⟨by omega, by omega⟩ (by rw [vsK_len]; exact hown4) hgrow4
                obtain ⟨⟨y0, y1, y2, y3⟩, yf⟩ := cells4H hz
                have f4 := yf 1
                have HH2 : Hid (HsA wc (w4.setCell ⟨wc.heap.size, 1, none⟩ (.slice (some ⟨g2, 0, none⟩) (k + 1) cap2)) (.slice a3 V c3) (.slice (some ⟨g2, 0, none⟩) (k + 1) cap2) (vsK store (k + 1))) := hide (by
                  rw [vsK_step, ← unhide HX]
                  rw [vsK_len] at hH2
                  exact hH2)
                clear hown4 hgrow4 hblk4 hz hH2 yf z0 z1 z2 z3 f1
                go_wp2_with fail
                go_roundw
                case rel => exact ⟨k + 1, _, by omega, by go_num, HH2⟩
                case measure => simp [intOf]; omega
          · have hd0 : decide ((k : Int) < (store.length : Int)) = false := by simp; omega
            have hx0 : x = 0 := by rw [hx]; simp [List.getD_eq_getElem?_getD, List.getElem?_eq_none (Nat.le_of_not_lt hks)]
            clear hx
            subst hx0
            by_cases hx1 : (0 : Int) < 0
            · go_wp2_with fail
              go_ret
              exact ⟨rfl, unhide HBR⟩
            · have hd1 : decide ((0 : Int) < 0) = false := by simp
              by_cases hx2 : (1048576 : Int) < 0
              · go_wp2_with fail
                go_ret
                exact ⟨rfl, unhide HBR⟩
              · have hd2 : decide (1048576 < (0 : Int)) = false := by simp
                go_wp2_with (at_builtin; refine wpList_app1 _ rfl (.tmp 80) (.tmp 82) 22 rfl (wc.heap.size + 1) 3 j0 (.int .i64 0) 1 8 Try.underlying22 hj hy0 hy1 hy2 rfl (by decide) _ k (ints (vsK store k)) rfl ((unhide HRW).alloc _) ⟨_, 0, none⟩ 1 [.int .i64 0] rfl rfl (one_new _ _ _) (ints_one [0]) (by omega) (by omega) (by have := (unhide hH).sz; simp; omega) ?_)
                intro g2 cap2 w4 hown4 hgrow4 hblk4
                obtain ⟨hz, hH2⟩ := (unhide hH).add (x := 0) ⟨by omega, by omega⟩ (by rw [vsK_len]; exact hown4) hgrow4
                obtain ⟨⟨y0, y1, y2, y3⟩, yf⟩ := cells4H hz
                have f4 := yf 1
                have HH2 : Hid (HsA wc (w4.setCell ⟨wc.heap.size, 1, none⟩ (.slice (some ⟨g2, 0, none⟩) (k + 1) cap2)) (.slice a3 V c3) (.slice (some ⟨g2, 0, none⟩) (k + 1) cap2) (vsK store (k + 1))) := hide (by
                  rw [vsK_step, ← unhide HX]
                  rw [vsK_len] at hH2
                  exact hH2)
                clear hown4 hgrow4 hblk4 hz hH2 yf z0 z1 z2 z3 f1
                go_wp2_with fail
                go_roundw
                case rel => exact ⟨k + 1, _, by omega, by go_num, HH2⟩
                case measure => simp [intOf]; omega
        · have hkV : k = V := by omega
          subst hkV
          have hd : decide ((k : Int) < (k : Int)) = false := by simp
          have HC0 := hide (unhide hH).toC
          have HNN := hide (unhide hH).nn
          clear HRW hH HBR z0 z1 z2 z3 f1
          obtain ⟨W0, hW0⟩ : ∃ W0, W0 = wc := ⟨_, rfl⟩
          subst hW0
          go_wp2_with fail
          go_loopw [18] (fun iv wx => ∃ (m : Nat) (av xv : Value), 2 * m ≤ cells.length ∧ iv = .int .i64 ((2 * m : Nat) : Int) ∧ Hid (HsC W0 wx (.slice a3 k c3) (.slice q1 k q2) av xv (vsK store k) (evK cells m) (odK cells m)) ∧ Hid (OkC cells m)) (fun iv _ => cells.length - (intOf iv).toNat)
          case atStart => exact ⟨0, .slice none 0 0, .slice none 0 0, Nat.zero_le _, rfl, HC0, hide (OkC.zero _)⟩
          case round =>
            obtain ⟨m, av, xv, hm, rfl, hH, hOk⟩ := hrel
            obtain ⟨⟨z0, z1, z2, z3⟩, zf⟩ := cells4H (unhide hH).hx
            have HBR : Hid (Below w.heap.size w _) := hide ((unhide HB2).trans ((unhide hH).bl.mono (unhide HB2).size))
            have f2 := zf 2
            have f3 := zf 3
            clear zf
            obtain ⟨kk, hkk⟩ : ∃ kk, kk = 2 * m := ⟨_, rfl⟩
            rw [← hkk] at hm ⊢
            by_cases hlt : kk + 1 < cells.length
            · have hd1 : decide ((kk : Int) + 1 < (cells.length : Int)) = true := by simp; omega
              obtain ⟨g, off, cap, hv, hnc, hmc, hc⟩ := ((unhide HCE).g (by omega)).get (by omega)
              simp only [Value.slice.injEq, true_and] at hv
              obtain ⟨rfl, rfl⟩ := hv
              obtain ⟨a, hA⟩ : ∃ a, a = cells.getD kk 0 := ⟨_, rfl⟩
              obtain ⟨b, hB⟩ : ∃ b, b = cells.getD (kk + 1) 0 := ⟨_, rfl⟩
              have qa := hc kk _ (ints_get (by omega))
              have qb := hc (kk + 1) _ (ints_get hlt)
              rw [← hA] at qa
              rw [← hB] at qb
              have cA := ((unhide HBR).cell (World.block_lt_of_cell? w _ qa)).trans qa
              have cB := ((unhide HBR).cell (World.block_lt_of_cell? w _ qb)).trans qb
              have HA := hide hA
              have HB := hide hB
              have HKK := hide hkk
              have HHC := hide hc
              clear hA hB qa qb hc hkk HC0
              go_upto_region 20 with fail
              go_cut [136] (fun c wx => ∃ bad : Bool, c = .bool bad ∧ Hid (bad = false → (0 < a ∧ a ≤ 1048576) ∧ (0 ≤ b ∧ b ≤ 1048576) ∧ ∀ j, m = j + 1 → cells.getD (2 * j) 0 < a) ∧ Hid (HsC W0 wx (.slice a3 k c3) (.slice q1 k q2) av xv (vsK store k) (evK cells m) (odK cells m)))
              case first =>
                clear z0 z1 z2 z3 f2 f3
                by_cases c1 : a ≤ 0
                · go_quiet (fail)
                  go_wp2_with fail
                  go_meet
                  exact ⟨true, rfl, hide (fun h => by cases h), hide ((unhide hH).drewN nq)⟩
                · have d1 : decide (a ≤ 0) = false := by simp; omega
                  by_cases c2 : 1048576 < a
                  · go_quiet (fail)
                    go_wp2_with fail
                    go_meet
                    exact ⟨true, rfl, hide (fun h => by cases h), hide ((unhide hH).drewN nq)⟩
                  · have d2 : decide (1048576 < a) = false := by simp; omega
                    by_cases c3 : b < 0
                    · go_quiet (fail)
                      go_wp2_with fail
                      go_meet
                      exact ⟨true, rfl, hide (fun h => by cases h), hide ((unhide hH).drewN nq)⟩
                    · have d3 : decide (b < 0) = false := by simp; omega
                      by_cases c4 : 1048576 < b
                      · go_quiet (fail)
                        go_wp2_with fail
                        go_meet
                        exact ⟨true, rfl, hide (fun h => by cases h), hide ((unhide hH).drewN nq)⟩
                      · have d4 : decide (1048576 < b) = false := by simp; omega
                        by_cases c5 : 0 < kk
                        · obtain ⟨jj, hjj⟩ : ∃ jj, kk = jj + 2 := ⟨kk - 2, by have := unhide HKK; omega⟩
                          subst hjj
                          have d5 : decide ((0 : Int) < (jj : Int) + 2) = true := by simp; omega
                          obtain ⟨p, hp⟩ : ∃ p, p = cells.getD jj 0 := ⟨_, rfl⟩
                          have qp := unhide HHC jj _ (ints_get (by omega))
                          rw [← hp] at qp
                          have cP := ((unhide HBR).cell (World.block_lt_of_cell? w _ qp)).trans qp
                          have e2 : (jj : Int) + 2 - 2 = jj := by omega
                          have HPp := hide hp
                          clear qp hp
                          by_cases c6 : a ≤ p
                          · go_quiet (fail)
                            go_wp2_with fail
                            go_meet
                            exact ⟨true, rfl, hide (fun h => by cases h), hide ((unhide hH).drewN nq)⟩
                          · have d6 : decide (a ≤ p) = false := by simp; omega
                            go_quiet (fail)
                            go_wp2_with fail
                            go_meet
                            refine ⟨false, rfl, hide (fun _ => ⟨⟨by omega, by omega⟩, ⟨by omega, by omega⟩, fun j hj => ?_⟩), hide ((unhide hH).drewN nq)⟩
                            have h1 := unhide HKK
                            have h2 : 2 * j = jj := by omega
                            rw [h2, ← unhide HPp]
                            omega
                        · have d5 : decide ((0 : Int) < (kk : Int)) = false := by simp; omega
                          go_quiet (fail)
                          go_wp2_with fail
                          go_meet
                          refine ⟨false, rfl, hide (fun _ => ⟨⟨by omega, by omega⟩, ⟨by omega, by omega⟩, fun j hj => ?_⟩), hide ((unhide hH).drewN nq)⟩
                          have h1 := unhide HKK
                          omega
              case rest =>
                obtain ⟨bad, rfl, hgood, hHc⟩ := hcut
                clear z0 z1 z2 z3 f2 f3 cA cB HBR hH
                obtain ⟨⟨z0, z1, z2, z3⟩, zf⟩ := cells4H (unhide hHc).hx
                have HBR : Hid (Below w.heap.size w wc) := hide ((unhide HB2).trans ((unhide hHc).bl.mono (unhide HB2).size))
                cases bad with
                | true =>
                  clear hgood zf
                  go_wp2_with fail
                  go_ret
                  exact ⟨rfl, unhide HBR⟩
                | false =>
                  obtain ⟨g1, g2, g3⟩ := unhide hgood rfl
                  have HOk2 : Hid (OkC cells (m + 1)) := hide ((unhide hOk).step (by rw [← unhide HKK, ← unhide HA]; exact g1) (by rw [← unhide HKK, ← unhide HB]; exact g2) (by rw [← unhide HKK, ← unhide HA]; exact g3))
                  have f2 := zf 2
                  have hsz := (unhide hHc).sz
                  have qa := unhide HHC kk _ (ints_get (by omega))
                  rw [← unhide HA] at qa
                  have cA := ((unhide HBR).cell (World.block_lt_of_cell? w _ qa)).trans qa
                  have HROW : Hid (wc.ownsRow (W0.heap.size + 1) 3 1 av m (ints (evK cells m))) := hide (by have := (unhide hHc).ra; rwa [evK_len] at this)
                  have HNP : Hid (av.ownBlock ≠ some W0.heap.size) := hide (fun e => by have := ((unhide hHc).ra.lt _ e).1; omega)
                  have hXl : W0.heap.size < wc.heap.size := by omega
                  have hBs : W0.heap.size + 1 ≤ wc.heap.size := hsz
                  have z2a : ∀ (j : Nat) (o : Obj), ((wc.drewN j).alloc o).cell? ⟨W0.heap.size, 2, none⟩ = some av := fun j o => (World.cell?_of_block (a := ⟨W0.heap.size, 2, none⟩) (Below.heap_alloc (wc.drewN j) o _ hXl)).trans z2
                  have hm20 : m ≤ 20000 := by have := unhide HKK; omega
                  have i0 : (0 : Int) ≤ (kk : Int) := by omega
                  have i1 : (kk : Int) < (cells.length : Int) := by omega
                  clear hgood zf g1 g2 g3 hOk qa z0 z1 z3
                  go_upto_region 22 with fail
                  go_cut [147] (fun _ wx => ∃ av', Hid (HsC W0 wx (.slice a3 k c3) (.slice q1 k q2) av' xv (vsK store k) (evK cells (m + 1)) (odK cells m)))
                  case first =>
                    go_region_law (refine step_app1 _ rfl (.tmp 141) (.tmp 146) 22 rfl (W0.heap.size + 1) 3 j0 (.int .i64 0) 1 8 Try.underlying22 hj hy0 hy1 hy2 rfl (by decide) av m (ints (evK cells m)) (by simp [Act.eval]) (own_da (unhide HROW) _ _) ⟨wc.heap.size, 0, none⟩ 1 [.int .i64 a] (by simp [Act.eval]) rfl (one_da _ _ _ _) (ints_one [a]) (by omega) (by omega) (le_da hBs _ _) ?_; intro g2 cap2 w4 hown2 hgrow2 hblk2; have c2' := grown_cell hgrow2 hXl (unhide HNP) 2 z2; have f2' := grown_frozen hgrow2 hXl (unhide HNP) 2 f2; have HI' := hide (HsC.addA (unhide hHc) (evK_len cells m) hown2 hgrow2 hblk2); clear hown2 hgrow2 hblk2)
                    all_goals
                      go_wp2_with fail
                      go_meet
                      exact ⟨_, hide (by rw [evK_step, ← unhide HKK, ← unhide HA]; exact unhide HI')⟩
                  case rest =>
                    obtain ⟨av', hHd⟩ := hcut
                    clear HBR hHc z2 f2 z2a cA HROW HNP hXl hBs hsz
                    obtain ⟨⟨z0, z1, z2, z3⟩, zf⟩ := cells4H (unhide hHd).hx
                    have HBR : Hid (Below w.heap.size w _) := hide ((unhide HB2).trans ((unhide hHd).bl.mono (unhide HB2).size))
                    have f3 := zf 3
                    have hsz := (unhide hHd).sz
                    have qb := unhide HHC (kk + 1) _ (ints_get hlt)
                    rw [← unhide HB] at qb
                    have cB := ((unhide HBR).cell (World.block_lt_of_cell? w _ qb)).trans qb
                    have HROW : Hid (wc.ownsRow (W0.heap.size + 1) 3 1 xv m (ints (odK cells m))) := hide (by have := (unhide hHd).rx; rwa [odK_len] at this)
                    have HNP : Hid (xv.ownBlock ≠ some W0.heap.size) := hide (fun e => by have := ((unhide hHd).rx.lt _ e).1; omega)
                    have hXl : W0.heap.size < wc.heap.size := by omega
                    have hBs : W0.heap.size + 1 ≤ wc.heap.size := hsz
                    have z3a : ∀ (j : Nat) (o : Obj), ((wc.drewN j).alloc o).cell? ⟨W0.heap.size, 3, none⟩ = some xv := fun j o => (World.cell?_of_block (a := ⟨W0.heap.size, 3, none⟩) (Below.heap_alloc (wc.drewN j) o _ hXl)).trans z3
                    have i2 : (0 : Int) ≤ (kk : Int) + 1 := by omega
                    have i3 : (kk : Int) + 1 < (cells.length : Int) := by omega
                    have iw : IntKind.i64.wrap ((kk : Int) + 1) = (kk : Int) + 1 := by rw [IntKind.wrap_i64]; omega
                    have tn : ((kk : Int) + 1).toNat = kk + 1 := by omega
                    clear zf qb z0 z1 z2
                    go_upto_region 23 with fail
                    go_region_law (refine step_app1 _ rfl (.tmp 154) (.tmp 160) 22 rfl (W0.heap.size + 1) 3 j0 (.int .i64 0) 1 8 Try.underlying22 hj hy0 hy1 hy2 rfl (by decide) xv m (ints (odK cells m)) (by simp [Act.eval]) (own_da (unhide HROW) _ _) ⟨wc.heap.size, 0, none⟩ 1 [.int .i64 b] (by simp [Act.eval]) rfl (one_da _ _ _ _) (ints_one [b]) (by omega) (by omega) (le_da hBs _ _) ?_; intro g2 cap2 w4 hown2 hgrow2 hblk2; have c3' := grown_cell hgrow2 hXl (unhide HNP) 3 z3; have f3' := grown_frozen hgrow2 hXl (unhide HNP) 3 f3; have HI' := hide (HsC.addX (unhide hHd) (odK_len cells m) hown2 hgrow2 hblk2); clear hown2 hgrow2 hblk2)
                    all_goals
                      go_wp2_with fail
                      go_roundw
                      case rel => exact ⟨m + 1, _, _, by have := unhide HKK; omega, by rw [unhide HKK]; go_num, hide (by rw [odK_step, ← unhide HKK, ← unhide HB]; exact unhide HI'), HOk2⟩
                      case measure => simp [intOf]; omega
            · have hd1 : decide ((kk : Int) + 1 < (cells.length : Int)) = false := by simp; omega
              have hm10 : m ≤ 10000 := by omega
              have hHw := unhide hH
              have hbW : Below W0.heap.size W0 wr := hHw.bl
              have HpAw : Hid (HpA wr W0.heap.size (evK cells m) (odK cells m)) := hide ⟨av, xv, z2, z3, Lst.of_own hHw.ra (by rw [evK_len]; omega), Lst.of_own hHw.rx (by rw [odK_len]; omega)⟩
              have hkn := unhide HV
              have HpBw : Hid (HpB wr W0.heap.size (nm2 s.data.toList t.data.toList) (vsK store k)) := hide ⟨_, _, z0, z1, by rw [hkn]; exact Lst.of_own (rowBelow2 (unhide HRV) hbW) (by omega), Lst.of_own hHw.rs (by rw [vsK_len]; omega)⟩
              have hla : al.length ≤ 241 := fo_len (unhide H0) (unhide HAL)
              have hlb : bl.length ≤ 241 := fo_len2 (unhide H0) (unhide HBL)
              have HFa : Hid (Lst wr (.slice a1 al.length c1) 3 al.length (raCells al)) := hide (Lst.of_own (rowBelow2 (unhide HRA) hbW) (by omega))
              have HFb : Hid (Lst wr (.slice a2 bl.length c2) 3 bl.length (raCells bl)) := hide (Lst.of_own (rowBelow2 (unhide HRB) hbW) (by omega))
              have hHp : Hp (vsK store k) (evK cells m) (odK cells m) := ⟨unhide HNN, (unhide hOk).sa, (unhide hOk).sn, (unhide hOk).up, by rw [evK_len, odK_len]⟩
              have hQ := unhide HQ al bl (vsK store k) (evK cells m) (odK cells m) (unhide HAL) (unhide HBL) (by rw [vsK_len]; exact hkn) hHp
              have bv : BV (vsK store k) := fun v hv => by have := hHp.sv v hv; omega
              have ba : BV (evK cells m) := fun v hv => by have := hHp.sa v hv; omega
              have bn : BV (odK cells m) := fun v hv => by have := hHp.sn v hv; omega
              have hnl : (nm2 s.data.toList t.data.toList).length = (vsK store k).length := by rw [vsK_len]; exact hkn.symm
              have hlx : (odK cells m).length = (evK cells m).length := by rw [evK_len, odK_len]
              have HH1 := hide (hold_any (unhide HpAw) (unhide HpBw) (unhide HFa) hnl hlx (by omega) bv ba bn)
              have HH2 : Hid (∀ w', Below wr.heap.size wr w' → Calls Try.prog 7 #[.pointer (some ⟨W0.heap.size, 0, none⟩), .slice a2 bl.length c2] w' fun e w'' => e = .returned (.bool (hold (evK cells m) (odK cells m) (nm2 s.data.toList t.data.toList) (vsK store k) bl)) ∧ Below w'.heap.size w' w'') := hide (fun w' hb => hold_any ((unhide HpAw).below hb) (HpB_below (unhide HpBw) hb) ((unhide HFb).below hb) hnl hlx (by omega) bv ba bn)
              obtain ⟨ha, hha⟩ : ∃ ha, ha = hold (evK cells m) (odK cells m) (nm2 s.data.toList t.data.toList) (vsK store k) al := ⟨_, rfl⟩
              obtain ⟨hb, hhb⟩ : ∃ hb, hb = hold (evK cells m) (odK cells m) (nm2 s.data.toList t.data.toList) (vsK store k) bl := ⟨_, rfl⟩
              rw [← hha] at HH1 hQ
              rw [← hhb] at HH2 hQ
              have HQ2 := hide hQ
              clear z0 z1 z2 z3 f2 f3 hHw hbW HpAw HpBw hkn hla hlb HFa HFb hHp hQ bv ba bn hnl hlx hha hhb HQ hOk hH HC0
              go_wp2_with fail
              refine (unhide HH1).mono ?_
              rintro e w5 ⟨rfl, hb5⟩
              have HB5 := hide hb5
              have HBw5 : Hid (Below w.heap.size w w5) := hide ((unhide HBR).trans (hb5.mono (unhide HBR).size))
              clear hb5 HH1
              cases ha with
              | false =>
                clear HQ2
                go_wp2_with fail
                go_ret
                exact ⟨rfl, unhide HBw5⟩
              | true =>
                obtain ⟨hn0, hyy⟩ := unhide HQ2 rfl
                subst hn0
                have HY := hide hyy
                clear HQ2 hyy
                go_wp2_with fail
                refine (unhide HH2 w5 (unhide HB5)).mono ?_
                rintro e w6 ⟨rfl, hb6⟩
                have HBw6 : Hid (Below w.heap.size w w6) := hide ((unhide HBw5).trans (hb6.mono (unhide HBw5).size))
                clear hb6 HH2
                cases y with
                | false =>
                  go_wp2_with fail
                  go_ret
                  exact ⟨rfl, unhide HBw6⟩
                | true =>
                  have hbt : hb = true := unhide HY rfl
                  subst hbt
                  go_wp2_with fail
                  go_ret
                  exact ⟨rfl, unhide HBw6⟩
end Go.Proofs.Ytciihepbeacppaa
