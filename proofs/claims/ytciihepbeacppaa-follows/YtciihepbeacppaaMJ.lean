import Derived.Test.YtciihepbeacppaaHH
import Derived.Test.YtciihepbeacppaaMD
namespace Go.Proofs.Ytciihepbeacppaa
open Go.RowKit

/-! ### Holds, but for its last call -/
def plB (a : RAt) : Bool := eqW a.k toW || eqW a.k lsW
/-- the two lists into which a formula's atoms go -/
structure Pl (w0 wr : World) (l1 l2 : List RAt) (v1 v2 : Value) : Prop where
  r1 : wr.ownsRow w0.heap.size 46 3 v1 l1.length (raCells l1)
  r2 : wr.ownsRow w0.heap.size 46 3 v2 l2.length (raCells l2)
  ap : ∀ b, v1.ownBlock = some b → v2.ownBlock ≠ some b
  bl : Below w0.heap.size w0 wr
theorem Pl.add1 {w0 wr w' : World} {l1 l2 : List RAt} {v1 v2 : Value} {a : RAt} {g cap : Nat} {o : Obj} (h : Pl w0 wr l1 l2 v1 v2) (hown : w'.ownsRow w0.heap.size 46 3 (.slice (some ⟨g, 0, none⟩) (l1.length + 1) cap) (l1.length + 1) (raCells l1 ++ a.cells))
    (hg : (wr.alloc o).grownBy w' v1.ownBlock) (hb : some g = v1.ownBlock ∨ g = wr.heap.size + 1) : Pl w0 w' (l1 ++ [a]) l2 (.slice (some ⟨g, 0, none⟩) (l1.length + 1) cap) v2 := by
  refine ⟨by rw [raCells_snoc, List.length_append, List.length_singleton]; exact hown, own_keptH (h.r2.alloc o) hg (fun k hk e => h.ap k e hk), fun b hb1 hb2 => ?_, (h.bl.alloc h.bl.size o).grown hg (by have := h.bl.size; simp; omega) (fun k e => (h.r1.lt k e).1)⟩
  simp [Value.ownBlock] at hb1
  subst hb1
  rcases hb with hb | hb
  · exact h.ap g hb.symm hb2
  · have := (h.r2.lt g hb2).2; omega
theorem Pl.add2 {w0 wr w' : World} {l1 l2 : List RAt} {v1 v2 : Value} {a : RAt} {g cap : Nat} {o : Obj} (h : Pl w0 wr l1 l2 v1 v2) (hown : w'.ownsRow w0.heap.size 46 3 (.slice (some ⟨g, 0, none⟩) (l2.length + 1) cap) (l2.length + 1) (raCells l2 ++ a.cells))
    (hg : (wr.alloc o).grownBy w' v2.ownBlock) (hb : some g = v2.ownBlock ∨ g = wr.heap.size + 1) : Pl w0 w' l1 (l2 ++ [a]) v1 (.slice (some ⟨g, 0, none⟩) (l2.length + 1) cap) := by
  refine ⟨own_keptH (h.r1.alloc o) hg (fun k hk e => h.ap k hk e), by rw [raCells_snoc, List.length_append, List.length_singleton]; exact hown, fun b hb1 hb2 => ?_, (h.bl.alloc h.bl.size o).grown hg (by have := h.bl.size; simp; omega) (fun k e => (h.r2.lt k e).1)⟩
  simp [Value.ownBlock] at hb2
  subst hb2
  rcases hb with hb | hb
  · exact h.ap g hb1 hb.symm
  · have := (h.r1.lt g hb1).2; omega
/-- the names of a heap in memory -/
def HpB (w : World) (X : Nat) (ns : List ByteArray) (vs : List Int) : Prop :=
  ∃ nv sv, w.cell? ⟨X, 0, none⟩ = some nv ∧ w.cell? ⟨X, 1, none⟩ = some sv ∧ Lst w nv 1 ns.length (ns.map Value.string) ∧ Lst w sv 1 vs.length (ints vs)
/-- does a formula hold of a heap -/
def hold (ad nx : List Int) (ns : List ByteArray) (vs : List Int) (f : List RAt) : Bool := celM ad nx (f.filter (fun a => !plB a)) (f.filter plB).length (f.filter plB) ns vs (List.replicate ad.length true)
theorem filter_step {α : Type} {p : α → Bool} {l : List α} {k : Nat} (h : k < l.length) : (l.take (k + 1)).filter p = (l.take k).filter p ++ (if p l[k] then [l[k]] else []) := by
  rw [List.take_succ_eq_append_getElem h, List.filter_append]
  congr 1
  simp only [List.filter_cons, List.filter_nil]

theorem filt_sum (p : RAt → Bool) (l : List RAt) : (l.filter p).length + (l.filter (fun a => !p a)).length = l.length := by
  induction l with
  | nil => rfl
  | cons a l ih =>
    cases hp : p a with
    | true => simp [hp]; omega
    | false => simp [hp]; omega
def frK (n k : Nat) : List Bool := List.replicate k true ++ List.replicate (n - k) false
theorem frK_len {n k : Nat} (h : k ≤ n) : (frK n k).length = n := by simp [frK]; omega
theorem frK_step {n k : Nat} (h : k < n) : (frK n k).set k true = frK n (k + 1) := by
  unfold frK
  apply List.ext_getElem?
  intro j
  rw [List.getElem?_set]
  simp only [List.length_append, List.length_replicate]
  by_cases hj : k = j
  · subst hj
    rw [if_pos rfl, if_pos (by omega), List.getElem?_append_left (by simp), List.getElem?_replicate, if_pos (by omega)]
  · rw [if_neg hj]
    by_cases h1 : j < k
    · rw [List.getElem?_append_left (by simpa using h1), List.getElem?_append_left (by simp; omega), List.getElem?_replicate, List.getElem?_replicate, if_pos h1, if_pos (by omega)]
    · rw [List.getElem?_append_right (by simp; omega), List.getElem?_append_right (by simp; omega), List.getElem?_replicate, List.getElem?_replicate]
      simp only [List.length_replicate]
      by_cases h2 : j < n
      · rw [if_pos (by omega), if_pos (by omega)]
      · rw [if_neg (by omega), if_neg (by omega)]
theorem frK_end (n : Nat) : frK n n = List.replicate n true := by simp [frK]

set_option maxRecDepth 100000 in
set_option maxHeartbeats 20000000 in
theorem hold_walk {w : World} {X : Nat} {ad nx : List Int} {ns : List ByteArray} {vs : List Int} {fv : Value} {f : List RAt} (hA : HpA w X ad nx) (hN : HpB w X ns vs) (hF : Lst w fv 3 f.length (raCells f)) (hl : ns.length = vs.length) (hlx : nx.length = ad.length) (hb : ns.length + 2 * f.length < 16000) (bv : BV vs) (ba : BV ad) (bn : BV nx)
    (HC : CelOK X ad nx (f.filter (fun a => !plB a)) (f.filter plB) (celM ad nx (f.filter (fun a => !plB a)) (f.filter plB).length (f.filter plB))) :
    Calls Try.prog 7 #[.pointer (some ⟨X, 0, none⟩), fv] w fun e w' => e = .returned (.bool (hold ad nx ns vs f)) ∧ Below w.heap.size w w' := by
  have HA := hide hA
  have HF := hide hF
  have HL := hide hl
  have HLX := hide hlx
  have HBV := hide bv
  have HBA := hide ba
  have HBN := hide bn
  have HCC := hide HC
  have hfl := hF.2.1
  obtain ⟨i0, hi, hz0, hz1, hz2⟩ := info_parts Try.infoRAt
  obtain ⟨nv, sv, c0, c1, hNv, hSv⟩ := hN
  obtain ⟨av, xv, c2, c3, hAv, hXv⟩ := hA
  obtain ⟨na, nc, rfl⟩ := hNv.slice
  obtain ⟨va, vc, rfl⟩ := hSv.slice
  obtain ⟨aa, ac, rfl⟩ := hAv.slice
  obtain ⟨fa, fc, rfl⟩ := hF.slice
  have HNv := hide hNv
  have HSv := hide hSv
  have hal := hAv.2.1
  have HAc : Hid (w.cell? ⟨X, 2, none⟩ = some (.slice aa ad.length ac)) := hide c2
  clear hF hl hlx bv ba bn HC hNv hSv hAv hXv c3
  have c0a := ((below_box w (.cells #[.slice none 0 0, .slice none 0 0] 44)).cell (World.block_lt_of_cell? w _ c0)).trans c0
  have c1a := ((below_box w (.cells #[.slice none 0 0, .slice none 0 0] 44)).cell (World.block_lt_of_cell? w _ c1)).trans c1
  go_enter Try.func7, Try.ntmps7
  go_wp2_with fail
  go_region
  obtain ⟨w0, hw0⟩ : ∃ w0, w0 = (w.alloc (.cells #[.slice na ns.length nc, .slice va vs.length vc] 44)).drew := ⟨_, rfl⟩
  have hs0 : w0.heap.size = w.heap.size + 1 := by rw [hw0]; simp
  have hb0 : Below w.heap.size w w0 := by rw [hw0]; exact (below_box _ _).drew
  have hx0 : w0.heap[w.heap.size]? = some (.cells #[.slice na ns.length nc, .slice va vs.length vc] 44 (0, 0)) := by rw [hw0]; exact heap_alloc_new w _
  go_wp2_with fail
  rw [← hw0]
  have HS0 := hide hs0
  have HB0 := hide hb0
  have HX0 := hide hx0
  clear hw0 hs0 hb0 hx0 c0a c1a c0 c1 c2
  go_loopw [6, 7, 8] (fun p1 p2 kv wr => ∃ k : Nat, k ≤ f.length ∧ kv = .int .i64 k ∧ Hid (Pl w0 wr ((f.take k).filter plB) ((f.take k).filter (fun a => !plB a)) p1 p2)) (fun _ _ kv _ => f.length - (intOf kv).toNat)
  case atStart => exact ⟨0, Nat.zero_le _, rfl, hide ⟨World.ownsRow_nil _ _ _ _, World.ownsRow_nil _ _ _ _, fun _ h => (by cases h), Below.refl _ _⟩⟩
  case round =>
    obtain ⟨k, hk, rfl, hpl⟩ := hrel
    by_cases hlt : k < f.length
    · obtain ⟨g, off, cap, hv, hnc, hmc, hc⟩ := (unhide HF).2.2.resolve_left (fun h => by omega)
      simp only [Value.slice.injEq, true_and] at hv
      obtain ⟨rfl, rfl⟩ := hv
      obtain ⟨q0, q1, q2⟩ := ra_get hlt
      have hbw : Below w.heap.size w wr := (unhide HB0).trans ((unhide hpl).bl.mono (unhide HB0).size)
      have cK : wr.cell? ⟨g, off + k * 3, none⟩ = some (.string f[k].k) := by rw [hbw.cell (World.block_lt_of_cell? w _ (hc _ _ q0))]; exact hc _ _ q0
      have cA : wr.cell? ⟨g, off + k * 3 + 1, none⟩ = some (.string f[k].a) := by rw [Nat.add_assoc]; rw [hbw.cell (World.block_lt_of_cell? w _ (hc _ _ q1))]; exact hc _ _ q1
      have cB : wr.cell? ⟨g, off + k * 3 + 2, none⟩ = some (.string f[k].b) := by rw [Nat.add_assoc]; rw [hbw.cell (World.block_lt_of_cell? w _ (hc _ _ q2))]; exact hc _ _ q2
      clear hc q0 q1 q2 hbw
      cases hp : plB f[k] with
      | true =>
        have HS1 : Hid ((f.take (k + 1)).filter plB = (f.take k).filter plB ++ [f[k]]) := hide (by rw [filter_step hlt, hp]; rfl)
        have HS2 : Hid ((f.take (k + 1)).filter (fun a => !plB a) = (f.take k).filter (fun a => !plB a)) := hide (by rw [filter_step hlt]; simp [hp])
        have hp' : ((f[k].k.toList == [45, 62]) || (f[k].k.toList == [108, 115])) = true := by
          have h1 : plB f[k] = ((f[k].k.toList == toW.toList) || (f[k].k.toList == lsW.toList)) := rfl
          rw [toW_l, lsW_l] at h1
          rw [← h1]; exact hp
        cases h1 : (f[k].k.toList == [45, 62]) with
        | true =>
          clear hp hp'
          go_wp2_with (at_builtin; refine wpList_app1 _ rfl (.tmp 40) (.tmp 45) 27 rfl w0.heap.size 46 i0 _ 3 48 Try.underlying27 hi hz0 hz1 hz2 rfl (by decide) _ ((f.take k).filter plB).length (raCells ((f.take k).filter plB)) rfl ((unhide hpl).r1.alloc _) ⟨_, 0, none⟩ 1 f[k].cells rfl rfl (new_cellsR _ _ rfl f[k].cells _) (RAt.one _) (by have := List.length_filter_le plB (f.take k); simp only [List.length_take] at this; omega) (by omega) (by have := (unhide hpl).bl.size; simp; omega) ?_)
          intro g2 cap2 w2 hown2 hgrow2 hblk2
          have HPL := hide ((unhide hpl).add1 hown2 hgrow2 (by simpa using hblk2))
          clear hown2 hgrow2 hblk2
          go_wp2_with fail
          go_roundw
          case rel => exact ⟨k + 1, by omega, by go_num, hide (by rw [unhide HS1, unhide HS2]; exact unhide HPL)⟩
          case measure => simp [intOf]; omega
        | false =>
          have h2 : (f[k].k.toList == [108, 115]) = true := by rw [h1] at hp'; simpa using hp'
          clear hp hp'
          go_wp2_with (at_builtin; refine wpList_app1 _ rfl (.tmp 40) (.tmp 45) 27 rfl w0.heap.size 46 i0 _ 3 48 Try.underlying27 hi hz0 hz1 hz2 rfl (by decide) _ ((f.take k).filter plB).length (raCells ((f.take k).filter plB)) rfl ((unhide hpl).r1.alloc _) ⟨_, 0, none⟩ 1 f[k].cells rfl rfl (new_cellsR _ _ rfl f[k].cells _) (RAt.one _) (by have := List.length_filter_le plB (f.take k); simp only [List.length_take] at this; omega) (by omega) (by have := (unhide hpl).bl.size; simp; omega) ?_)
          intro g2 cap2 w2 hown2 hgrow2 hblk2
          have HPL := hide ((unhide hpl).add1 hown2 hgrow2 (by simpa using hblk2))
          clear hown2 hgrow2 hblk2
          go_wp2_with fail
          go_roundw
          case rel => exact ⟨k + 1, by omega, by go_num, hide (by rw [unhide HS1, unhide HS2]; exact unhide HPL)⟩
          case measure => simp [intOf]; omega
      | false =>
        have HS1 : Hid ((f.take (k + 1)).filter plB = (f.take k).filter plB) := hide (by rw [filter_step hlt, hp]; simp)
        have HS2 : Hid ((f.take (k + 1)).filter (fun a => !plB a) = (f.take k).filter (fun a => !plB a) ++ [f[k]]) := hide (by rw [filter_step hlt]; simp [hp])
        have hp' : ((f[k].k.toList == [45, 62]) || (f[k].k.toList == [108, 115])) = false := by
          have h1 : plB f[k] = ((f[k].k.toList == toW.toList) || (f[k].k.toList == lsW.toList)) := rfl
          rw [toW_l, lsW_l] at h1
          rw [← h1]; exact hp
        have h1 : (f[k].k.toList == [45, 62]) = false := (Bool.or_eq_false_iff.1 hp').1
        have h2 : (f[k].k.toList == [108, 115]) = false := (Bool.or_eq_false_iff.1 hp').2
        clear hp hp'
        go_wp2_with (at_builtin; refine wpList_app1 _ rfl (.tmp 47) (.tmp 52) 27 rfl w0.heap.size 46 i0 _ 3 48 Try.underlying27 hi hz0 hz1 hz2 rfl (by decide) _ ((f.take k).filter (fun a => !plB a)).length (raCells ((f.take k).filter (fun a => !plB a))) rfl ((unhide hpl).r2.alloc _) ⟨_, 0, none⟩ 1 f[k].cells rfl rfl (new_cellsR _ _ rfl f[k].cells _) (RAt.one _) (by have := List.length_filter_le (fun a => !plB a) (f.take k); simp only [List.length_take] at this; omega) (by omega) (by have := (unhide hpl).bl.size; simp; omega) ?_)
        intro g2 cap2 w2 hown2 hgrow2 hblk2
        have HPL := hide ((unhide hpl).add2 hown2 hgrow2 (by simpa using hblk2))
        clear hown2 hgrow2 hblk2
        go_wp2_with fail
        go_roundw
        case rel => exact ⟨k + 1, by omega, by go_num, hide (by rw [unhide HS1, unhide HS2]; exact unhide HPL)⟩
        case measure => simp [intOf]; omega
    · obtain rfl : k = f.length := by omega
      have hd : decide ((f.length : Int) < (f.length : Int)) = false := by simp
      have hpl2 := unhide hpl
      rw [List.take_length] at hpl2
      obtain ⟨a1, c1, hv1⟩ := slice_of_own hpl2.r1
      obtain ⟨a2, c2, hv2⟩ := slice_of_own hpl2.r2
      subst hv1
      subst hv2
      have HPL := hide hpl2
      have hbw : Below w.heap.size w wr := (unhide HB0).trans (hpl2.bl.mono (unhide HB0).size)
      have cAd := (hbw.cell (World.block_lt_of_cell? w _ (unhide HAc))).trans (unhide HAc)
      have HBQ := hide hbw
      obtain ⟨j0, hj, hy0, hy1, hy2⟩ := info_parts Try.infoBool
      clear hpl2 hbw hlt hk hpl
      go_wp2_with (at_make; refine wpList_make_full _ rfl _ _ 47 rfl wr.heap.size 4 j0 (.bool false) 1 Try.underlying47 hj hy0 hy1 .i64 .i64 _ _ ad.length rfl rfl rfl rfl ?b2 ?b3 ?b4 ?_)
      case b2 => rw [hy2]; omega
      case b3 => unfold maxLen; omega
      case b4 => simp
      intro w1 hown1 hgrow1
      have hb1 : Below wr.heap.size wr w1 := (Below.refl _ _).grown hgrow1 (Nat.le_refl _) (fun k h => by cases h)
      have e0 : (madeCells #[Value.bool false] ad.length).toList = bools (frK ad.length 0) := by rw [toList_madeCells_one]; simp [bools, frK]
      rw [e0] at hown1
      have HO1 := hide hown1
      have HB1 := hide hb1
      obtain ⟨W, hW⟩ : ∃ W, W = wr.heap.size := ⟨_, rfl⟩
      have HO1' : Hid (w1.ownsRow W 4 1 (.slice (some ⟨W, 0, none⟩) ad.length ad.length) ad.length (bools (frK ad.length 0))) := hide (by rw [hW]; exact unhide HO1)
      have HB1' : Hid (Below W wr w1) := hide (by rw [hW]; exact unhide HB1)
      have HWS := hide hW
      have HX1 : Hid (wr.heap[w.heap.size]? = some (.cells #[.slice na ns.length nc, .slice va vs.length vc] 44 (0, 0))) := hide (by rw [(unhide HPL).bl.block _ (by have := unhide HS0; omega)]; exact unhide HX0)
      have hwW : w.heap.size < W := by rw [hW]; have := (unhide HPL).bl.size; have := unhide HS0; omega
      have HLP : Hid (∀ wx, Below W wr wx → Lst wx (.slice a1 (f.filter plB).length c1) 3 (f.filter plB).length (raCells (f.filter plB)) ∧ Lst wx (.slice a2 (f.filter (fun a => !plB a)).length c2) 3 (f.filter (fun a => !plB a)).length (raCells (f.filter (fun a => !plB a)))) := hide (fun wx hb2 => by
        have h1 := filt_sum plB f
        rw [hW] at hb2
        exact ⟨(Lst.of_own (unhide HPL).r1 (by omega)).below hb2, (Lst.of_own (unhide HPL).r2 (by omega)).below hb2⟩)
      rw [← hW]
      clear hown1 hgrow1 hb1 e0 hW HO1 HB1
      go_wp2_with fail
      go_loopw [10] (fun iv wx => ∃ k : Nat, k ≤ ad.length ∧ iv = .int .i64 k ∧ Hid (wx.ownsRow W 4 1 (.slice (some ⟨W, 0, none⟩) ad.length ad.length) ad.length (bools (frK ad.length k))) ∧ Hid (Below W wr wx)) (fun iv _ => ad.length - (intOf iv).toNat)
      case atStart => exact ⟨0, Nat.zero_le _, rfl, HO1', HB1'⟩
      case round =>
        obtain ⟨k, hk, rfl, hown, hbl⟩ := hrel
        by_cases hlt : k < ad.length
        · obtain ⟨d1, d2⟩ := rown_cell (unhide hown) (bools_get (l := frK ad.length k) (k := k) (by rw [frK_len hk]; exact hlt))
          go_wp2_with fail
          go_roundw
          case rel =>
            refine ⟨k + 1, by omega, by go_num, hide ?_, hide ((unhide hbl).setCell (p := ⟨W, k, none⟩) (Nat.le_refl _) _)⟩
            have h3 := rown_set (j := k) (unhide hown) (.bool true)
            have e3 : (bools (frK ad.length k)).set k (.bool true) = bools (frK ad.length (k + 1)) := by rw [← frK_step hlt]; simp [bools, List.map_set]
            rwa [e3] at h3
          case measure => simp [intOf]; omega
        · obtain rfl : k = ad.length := by omega
          have hd2 : decide ((ad.length : Int) < (ad.length : Int)) = false := by simp
          have hbx : Below w.heap.size w wr := (unhide HBQ).trans ((unhide hbl).mono (by have := (unhide HBQ).size; have := unhide HWS; omega))
          have HBX := hide hbx
          have hx2 : wr.heap[w.heap.size]? = some (.cells #[.slice na ns.length nc, .slice va vs.length vc] 44 (0, 0)) := by rw [(unhide hbl).block _ hwW]; exact unhide HX1
          obtain ⟨e0, e1, -, -⟩ := cellsE2 hx2
          have hfr : Lst wr (.slice (some ⟨W, 0, none⟩) ad.length ad.length) 1 (List.replicate ad.length true).length (bools (List.replicate ad.length true)) := by
            have h := Lst.of_own (unhide hown) hal
            rw [frK_end] at h
            rw [List.length_replicate]; exact h
          have HFR := hide hfr
          obtain ⟨hl1, hl2⟩ := unhide HLP _ (unhide hbl)
          have HL1 := hide hl1
          have HL2 := hide hl2
          clear hx2 hfr hbx hl1 hl2 hlt hk hown
          go_wp2_with fail
          refine (unhide HCC _ _ _ _ _ _ ns vs (List.replicate ad.length true) ⟨(unhide HA).below (unhide HBX), unhide HL1, unhide HL2, (unhide HNv).below (unhide HBX), (unhide HSv).below (unhide HBX), unhide HFR⟩ ⟨unhide HL, by simp, unhide HLX, by have := filt_sum plB f; omega, unhide HBV, unhide HBA, unhide HBN⟩).mono ?_
          rintro e w9 ⟨rfl, hb9⟩
          have HB9 := hide ((unhide HBX).trans (hb9.mono (unhide HBX).size))
          clear hb9
          go_wp2_with fail
          go_ret
          exact ⟨rfl, unhide HB9⟩
end Go.Proofs.Ytciihepbeacppaa

namespace Go.Proofs.Ytciihepbeacppaa
open Go.RowKit

/-- a formula holds of a heap: there are values of the names without one -/
theorem hold_iff {ad nx : List Int} (hd : ad.Nodup) {ns : List ByteArray} {vs : List Int} (hl : ns.length = vs.length) {f : List RAt} (hn : NmOK f) :
    hold ad nx ns vs f = true ↔ ∃ s, Agr s ns vs ∧ Pur s (f.filter (fun a => !plB a)) ∧ Sp ad nx s (f.filter plB) (List.replicate ad.length true) :=
  cel_iff hd (fun a ha => hn a (List.mem_filter.1 ha).1) _ _ rfl ns vs _ hl (by simp)
/-- the atoms that a formula's words give have names -/
theorem name_ne_em {x : ByteArray} (h : nameB x = true) : x ≠ em := by
  rintro rfl
  rw [show nameB em = false by simp [nameB, lowB, upB, eqW, em, nilW, ByteArray.toList_eq]] at h
  cases h
theorem raA_names {p : List ByteArray} (h : raB p = true) (he : raE p = false) : (raA p).a ≠ em ∧ (raA p).b ≠ em := by
  match p, h, he with
  | [a, b, c], h, _ =>
    simp only [raB, Bool.and_eq_true] at h
    exact ⟨name_ne_em h.1.1, name_ne_em h.1.2⟩
  | [a, b, c, d, e, f], h, _ =>
    simp only [raB, Bool.and_eq_true] at h
    exact ⟨name_ne_em h.2.1, name_ne_em h.2.2⟩
theorem rfo_names : ∀ {r cur : List ByteArray} {al : List RAt}, rfo cur r = some al → NmOK al := by
  intro r
  have hpce : ∀ cur : List ByteArray, raB cur = true → NmOK (pce cur) := by
    intro cur hc
    unfold pce
    cases he : raE cur with
    | true => intro a ha; simp at ha
    | false =>
      intro a ha
      simp at ha
      subst ha
      exact raA_names hc he
  induction r with
  | nil =>
    intro cur al h
    by_cases h1 : raB cur = true
    · simp only [rfo, if_pos h1] at h
      cases h
      exact hpce cur h1
    · simp only [rfo, if_neg h1] at h; cases h
  | cons x r ih =>
    intro cur al h
    simp only [rfo] at h
    by_cases h1 : eqW x starW = true
    · rw [if_pos h1] at h
      by_cases h2 : raB cur = true
      · rw [if_pos h2] at h
        obtain ⟨b, hb, rfl⟩ := Option.map_eq_some_iff.1 h
        intro a ha
        rcases List.mem_append.1 ha with ha | ha
        · exact hpce cur h2 a ha
        · exact ih hb a ha
      · rw [if_neg h2] at h; cases h
    · rw [if_neg h1] at h
      exact ih h
end Go.Proofs.Ytciihepbeacppaa
