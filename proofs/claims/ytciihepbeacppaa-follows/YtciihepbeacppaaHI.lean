import Derived.Test.YtciihepbeacppaaHH
import Derived.BigRegion
import Derived.Deep.DeepCutAuto
import Derived.Deep.Cut
import Derived.Deep.CutRange
namespace Go.Proofs.Ytciihepbeacppaa
open Go.RowKit

theorem Lst.takeA {w w' : World} {pl : List RAt} {g off cap i : Nat} (hc : ∀ j u, (raCells pl)[j]? = some u → w.cell? ⟨g, off + j, none⟩ = some u) (hb : Below w.heap.size w w') (hi : i ≤ pl.length) (hp : pl.length ≤ 20000) (h1 : pl.length ≤ cap) (h2 : cap ≤ maxLen) : Lst w' (.slice (some ⟨g, off, none⟩) i cap) 3 i (raCells (pl.take i)) := by
  refine ⟨by rw [raCells_len, List.length_take]; omega, by omega, Or.inr ⟨g, off, cap, rfl, by omega, h2, fun j u hj => ?_⟩⟩
  rw [raCells_take pl i hi, List.getElem?_take] at hj
  split at hj
  · rw [hb.cell (World.block_lt_of_cell? w _ (hc j u hj))]; exact hc j u hj
  · cases hj
theorem Lst.dropA {w w' : World} {pl : List RAt} {g off cap i : Nat} (hc : ∀ j u, (raCells pl)[j]? = some u → w.cell? ⟨g, off + j, none⟩ = some u) (hb : Below w.heap.size w w') (hi : i ≤ pl.length) (hp : pl.length ≤ 20000) (h1 : pl.length ≤ cap) (h2 : cap ≤ maxLen) {off' : Nat} (ho : i < pl.length → off' = off + i * 3) : Lst w' (.slice (some ⟨g, off', none⟩) (pl.length - i) (cap - i)) 3 (pl.length - i) (raCells (pl.drop i)) := by
  refine ⟨by rw [raCells_len, List.length_drop], by omega, Or.inr ⟨g, off', cap - i, rfl, by omega, by omega, fun j u hj => ?_⟩⟩
  have hji : i < pl.length := by
    rcases Nat.lt_or_ge i pl.length with h | h
    · exact h
    · rw [List.drop_eq_nil_of_le h] at hj; cases hj
  rw [raCells_drop pl i hi, List.getElem?_drop] at hj
  rw [ho hji, show off + i * 3 + j = off + (i * 3 + j) by omega, hb.cell (World.block_lt_of_cell? w _ (hc _ u hj))]
  exact hc _ u hj

theorem box_afterI {w w1 : World} {a b : Value} {T : TypeId} (hb : Below (w.alloc (.cells #[a, b] T)).heap.size (w.alloc (.cells #[a, b] T)) w1) : w1.heap[w.heap.size]? = some (.cells #[a, b] T (0, 0)) := by
  rw [hb.block _ (by simp)]; exact heap_alloc_new w _
theorem way_call {X : Nat} {ad nx : List Int} {pu pl rest : List RAt} {C : List ByteArray → List Int → List Bool → Bool} {m : Nat} (HW : WayOK X ad nx pu rest C m) {w W : World} {B B' B'' : Nat} {rv pv nv vv fv rv' : Value} {an av : Option Addr} {cn cv : Nat} {ns : List ByteArray} {vs : List Int} {fr : List Bool} {a : RAt} {n : ByteArray} {x : Int}
    (hI : HIn w X ad nx pl pu ns vs fr rv pv nv vv fv) (hb : Below w.heap.size w W) (hr : W.ownsRow B'' 46 3 rv' rest.length (raCells rest)) (ho1 : W.ownsRow B 9 1 (.slice an (ns ++ [n]).length cn) (ns ++ [n]).length ((ns ++ [n]).map Value.string)) (ho2 : W.ownsRow B' 3 1 (.slice av (vs ++ [x]).length cv) (vs ++ [x]).length (ints (vs ++ [x])))
    (hB : HBd ad nx pl pu ns vs fr) (hlen : pl.length = rest.length + 1) (hx : -100000000000 ≤ x ∧ x ≤ 100000000000) (hm : fr.count true < m) :
    Calls Try.prog 25 #[.pointer (some ⟨X, 0, none⟩), .agg #[.string a.k, .string a.a, .string a.b], .int .i64 x, rv', pv, .agg #[.slice an (ns.length + 1) cn, .slice av (vs.length + 1) cv], fv] W fun e w' => e = .returned (.bool (wayM ad nx C a (ns ++ [n]) (vs ++ [x]) m x fr)) ∧ Below W.heap.size W w' := by
  have e1 : (ns ++ [n]).length = ns.length + 1 := by simp
  have e2 : (vs ++ [x]).length = vs.length + 1 := by simp
  have h1 := hB.l1
  have h4 := hB.l4
  have hp := hI.pl.2.1
  have := HW W rv' pv _ _ fv (ns ++ [n]) (vs ++ [x]) fr a x ⟨hI.hp.below hb, Lst.of_own hr (by omega), hI.pu.below hb, Lst.of_own ho1 (by omega), Lst.of_own ho2 (by omega), hI.fr.below hb⟩
    ⟨by simp; omega, hB.l2, hB.l3, by simp only [List.length_cons, List.length_append, List.length_nil]; omega, fun v hv => by
      simp only [List.mem_cons, List.mem_append, List.not_mem_nil, or_false] at hv
      rcases hv with rfl | hv | rfl
      · omega
      · exact hB.bv v hv
      · exact hx, hB.ba, hB.bn⟩ hm
  rwa [e1, e2] at this

set_option maxRecDepth 100000 in
set_option maxHeartbeats 20000000 in
theorem cel_step {X : Nat} {ad nx : List Int} {pu pl : List RAt} {n : Nat} (hn : pl.length = n + 1) (IH : ∀ pl', pl'.length = n → CelOK X ad nx pu pl' (celM ad nx pu n pl')) : CelOK X ad nx pu pl (celM ad nx pu (n + 1) pl) := by
  intro w rv pv nv vv fv ns vs fr hI hB
  have HIH := hide IH
  have HI := hide hI
  have HB := hide hB
  have hfl := hI.fr.2.1
  have hpl := hI.pl.2.1
  have hal := hI.hp.choose_spec.choose_spec.2.2.1.2.1
  obtain ⟨i, hi⟩ : ∃ i, i = pkF ns vs pl 0 := ⟨_, rfl⟩
  have hil : i < pl.length := by rw [hi]; exact pkF_lt (by omega) 0
  have HIP := hide hi
  have HN := hide hn
  obtain ⟨na, nc, rfl⟩ := hI.ns.slice
  obtain ⟨va, vc, rfl⟩ := hI.vs.slice
  obtain ⟨fa, fc, rfl⟩ := hI.fr.slice
  obtain ⟨pg, poff, rc, rfl, hrc, hrm, hcp⟩ := hI.pl.2.2.resolve_left (fun h => by omega)
  obtain ⟨pa, pc, rfl⟩ := hI.pu.slice
  have HCP := hide hcp
  have hp0 : ((pl.length : Int) == 0) = false := by rw [beq_eq_false_iff_ne]; omega
  clear hI hB IH hi hn hcp
  go_enter Try.func12, Try.ntmps12
  go_wp2_with fail
  go_loopw [12, 13] (fun iv kv wr => ∃ j : Nat, j ≤ pl.length ∧ kv = .int .i64 ((j : Int) - 1) ∧ iv = .int .i64 (pkF ns vs pl j) ∧ Hid (Below w.heap.size w wr) ∧ Hid (wr.heap[w.heap.size]? = some (.cells #[.slice na ns.length nc, .slice va vs.length vc] 44 (0, 0)))) (fun _ kv _ => (intOf kv + 1).toNat)
  case atStart => exact ⟨pl.length, Nat.le_refl _, by go_num, by rw [pkF_end]; rfl, hide (below_box _ _), hide (heap_alloc_new w _)⟩
  case round =>
    obtain ⟨j, hj, rfl, rfl, hbl, hbx⟩ := hrel
    obtain ⟨b0, b1, -, -⟩ := cellsE2 (unhide hbx)
    have HBF : Hid (∀ w2, Below wr.heap.size wr w2 → Below w.heap.size w w2 ∧ w2.heap[w.heap.size]? = some (.cells #[.slice na ns.length nc, .slice va vs.length vc] 44 (0, 0))) := hide (fun w2 hb => ⟨(unhide hbl).trans (hb.mono (unhide hbl).size), by rw [hb.block _ (Array.getElem?_eq_some_iff.1 (unhide hbx)).1]; exact unhide hbx⟩)
    by_cases hj0 : 0 < j
    · obtain ⟨k, rfl⟩ : ∃ k, j = k + 1 := ⟨j - 1, by omega⟩
      have hkl : k < pl.length := by omega
      obtain ⟨q0, q1, q2⟩ := ra_get hkl
      have cA : wr.cell? ⟨pg, poff + k * 3 + 1, none⟩ = some (.string pl[k].a) := by rw [Nat.add_assoc]; rw [(unhide hbl).cell (World.block_lt_of_cell? w _ (unhide HCP _ _ q1))]; exact unhide HCP _ _ q1
      have ek : (((k + 1 : Nat) : Int) - 1) = (k : Int) := by omega
      rw [ek]
      have hk0 : decide (0 ≤ (k : Int)) = true := by simp
      have HV : Hid (Calls Try.prog 24 #[.agg #[.slice na ns.length nc, .slice va vs.length vc], .string pl[k].a] wr.drew fun e w'' => e = .returned (.tuple #[.int .i64 ((evA ns vs pl[k].a).getD 0), .bool (evA ns vs pl[k].a).isSome]) ∧ Below wr.drew.heap.size wr.drew w'') :=
        hide (hvalue_any pl[k].a ((unhide HI).ns.below (unhide hbl).drew) ((unhide HI).vs.below (unhide hbl).drew) (unhide HB).l1)
      clear q0 q1 q2 ek
      go_wp2_with fail
      go_region_with (go_at_call 24; refine (unhide HV).mono ?_; rintro e w1 ⟨rfl, hb1⟩; have HB1 : Hid (Below wr.heap.size wr w1) := hide ⟨hb1.os, hb1.tape, hb1.output, hb1.size, hb1.block⟩; clear hb1)
      all_goals
        cases hs : (evA ns vs pl[k].a).isSome with
        | true =>
          have HS : Hid (pkF ns vs pl k = k) := hide (by rw [pkF_step hkl, if_pos hs])
          clear hs
          go_wp2_with fail
          go_roundw
          case rel => exact ⟨k, by omega, by go_num, by rw [unhide HS], hide (unhide HBF _ (unhide HB1)).1, hide (unhide HBF _ (unhide HB1)).2⟩
          case measure => simp [intOf]
        | false =>
          have HS : Hid (pkF ns vs pl k = pkF ns vs pl (k + 1)) := hide (by rw [pkF_step hkl, if_neg (by simp [hs])])
          clear hs
          go_wp2_with fail
          go_roundw
          case rel => exact ⟨k, by omega, by go_num, by rw [unhide HS], hide (unhide HBF _ (unhide HB1)).1, hide (unhide HBF _ (unhide HB1)).2⟩
          case measure => simp [intOf]
    · obtain rfl : j = 0 := by omega
      rw [← unhide HIP]
      have hd : decide ((0 : Int) ≤ ((0 : Nat) : Int) - 1) = false := by simp
      obtain ⟨q0, q1, q2⟩ := ra_get hil
      have c0 : wr.cell? ⟨pg, poff + i * 3, none⟩ = some (.string pl[i].k) := by rw [(unhide hbl).cell (World.block_lt_of_cell? w _ (unhide HCP _ _ q0))]; exact unhide HCP _ _ q0
      have c1 : wr.cell? ⟨pg, poff + i * 3 + 1, none⟩ = some (.string pl[i].a) := by rw [Nat.add_assoc]; rw [(unhide hbl).cell (World.block_lt_of_cell? w _ (unhide HCP _ _ q1))]; exact unhide HCP _ _ q1
      have c2 : wr.cell? ⟨pg, poff + i * 3 + 2, none⟩ = some (.string pl[i].b) := by rw [Nat.add_assoc]; rw [(unhide hbl).cell (World.block_lt_of_cell? w _ (unhide HCP _ _ q2))]; exact unhide HCP _ _ q2
      obtain ⟨i0, hi, hz0, hz1, hz2⟩ := info_parts Try.infoRAt
      have hbA : Below w.heap.size w (wr.alloc (.cells #[.string pl[i].k, .string pl[i].a, .string pl[i].b] 46)) := (unhide hbl).alloc (unhide hbl).size _
      have HL1 := hide (Lst.takeA (i := i) (unhide HCP) hbA (by omega) hpl hrc hrm)
      unfold maxLen at hrm
      clear q0 q1 q2 hbA
      go_wp2_with (at_builtin; refine wpList_app_lst rfl (.tmp 63) (.tmp 66) 27 rfl (wr.heap.size + 1) 46 i0 _ 3 48 Try.underlying27 hi hz0 hz1 hz2 rfl (by decide) _ 0 [] rfl (World.ownsRow_nil _ _ _ _) _ _ _ rfl (unhide HL1) (raCells_one _) (by omega) (by decide) (by simp) ?_)
      intro v1 w1 hown1 hgrow1
      obtain ⟨WA, hWA⟩ : ∃ WA, WA = wr.alloc (.cells #[.string pl[i].k, .string pl[i].a, .string pl[i].b] 46) := ⟨_, rfl⟩
      have hsA : WA.heap.size = wr.heap.size + 1 := by rw [hWA]; simp
      rw [← hWA] at hgrow1
      have hA1 : Below WA.heap.size WA w1 := (Below.refl _ _).grown hgrow1 (Nat.le_refl _) (fun k e => by cases e)
      have hwA : Below w.heap.size w WA := by rw [hWA]; exact (unhide hbl).alloc (unhide hbl).size _
      have hbA0 : WA.heap[wr.heap.size]? = some (.cells #[.string pl[i].k, .string pl[i].a, .string pl[i].b] 46 (0, 0)) := by rw [hWA]; exact heap_alloc_new wr _
      have hbA1 : WA.heap[w.heap.size]? = some (.cells #[.slice na ns.length nc, .slice va vs.length vc] 44 (0, 0)) := by
        have h0 := (Array.getElem?_eq_some_iff.1 (unhide hbx)).1
        rw [hWA, Below.heap_alloc _ _ _ h0]; exact unhide hbx
      have hws : w.heap.size < wr.heap.size := (Array.getElem?_eq_some_iff.1 (unhide hbx)).1
      obtain ⟨f1, d1, hv1⟩ := slice_of_own hown1
      subst hv1
      have HO1 := hide hown1
      have HA1 := hide hA1
      have HWA := hide hwA
      have HSA := hide hsA
      have HB0 := hide hbA0
      have HB1 := hide hbA1
      obtain ⟨off', hoff, hA, hA2, hA3⟩ : ∃ off', (i + 1 < pl.length → off' = poff + (i + 1) * 3) ∧ (if rc = i + 1 then some (⟨pg, poff, none⟩ : Addr) else some ⟨pg, poff + (i + 1) * 3, none⟩) = some ⟨pg, off', none⟩ ∧ (if rc - (i + 1) = 0 then some (⟨pg, poff, none⟩ : Addr) else some ⟨pg, poff + (i + 1) * 3, none⟩) = some ⟨pg, off', none⟩ ∧ True := by
        by_cases h : rc = i + 1
        · exact ⟨poff, fun h2 => by omega, by rw [if_pos h], by rw [if_pos (by omega)], trivial⟩
        · exact ⟨poff + (i + 1) * 3, fun _ => rfl, by rw [if_neg h], by rw [if_neg (by omega)], trivial⟩
      have HL2 := hide (Lst.dropA (i := i + 1) (off' := off') (unhide HCP) ((unhide HWA).trans ((unhide HA1).mono (unhide HWA).size)) (by omega) hpl hrc (by unfold maxLen; omega) hoff)
      have hs1 := hA1.size
      clear hown1 hgrow1 hA1 hwA hbA0 hbA1 hWA HL1 hoff hA3
      go_wp2_with (at_builtin; refine wpList_app_lst rfl (.tmp 68) (.tmp 72) 27 rfl (wr.heap.size + 1) 46 i0 _ 3 48 Try.underlying27 hi hz0 hz1 hz2 rfl (by decide) _ i (raCells (pl.take i)) rfl (unhide HO1) _ _ _ rfl (unhide HL2) (raCells_one _) (by omega) (by decide) (by omega) ?_)
      intro v2 w2 hown2 hgrow2
      obtain ⟨rest, hrest⟩ : ∃ rest, rest = pl.take i ++ pl.drop (i + 1) := ⟨_, rfl⟩
      have hrl : rest.length = n := by rw [hrest]; simp; have := unhide HN; omega
      have e1 : i + (pl.length - (i + 1)) = rest.length := by have := unhide HN; omega
      rw [e1, ← raCells_app, ← hrest] at hown2
      have hA2' : Below WA.heap.size WA w2 := (unhide HA1).grown hgrow2 (unhide HA1).size (fun k e => by have := ((unhide HO1).lt k e).1; have := unhide HSA; omega)
      obtain ⟨f2, dd2, hv2⟩ := slice_of_own hown2
      subst hv2
      have HO2 := hide hown2
      have HA2 := hide hA2'
      have HRL := hide hrl
      have HRE := hide hrest
      have hb2w : Below w.heap.size w w2 := (unhide HWA).trans (hA2'.mono (unhide HWA).size)
      have HBW2 := hide hb2w
      have hx0 : w2.heap[wr.heap.size]? = some (.cells #[.string pl[i].k, .string pl[i].a, .string pl[i].b] 46 (0, 0)) := by
        rw [hA2'.block _ (by have := unhide HSA; omega)]; exact unhide HB0
      have hx1 : w2.heap[w.heap.size]? = some (.cells #[.slice na ns.length nc, .slice va vs.length vc] 44 (0, 0)) := by
        rw [hA2'.block _ (by have := unhide HSA; omega)]; exact unhide HB1
      obtain ⟨a0, a1, a2⟩ := cells3H hx0
      obtain ⟨g0, g1, -, -⟩ := cellsE2 hx1
      have HX0 := hide hx0
      have HX1 := hide hx1
      clear hown2 hgrow2 hA2' hrl hrest hb2w e1 hA hA2 c0 c1 c2 b0 b1 hx0 hx1
      go_wp2_with fail
      refine (hvalue_any pl[i].a ((unhide HI).ns.below (unhide HBW2)) ((unhide HI).vs.below (unhide HBW2)) (unhide HB).l1).mono ?_
      rintro e w3 ⟨rfl, hb3⟩
      have HB3 := hide hb3
      have HBW3 := hide ((unhide HBW2).trans (hb3.mono (unhide HBW2).size))
      have hx0 : w3.heap[wr.heap.size]? = some (.cells #[.string pl[i].k, .string pl[i].a, .string pl[i].b] 46 (0, 0)) := by
        rw [hb3.block _ (Array.getElem?_eq_some_iff.1 (unhide HX0)).1]; exact unhide HX0
      have hx1 : w3.heap[w.heap.size]? = some (.cells #[.slice na ns.length nc, .slice va vs.length vc] 44 (0, 0)) := by
        rw [hb3.block _ (Array.getElem?_eq_some_iff.1 (unhide HX1)).1]; exact unhide HX1
      have HO3 := hide (rowBelow2 (unhide HO2) hb3)
      clear a0 a1 a2 g0 g1 hb3 HX0 HX1
      obtain ⟨a0, a1, a2⟩ := cells3H hx0
      obtain ⟨g0, g1, -, -⟩ := cellsE2 hx1
      have HX0 := hide hx0
      have HX1 := hide hx1
      have HGD : pl.getD i ra0 = pl[i] := by simp [hil]
      have HWO : Hid (WayOK X ad nx pu rest (celM ad nx pu n rest) (fr.count true + 1)) := hide (way_all (unhide HIH rest (unhide HRL)) _)
      cases hev : evA ns vs pl[i].a with
      | some v =>
        have HR : Hid (celM ad nx pu (n + 1) pl ns vs fr = wayM ad nx (celM ad nx pu n rest) pl[i] ns vs (fr.count true + 1) v fr) := hide (by
          rw [celM, ← unhide HIP, HGD, hev, ← unhide HRE])
        clear hev HGD hx0 hx1
        go_wp2_with fail
        refine (unhide HWO w3 _ _ _ _ _ ns vs fr pl[i] v ⟨(unhide HI).hp.below (unhide HBW3), Lst.of_own (unhide HO3) (by have := unhide HRL; have := unhide HN; omega), (unhide HI).pu.below (unhide HBW3), (unhide HI).ns.below (unhide HBW3), (unhide HI).vs.below (unhide HBW3), (unhide HI).fr.below (unhide HBW3)⟩
          ⟨by have := (unhide HB).l1; simp; omega, (unhide HB).l2, (unhide HB).l3, by have := (unhide HB).l4; simp only [List.length_cons]; have := unhide HRL; have := unhide HN; omega, fun v hv => by
            rcases List.mem_cons.1 hv with rfl | hv
            · omega
            · exact (unhide HB).bv v hv, (unhide HB).ba, (unhide HB).bn⟩ (by omega)).mono ?_
        rintro e w4 ⟨rfl, hb4⟩
        have HB4 := hide ((unhide HBW3).trans (hb4.mono (unhide HBW3).size))
        clear hb4
        go_wp2_with fail
        go_ret
        exact ⟨ret_bool (unhide HR).symm, unhide HB4⟩
      | none =>
        have HR : Hid (celM ad nx pu (n + 1) pl ns vs fr = (List.range ad.length).any (fun k => fr.getD k false && wayM ad nx (celM ad nx pu n rest) pl[i] (ns ++ [pl[i].a]) (vs ++ [ad.getD k 0]) (fr.count true + 1) (ad.getD k 0) fr)) := hide (by
          rw [celM, ← unhide HIP, HGD, hev, ← unhide HRE])
        clear hev HGD hx0 hx1
        obtain ⟨ab, hab⟩ : ∃ ab, ab = wr.heap.size := ⟨_, rfl⟩
        have HX0b : Hid (w3.heap[ab]? = some (.cells #[.string pl[i].k, .string pl[i].a, .string pl[i].b] 46 (0, 0))) := hide (by rw [hab]; exact unhide HX0)
        rw [← hab]
        clear hab
        go_wp2_with fail
        go_loopw [20] (fun iv wx => ∃ k : Nat, k ≤ ad.length ∧ iv = .int .i64 k ∧ Hid (∀ j, j < k → (fr.getD j false && wayM ad nx (celM ad nx pu n rest) pl[i] (ns ++ [pl[i].a]) (vs ++ [ad.getD j 0]) (fr.count true + 1) (ad.getD j 0) fr) = false) ∧ Hid (Below w3.heap.size w3 wx)) (fun iv _ => ad.length - (intOf iv).toNat)
        case atStart => exact ⟨0, Nat.zero_le _, rfl, hide (fun _ h => absurd h (by omega)), hide (Below.refl _ _)⟩
        case round =>
          clear a0 a1 a2 g0 g1
          obtain ⟨k, hk, rfl, hall, hq⟩ := hrel
          have hbw : Below w.heap.size w wr := (unhide HBW3).trans ((unhide hq).mono (unhide HBW3).size)
          have HBQ := hide hbw
          obtain ⟨av, xv, c2, -, hAv, -⟩ := (unhide HI).hp.below hbw
          obtain ⟨ao, ac, rfl⟩ := hAv.slice
          have HAv := hide hAv
          have hx0 : wr.heap[ab]? = some (.cells #[.string pl[i].k, .string pl[i].a, .string pl[i].b] 46 (0, 0)) := by
            rw [(unhide hq).block _ (Array.getElem?_eq_some_iff.1 (unhide HX0b)).1]; exact unhide HX0b
          have hx1 : wr.heap[w.heap.size]? = some (.cells #[.slice na ns.length nc, .slice va vs.length vc] 44 (0, 0)) := by
            rw [(unhide hq).block _ (Array.getElem?_eq_some_iff.1 (unhide HX1)).1]; exact unhide HX1
          have HY0 := hide hx0
          obtain ⟨a0, a1, a2⟩ := cells3H hx0
          obtain ⟨g0, g1, -, -⟩ := cellsE2 hx1
          clear hbw hAv hx0 hx1
          by_cases hlt : k < ad.length
          · obtain ⟨ga, oa, ca, hv, -, -, hca⟩ := (unhide HAv).get (by omega)
            simp only [Value.slice.injEq, true_and] at hv
            obtain ⟨rfl, rfl⟩ := hv
            obtain ⟨x, hx⟩ : ∃ x, x = ad.getD k 0 := ⟨_, rfl⟩
            have cX := hca k _ (ints_get hlt)
            rw [← hx] at cX
            have hkf : k < fr.length := by have := (unhide HB).l2; omega
            obtain ⟨gf, of, cf, hv2, hn2, hm2, hcf⟩ := ((unhide HI).fr.below (unhide HBQ)).get (by omega)
            simp only [Value.slice.injEq, true_and] at hv2
            obtain ⟨rfl, rfl⟩ := hv2
            have x2 := hcf k _ (bools_get hkf)
            have HXX := hide hx
            have HXB : Hid (-100000000000 ≤ x ∧ x ≤ 100000000000) := hide (by rw [hx]; exact (unhide HB).ba.get k)
            clear hca hcf hx
            cases hf : fr.getD k false with
            | false =>
              have HF : Hid (∀ j, j < k + 1 → (fr.getD j false && wayM ad nx (celM ad nx pu n rest) pl[i] (ns ++ [pl[i].a]) (vs ++ [ad.getD j 0]) (fr.count true + 1) (ad.getD j 0) fr) = false) := hide (fun j hj => by
                by_cases e : j = k
                · rw [e, hf]; rfl
                · exact unhide hall j (by omega))
              rw [hf] at x2
              clear hf
              go_wp2_with fail
              go_roundw
              case rel => exact ⟨k + 1, by omega, by go_num, HF, hq⟩
              case measure => simp [intOf]; omega
            | true =>
              rw [hf] at x2
              have HFK := hide hf
              have HWC : Hid (∀ w', Below wr.heap.size wr w' → Calls Try.prog 26 #[.agg #[.slice na ns.length nc, .slice va vs.length vc], .string pl[i].a, .int .i64 x] w' fun e w'' => ∃ nv' vv', e = .returned (.agg #[nv', vv']) ∧ w''.ownsRow w'.heap.size 9 1 nv' (ns ++ [pl[i].a]).length ((ns ++ [pl[i].a]).map Value.string) ∧ w''.ownsRow w'.heap.size 3 1 vv' (vs ++ [x]).length (ints (vs ++ [x])) ∧ Below w'.heap.size w' w'') :=
                hide (fun w' hb => with_any pl[i].a x ((unhide HI).ns.below ((unhide HBQ).trans (hb.mono (unhide HBQ).size))) ((unhide HI).vs.below ((unhide HBQ).trans (hb.mono (unhide HBQ).size))) (by have := (unhide HB).l4; omega) (by have := (unhide HB).l4; have := (unhide HB).l1; omega))
              have g0a := ((below_box wr (.cells #[.slice none 0 0, .slice none 0 0] 44)).cell (World.block_lt_of_cell? wr _ g0)).trans g0
              have g1a := ((below_box wr (.cells #[.slice none 0 0, .slice none 0 0] 44)).cell (World.block_lt_of_cell? wr _ g1)).trans g1
              have a1a := ((below_box wr (.cells #[.slice none 0 0, .slice none 0 0] 44)).cell (World.block_lt_of_cell? wr _ a1)).trans a1
              have c2a := ((below_box wr (.cells #[.slice none 0 0, .slice none 0 0] 44)).cell (World.block_lt_of_cell? wr _ c2)).trans c2
              have cXa := ((below_box wr (.cells #[.slice none 0 0, .slice none 0 0] 44)).cell (World.block_lt_of_cell? wr _ cX)).trans cX
              clear hf
              go_wp2_with fail
              go_cut [21] (fun p wx => ∃ b an cn av cv, p = .pointer (some ⟨b, 0, none⟩) ∧ Hid (wx.heap[b]? = some (.cells #[.slice an (ns.length + 1) cn, .slice av (vs.length + 1) cv] 44 (0, 0))) ∧ Hid (∃ B, wx.ownsRow B 9 1 (.slice an (ns ++ [pl[i].a]).length cn) (ns ++ [pl[i].a]).length ((ns ++ [pl[i].a]).map Value.string)) ∧ Hid (∃ B, wx.ownsRow B 3 1 (.slice av (vs ++ [x]).length cv) (vs ++ [x]).length (ints (vs ++ [x]))) ∧ Hid (Below wr.heap.size wr wx))
              case first =>
                go_region_with (go_at_call 26; first
                  | (refine (unhide HWC wr.drew (Below.refl _ _).drew).mono ?_; rintro e w4 ⟨nv', vv', rfl, ho1, ho2, hb1⟩; obtain ⟨an, cn, rfl⟩ := slice_of_own ho1; obtain ⟨av, cv, rfl⟩ := slice_of_own ho2; have HP1 := hide ho1; have HP2 := hide ho2; have HP3 : Hid (Below wr.heap.size wr w4) := hide ⟨hb1.os, hb1.tape, hb1.output, hb1.size, hb1.block⟩; clear ho1 ho2 hb1)
                  | (refine (unhide HWC (wr.alloc (.cells #[.slice none 0 0, .slice none 0 0] 44)).drew (below_box _ _).drew).mono ?_; rintro e w4 ⟨nv', vv', rfl, ho1, ho2, hb0⟩; have hb1 : Below (wr.alloc (.cells #[.slice none 0 0, .slice none 0 0] 44)).heap.size (wr.alloc (.cells #[.slice none 0 0, .slice none 0 0] 44)) w4 := ⟨hb0.os, hb0.tape, hb0.output, hb0.size, hb0.block⟩; clear hb0; obtain ⟨z0, z1, y0, y1⟩ := cellsE2 (box_afterI hb1); obtain ⟨an, cn, rfl⟩ := slice_of_own ho1; obtain ⟨av, cv, rfl⟩ := slice_of_own ho2; have HP1 := hide ho1; have HP2 := hide ho2; have HP3 := hide hb1; clear ho1 ho2 hb1))
                all_goals (try go_wp2_with fail)
                all_goals go_meet
                all_goals first
                  | exact ⟨_, _, _, _, _, rfl, hide (heap_alloc_new w4 _), hide ⟨_, (unhide HP1).alloc _⟩, hide ⟨_, (unhide HP2).alloc _⟩, hide ((unhide HP3).alloc (unhide HP3).size _)⟩
                  | exact ⟨_, _, _, _, _, rfl, hide (set6 (set6 (box_afterI (unhide HP3)) _) _), hide ⟨_, own_setH (own_setH (unhide HP1) (by simp) _) (by simp) _⟩, hide ⟨_, own_setH (own_setH (unhide HP2) (by simp) _) (by simp) _⟩, hide ((((below_box wr _).trans ((unhide HP3).mono (by simp))).setCell (p := ⟨wr.heap.size, 0, none⟩) (Nat.le_refl _) _).setCell (p := ⟨wr.heap.size, 1, none⟩) (Nat.le_refl _) _)⟩
              case rest =>
                obtain ⟨b, an, cn, av, cv, rfl, hbb, ho1, ho2, hbc⟩ := hcut
                have hbw : Below w.heap.size w wc := (unhide HBQ).trans ((unhide hbc).mono (unhide HBQ).size)
                have HBC := hide hbw
                have HQC := hide ((unhide hq).trans ((unhide hbc).mono (unhide hq).size))
                have d2 := ((unhide hbc).cell (World.block_lt_of_cell? wr _ c2)).trans c2
                have dX := ((unhide hbc).cell (World.block_lt_of_cell? wr _ cX)).trans cX
                have dA0 := ((unhide hbc).cell (World.block_lt_of_cell? wr _ a0)).trans a0
                have dA1 := ((unhide hbc).cell (World.block_lt_of_cell? wr _ a1)).trans a1
                have dA2 := ((unhide hbc).cell (World.block_lt_of_cell? wr _ a2)).trans a2
                obtain ⟨dE0, dE1, -, -⟩ := cellsE2 (unhide hbb)
                obtain ⟨B1, hB1⟩ := unhide ho1
                obtain ⟨B2, hB2⟩ := unhide ho2
                have HWY : Hid (Calls Try.prog 25 #[.pointer (some ⟨X, 0, none⟩), .agg #[.string pl[i].k, .string pl[i].a, .string pl[i].b], .int .i64 x, .slice f2 rest.length dd2, .slice pa pu.length pc, .agg #[.slice an (ns.length + 1) cn, .slice av (vs.length + 1) cv], .slice (some ⟨gf, of, none⟩) fr.length fc] wc.drew fun e w' => e = .returned (.bool (wayM ad nx (celM ad nx pu n rest) pl[i] (ns ++ [pl[i].a]) (vs ++ [x]) (fr.count true + 1) x fr)) ∧ Below wc.drew.heap.size wc.drew w') :=
                  hide (way_call (unhide HWO) (unhide HI) hbw.drew (rowBelow2 (unhide HO3) (unhide HQC).drew) hB1 hB2 (unhide HB) (by have := unhide HRL; have := unhide HN; omega) (unhide HXB) (by omega))
                clear hbw hB1 hB2 a0 a1 a2 g0 g1 c2 cX g0a g1a a1a c2a cXa x2
                go_wp2_with fail
                go_cut [22] (fun r wx => r = .bool (wayM ad nx (celM ad nx pu n rest) pl[i] (ns ++ [pl[i].a]) (vs ++ [x]) (fr.count true + 1) x fr) ∧ Hid (Below wr.heap.size wr wx))
                case first =>
                  go_region_with (go_at_call 25; refine (unhide HWY).mono ?_; rintro e w5 ⟨rfl, hb5⟩; have HP5 : Hid (Below wr.heap.size wr w5) := hide ((unhide hbc).trans ((⟨hb5.os, hb5.tape, hb5.output, hb5.size, hb5.block⟩ : Below wc.heap.size wc w5).mono (unhide hbc).size)); clear hb5)
                  all_goals (try go_wp2_with fail)
                  all_goals go_meet
                  all_goals exact ⟨rfl, HP5⟩
                case rest =>
                  obtain ⟨rfl, hbd⟩ := hcut
                  cases hr : wayM ad nx (celM ad nx pu n rest) pl[i] (ns ++ [pl[i].a]) (vs ++ [x]) (fr.count true + 1) x fr with
                  | true =>
                    have HRT : Hid (celM ad nx pu (n + 1) pl ns vs fr = true) := hide (by
                      rw [unhide HR, List.any_eq_true]
                      exact ⟨k, by simpa using hlt, by rw [unhide HFK, ← unhide HXX, hr]; rfl⟩)
                    clear hr
                    go_wp2_with fail
                    go_ret
                    exact ⟨ret_bool (unhide HRT).symm, (unhide HBQ).trans ((unhide hbd).mono (unhide HBQ).size)⟩
                  | false =>
                    have HF : Hid (∀ j, j < k + 1 → (fr.getD j false && wayM ad nx (celM ad nx pu n rest) pl[i] (ns ++ [pl[i].a]) (vs ++ [ad.getD j 0]) (fr.count true + 1) (ad.getD j 0) fr) = false) := hide (fun j hj => by
                      by_cases e : j = k
                      · rw [e, ← unhide HXX, hr]; simp
                      · exact unhide hall j (by omega))
                    clear hr
                    go_wp2_with fail
                    go_roundw
                    case rel => exact ⟨k + 1, by omega, by go_num, HF, hide ((unhide hq).trans ((unhide hbd).mono (unhide hq).size))⟩
                    case measure => simp [intOf]; omega
          · obtain rfl : k = ad.length := by omega
            have hd : decide ((ad.length : Int) < (ad.length : Int)) = false := by simp
            have HRF : Hid (celM ad nx pu (n + 1) pl ns vs fr = false) := hide (by
              rw [unhide HR, List.any_eq_false]
              intro j hj
              rw [unhide hall j (by simpa using hj)]
              simp)
            clear hlt hk
            go_wp2_with fail
            go_ret
            exact ⟨ret_bool (unhide HRF).symm, unhide HBQ⟩
end Go.Proofs.Ytciihepbeacppaa
