import Derived.Test.YtciihepbeacppaaHF
namespace Go.Proofs.Ytciihepbeacppaa
open Go.RowKit

theorem toW_lH : toW.toList = [45, 62] := ByteArray.toList_eq _
theorem HBd.tail {ad nx : List Int} {pl pu : List RAt} {ns : List ByteArray} {vs : List Int} {fr : List Bool} (h : HBd ad nx pl pu (em :: ns) (0 :: vs) fr) : HBd ad nx pl pu ns vs fr :=
  ⟨by have := h.l1; simpa using this, h.l2, h.l3, by have := h.l4; simp only [List.length_cons] at this; omega, fun v hv => h.bv v (by simp [hv]), h.ba, h.bn⟩
theorem HBd.set {ad nx : List Int} {pl pu : List RAt} {ns : List ByteArray} {vs : List Int} {fr : List Bool} (h : HBd ad nx pl pu ns vs fr) (k : Nat) : HBd ad nx pl pu ns vs (fr.set k false) :=
  ⟨h.l1, by simpa using h.l2, h.l3, h.l4, h.bv, h.ba, h.bn⟩
theorem HBd.app {ad nx : List Int} {pl pu : List RAt} {ns : List ByteArray} {vs : List Int} {fr : List Bool} (h : HBd ad nx pl pu (em :: ns) (0 :: vs) fr) (n : ByteArray) {x : Int} (hx : -100000000000 ≤ x ∧ x ≤ 100000000000) : HBd ad nx pl pu (ns ++ [n]) (vs ++ [x]) fr :=
  ⟨by have := h.l1; simp at this ⊢; omega, h.l2, h.l3, by have := h.l4; simp only [List.length_cons, List.length_append, List.length_nil] at this ⊢; omega, fun v hv => by
    simp only [List.mem_append, List.mem_singleton] at hv
    rcases hv with hv | rfl
    · exact h.bv v (by simp [hv])
    · exact hx, h.ba, h.bn⟩
theorem BV.get {l : List Int} (h : BV l) (k : Nat) : -100000000000 ≤ l.getD k 0 ∧ l.getD k 0 ≤ 100000000000 := by
  by_cases hk : k < l.length
  · have := h l[k] (List.getElem_mem hk); simpa [hk] using this
  · simp [List.getD_eq_getElem?_getD, List.getElem?_eq_none (Nat.le_of_not_lt hk)]
/-- the two structs of way -/
structure WaI (w wr : World) (a : RAt) (nv vv : Value) : Prop where
  b0 : wr.heap[w.heap.size]? = some (.cells #[.string a.k, .string a.a, .string a.b] 46 (0, 0))
  b1 : wr.heap[w.heap.size + 1]? = some (.cells #[nv, vv] 44 (0, 0))
  bl : Below w.heap.size w wr
  sz : w.heap.size + 2 ≤ wr.heap.size
theorem WaI.start (w : World) (a : RAt) (nv vv : Value) : WaI w ((w.alloc (.cells #[.string a.k, .string a.a, .string a.b] 46)).alloc (.cells #[nv, vv] 44)) a nv vv := by
  refine ⟨?_, ?_, below_box2 _ _ _, by simp⟩
  · rw [Below.heap_alloc _ _ _ (by simp)]; exact heap_alloc_new w _
  · have := heap_alloc_new (w.alloc (.cells #[.string a.k, .string a.a, .string a.b] 46)) (.cells #[nv, vv] 44)
    simpa using this
theorem WaI.below {w wr wr' : World} {a : RAt} {nv vv : Value} (h : WaI w wr a nv vv) (hb : Below wr.heap.size wr wr') : WaI w wr' a nv vv := by
  have hs := h.sz
  exact ⟨by rw [hb.block _ (by omega)]; exact h.b0, by rw [hb.block _ (by omega)]; exact h.b1, h.bl.trans (hb.mono (by omega)), by have := hb.size; omega⟩

theorem cel_call {X : Nat} {ad nx : List Int} {pu pl : List RAt} {C : List ByteArray → List Int → List Bool → Bool} (HC : CelOK X ad nx pu pl C) {W : World} {B B' : Nat} {rv pv nv vv fv : Value} {an av : Option Addr} {cn cv : Nat} {ns : List ByteArray} {vs : List Int} {fr : List Bool} {n : ByteArray} {x : Int}
    (hI : HIn W X ad nx pl pu ns vs fr rv pv nv vv fv) (ho1 : W.ownsRow B 9 1 (.slice an (ns ++ [n]).length cn) (ns ++ [n]).length ((ns ++ [n]).map Value.string)) (ho2 : W.ownsRow B' 3 1 (.slice av (vs ++ [x]).length cv) (vs ++ [x]).length (ints (vs ++ [x])))
    (hB : HBd ad nx pl pu (em :: ns) (0 :: vs) fr) (hx : -100000000000 ≤ x ∧ x ≤ 100000000000) :
    Calls Try.prog 12 #[.pointer (some ⟨X, 0, none⟩), rv, pv, .agg #[.slice an (ns.length + 1) cn, .slice av (vs.length + 1) cv], fv] W fun e w' => e = .returned (.bool (C (ns ++ [n]) (vs ++ [x]) fr)) ∧ Below W.heap.size W w' := by
  have e1 : (ns ++ [n]).length = ns.length + 1 := by simp
  have e2 : (vs ++ [x]).length = vs.length + 1 := by simp
  have h1 := hB.l1
  have h4 := hB.l4
  simp only [List.length_cons] at h1 h4
  have := HC W rv pv _ _ fv (ns ++ [n]) (vs ++ [x]) fr ⟨hI.hp, hI.pl, hI.pu, Lst.of_own ho1 (by omega), Lst.of_own ho2 (by omega), hI.fr⟩ (hB.app n hx)
  rwa [e1, e2] at this
theorem HIn.left {w W w1 : World} {X : Nat} {ad nx : List Int} {pl pu : List RAt} {ns : List ByteArray} {vs : List Int} {fr : List Bool} {rv pv nv vv fv lv : Value} {k : Nat} (h : HIn w X ad nx pl pu ns vs fr rv pv nv vv fv) (hb : Below w.heap.size w W) (hl : Lst w1 lv 1 fr.length (bools (fr.set k false))) (hb1 : Below w1.heap.size w1 W) : HIn W X ad nx pl pu ns vs (fr.set k false) rv pv nv vv lv :=
  ⟨h.hp.below hb, h.pl.below hb, h.pu.below hb, h.ns.below hb, h.vs.below hb, by rw [List.length_set]; exact hl.below hb1⟩

set_option maxRecDepth 100000 in
set_option maxHeartbeats 8000000 in
theorem way_step {X : Nat} {ad nx : List Int} {pu pl : List RAt} {C : List ByteArray → List Int → List Bool → Bool} (HC : CelOK X ad nx pu pl C) {m : Nat} (IH : WayOK X ad nx pu pl C m) : WayOK X ad nx pu pl C (m + 1) := by
  intro w rv pv nv vv fv ns vs fr a v hI hB hm
  have HCC := hide HC
  have HIH := hide IH
  have HI := hide hI
  have HB := hide hB
  have hal := hI.hp.choose_spec.choose_spec.2.2.1.2.1
  obtain ⟨na, nc, rfl⟩ := hI.ns.slice
  obtain ⟨va, vc, rfl⟩ := hI.vs.slice
  obtain ⟨fa, fc, rfl⟩ := hI.fr.slice
  obtain ⟨ra, rc, rfl⟩ := hI.pl.slice
  obtain ⟨pa, pc, rfl⟩ := hI.pu.slice
  have HM := hide hm
  clear HC IH hI hB hm
  by_cases hk : hCl ad fr v < ad.length
  · obtain ⟨k, hkk⟩ : ∃ k, k = hCl ad fr v := ⟨_, rfl⟩
    have HCI : Hid (hClI ad fr v = (k : Int)) := hide (by unfold hClI; rw [if_pos hk, hkk])
    obtain ⟨t, ht⟩ : ∃ t, t = nx.getD k 0 := ⟨_, rfl⟩
    have hkf : k < fr.length := by have := (unhide HB).l2; omega
    have HWM : Hid (wayM ad nx C a ns vs (m + 1) v fr = ((match evA ns vs a.b with | none => C (ns ++ [a.b]) (vs ++ [t]) (fr.set k false) | some e => (e == t) && C ns vs (fr.set k false)) || (!eqW a.k toW && wayM ad nx C a ns vs m t (fr.set k false)))) := hide (by
      rw [wayM, if_pos hk, ← hkk, ← ht]; rfl)
    have HCT : Hid ((fr.set k false).count true < m) := hide (by have := count_set hkf (by rw [hkk]; exact (hCl_free hk).1); have := unhide HM; omega)
    have HTB : Hid (-100000000000 ≤ t ∧ t ≤ 100000000000) := hide (by rw [ht]; exact (unhide HB).bn.get k)
    have hkn : k < nx.length := by have := (unhide HB).l3; omega
    have HT := hide ht
    have hk0 : decide ((k : Int) < 0) = false := by simp
    clear hkk ht hk
    go_enter Try.func25, Try.ntmps25
    go_wp2_with fail
    refine (hcell_any (fr := fr) v ((unhide HI).hp.below (below_box2 _ _ _)) ((unhide HI).fr.below (below_box2 _ _ _)) (unhide HB).l2).mono ?_
    rintro e w0 ⟨rfl, rfl⟩
    rw [unhide HCI]
    go_wp2_with fail
    refine (without_any (fr := fr) k hkf ((unhide HI).fr.below (below_box2 _ _ _))).mono ?_
    rintro e w1 ⟨lv, rfl, hL1, hb1⟩
    have HW1 := hide ((WaI.start w a _ _).below hb1)
    obtain ⟨la, lc, hlv⟩ := hL1.slice
    subst hlv
    have HL1 := hide hL1
    obtain ⟨av, xv, -, c3, -, hX⟩ := (unhide HI).hp.below (unhide HW1).bl
    obtain ⟨g, off, cap, rfl, hnc, hmc, hcx⟩ := hX.get (by omega)
    have cx := hcx k _ (ints_get hkn)
    rw [← unhide HT] at cx
    obtain ⟨a0, a1, a2⟩ := cells3H (unhide HW1).b0
    obtain ⟨e0, e1, -, -⟩ := cellsE2 (unhide HW1).b1
    clear hL1 hb1 hX hcx
    go_wp2_with fail
    refine (hvalue_any a.b ((unhide HI).ns.below (unhide HW1).bl) ((unhide HI).vs.below (unhide HW1).bl) (unhide HB).tail.l1).mono ?_
    rintro e w2 ⟨rfl, hb2⟩
    have HB2 := hide hb2
    have HW2 := hide ((unhide HW1).below hb2)
    clear hb2 a0 a1 a2 e0 e1 cx c3
    obtain ⟨a0, a1, a2⟩ := cells3H (unhide HW2).b0
    obtain ⟨e0, e1, -, -⟩ := cellsE2 (unhide HW2).b1
    cases hev : evA ns vs a.b with
    | none =>
      have HWN : Hid (wayM ad nx C a ns vs (m + 1) v fr = (C (ns ++ [a.b]) (vs ++ [t]) (fr.set k false) || (!eqW a.k toW && wayM ad nx C a ns vs m t (fr.set k false)))) := hide (by rw [unhide HWM, hev])
      clear hev
      have hl4 := (unhide HB).l4
      have hl1 := (unhide HB).l1
      simp only [List.length_cons] at hl4 hl1
      go_wp2_with fail
      refine (with_any a.b t ((unhide HI).ns.below (unhide HW2).bl) ((unhide HI).vs.below (unhide HW2).bl) (by omega) (by omega)).mono ?_
      rintro e w3 ⟨nv', vv', rfl, ho1, ho2, hb3⟩
      obtain ⟨an, cn, rfl⟩ := slice_of_own ho1
      obtain ⟨av2, cv2, rfl⟩ := slice_of_own ho2
      have HO1 := hide ho1
      have HO2 := hide ho2
      have hb3a : Below w2.heap.size w2 (w3.alloc (.cells #[.slice an (ns.length + 1) cn, .slice av2 (vs.length + 1) cv2] 44)) := hb3.alloc hb3.size _
      have HB3 := hide hb3a
      have HW3 := hide ((unhide HW2).below hb3a)
      have HB13 := hide ((unhide HB2).trans (hb3a.mono (unhide HB2).size))
      clear ho1 ho2 hb3 hb3a a0 a1 a2 e0 e1 hl1
      go_wp2_with fail
      refine (cel_call (unhide HCC) ((unhide HI).left (unhide HW3).bl (unhide HL1) (unhide HB13)) ((unhide HO1).alloc _) ((unhide HO2).alloc _) ((unhide HB).set k) (unhide HTB)).mono ?_
      rintro e w4 ⟨rfl, hb4⟩
      have HW4 := hide ((unhide HW3).below hb4)
      have HB14 := hide ((unhide HB13).trans (hb4.mono (unhide HB13).size))
      clear hb4
      obtain ⟨a0, a1, a2⟩ := cells3H (unhide HW4).b0
      obtain ⟨e0, e1, -, -⟩ := cellsE2 (unhide HW4).b1
      cases hr : C (ns ++ [a.b]) (vs ++ [t]) (fr.set k false) with
      | true =>
        have HR : Hid (wayM ad nx C a ns vs (m + 1) v fr = true) := hide (by rw [unhide HWN, hr]; rfl)
        clear hr
        go_wp2_with fail
        go_ret
        exact ⟨ret_bool (unhide HR).symm, (unhide HW4).bl⟩
      | false =>
        cases hkd : (a.k.toList == [45, 62]) with
        | true =>
          have HR : Hid (wayM ad nx C a ns vs (m + 1) v fr = false) := hide (by rw [unhide HWN, hr, show eqW a.k toW = true by unfold eqW; rw [toW_lH]; exact hkd]; rfl)
          clear hr
          go_wp2_with fail
          go_ret
          exact ⟨ret_bool (unhide HR).symm, (unhide HW4).bl⟩
        | false =>
          have HR : Hid (wayM ad nx C a ns vs (m + 1) v fr = wayM ad nx C a ns vs m t (fr.set k false)) := hide (by rw [unhide HWN, hr, show eqW a.k toW = false by unfold eqW; rw [toW_lH]; exact hkd]; rfl)
          clear hr
          go_wp2_with fail
          refine (unhide HIH w4 _ _ _ _ _ ns vs (fr.set k false) a t ((unhide HI).left (unhide HW4).bl (unhide HL1) (unhide HB14)) ((unhide HB).set k) (unhide HCT)).mono ?_
          rintro e w9 ⟨rfl, hb9⟩
          have HB9 := hide ((unhide HW4).bl.trans (hb9.mono (unhide HW4).bl.size))
          clear hb9
          go_wp2_with fail
          go_ret
          exact ⟨ret_bool (unhide HR).symm, unhide HB9⟩
    | some ev =>
      cases het : (ev == t) with
      | true =>
        have HWN : Hid (wayM ad nx C a ns vs (m + 1) v fr = (C ns vs (fr.set k false) || (!eqW a.k toW && wayM ad nx C a ns vs m t (fr.set k false)))) := hide (by rw [unhide HWM, hev]; dsimp only; rw [het]; rfl)
        clear hev
        go_wp2_with fail
        refine (unhide HCC w2 _ _ _ _ _ ns vs (fr.set k false) ((unhide HI).left (unhide HW2).bl (unhide HL1) (unhide HB2)) ((unhide HB).tail.set k)).mono ?_
        rintro e w4 ⟨rfl, hb4⟩
        have HW4 := hide ((unhide HW2).below hb4)
        have HB14 := hide ((unhide HB2).trans (hb4.mono (unhide HB2).size))
        clear hb4 a0 a1 a2 e0 e1
        obtain ⟨a0, a1, a2⟩ := cells3H (unhide HW4).b0
        obtain ⟨e0, e1, -, -⟩ := cellsE2 (unhide HW4).b1
        cases hr : C ns vs (fr.set k false) with
        | true =>
          have HR : Hid (wayM ad nx C a ns vs (m + 1) v fr = true) := hide (by rw [unhide HWN, hr]; rfl)
          clear hr
          go_wp2_with fail
          go_ret
          exact ⟨ret_bool (unhide HR).symm, (unhide HW4).bl⟩
        | false =>
          cases hkd : (a.k.toList == [45, 62]) with
          | true =>
            have HR : Hid (wayM ad nx C a ns vs (m + 1) v fr = false) := hide (by rw [unhide HWN, hr, show eqW a.k toW = true by unfold eqW; rw [toW_lH]; exact hkd]; rfl)
            clear hr
            go_wp2_with fail
            go_ret
            exact ⟨ret_bool (unhide HR).symm, (unhide HW4).bl⟩
          | false =>
            have HR : Hid (wayM ad nx C a ns vs (m + 1) v fr = wayM ad nx C a ns vs m t (fr.set k false)) := hide (by rw [unhide HWN, hr, show eqW a.k toW = false by unfold eqW; rw [toW_lH]; exact hkd]; rfl)
            clear hr
            go_wp2_with fail
            refine (unhide HIH w4 _ _ _ _ _ ns vs (fr.set k false) a t ((unhide HI).left (unhide HW4).bl (unhide HL1) (unhide HB14)) ((unhide HB).set k) (unhide HCT)).mono ?_
            rintro e w9 ⟨rfl, hb9⟩
            have HB9 := hide ((unhide HW4).bl.trans (hb9.mono (unhide HW4).bl.size))
            clear hb9
            go_wp2_with fail
            go_ret
            exact ⟨ret_bool (unhide HR).symm, unhide HB9⟩
      | false =>
        have HWN : Hid (wayM ad nx C a ns vs (m + 1) v fr = (!eqW a.k toW && wayM ad nx C a ns vs m t (fr.set k false))) := hide (by rw [unhide HWM, hev]; dsimp only; rw [het]; rfl)
        clear hev
        cases hkd : (a.k.toList == [45, 62]) with
        | true =>
          have HR : Hid (wayM ad nx C a ns vs (m + 1) v fr = false) := hide (by rw [unhide HWN, show eqW a.k toW = true by unfold eqW; rw [toW_lH]; exact hkd]; rfl)
          skip
          go_wp2_with fail
          go_ret
          exact ⟨ret_bool (unhide HR).symm, (unhide HW2).bl⟩
        | false =>
          have HR : Hid (wayM ad nx C a ns vs (m + 1) v fr = wayM ad nx C a ns vs m t (fr.set k false)) := hide (by rw [unhide HWN, show eqW a.k toW = false by unfold eqW; rw [toW_lH]; exact hkd]; rfl)
          skip
          go_wp2_with fail
          refine (unhide HIH w2 _ _ _ _ _ ns vs (fr.set k false) a t ((unhide HI).left (unhide HW2).bl (unhide HL1) (unhide HB2)) ((unhide HB).set k) (unhide HCT)).mono ?_
          rintro e w9 ⟨rfl, hb9⟩
          have HB9 := hide ((unhide HW2).bl.trans (hb9.mono (unhide HW2).bl.size))
          clear hb9
          go_wp2_with fail
          go_ret
          exact ⟨ret_bool (unhide HR).symm, unhide HB9⟩
  · have HCI : Hid (hClI ad fr v = -1) := hide (by unfold hClI; rw [if_neg hk])
    have HWM : Hid (wayM ad nx C a ns vs (m + 1) v fr = false) := hide (by rw [wayM, if_neg hk])
    clear hk
    go_enter Try.func25, Try.ntmps25
    go_wp2_with fail
    refine (hcell_any (fr := fr) v ((unhide HI).hp.below (below_box2 _ _ _)) ((unhide HI).fr.below (below_box2 _ _ _)) (unhide HB).l2).mono ?_
    rintro e w0 ⟨rfl, rfl⟩
    rw [unhide HCI]
    go_wp2_with fail
    go_ret
    exact ⟨ret_bool (unhide HWM).symm, below_box2 _ _ _⟩
theorem way_all {X : Nat} {ad nx : List Int} {pu pl : List RAt} {C : List ByteArray → List Int → List Bool → Bool} (HC : CelOK X ad nx pu pl C) (m : Nat) : WayOK X ad nx pu pl C m := by
  induction m with
  | zero => intro w rv pv nv vv fv ns vs fr a v _ _ h; omega
  | succ m ih => exact way_step HC ih
end Go.Proofs.Ytciihepbeacppaa
