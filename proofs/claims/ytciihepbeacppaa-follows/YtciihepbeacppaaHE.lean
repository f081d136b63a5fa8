import Derived.Test.YtciihepbeacppaaHD
import Derived.BigRegion
namespace Go.Proofs.Ytciihepbeacppaa
open Go.RowKit

theorem em_lH : em.toList = [] := ByteArray.toList_eq _
theorem box_size (w : World) (o : Obj) : (w.alloc o).heap.size = w.heap.size + 1 := by simp
theorem box_after {w w1 : World} {a b : Value} {T : TypeId} (hb : Below (w.alloc (.cells #[a, b] T)).heap.size (w.alloc (.cells #[a, b] T)) w1) : w1.heap[w.heap.size]? = some (.cells #[a, b] T (0, 0)) := by
  rw [hb.block _ (by simp)]; exact heap_alloc_new w _
/-- what others is to keep -/
def OthOK (l : List RAt) (X : Nat) (f : Nat) : Prop :=
  ∀ (w : World) (pv nv vv : Value) (ns : List ByteArray) (vs : List Int), Lst w pv 3 l.length (raCells l) → Lst w nv 1 ns.length (ns.map Value.string) → Lst w vv 1 vs.length (ints vs) → ns.length = vs.length → ns.length + f < 18000 →
    (∀ v ∈ vs, v + (f : Int) ≤ 1000000000000 ∧ -1000000000000 ≤ v) → unv ns vs l ≤ f →
    Calls Try.prog 23 #[.pointer (some ⟨X, 0, none⟩), pv, .agg #[nv, vv]] w fun e w' => e = .returned (.bool (oth l (f + 1) ns vs)) ∧ Below w.heap.size w w'

theorem rec_call {l : List RAt} {X f' : Nat} (HI : OthOK l X f') {w W : World} {B B' : Nat} {pv : Value} {an av : Option Addr} {cn cv : Nat} {ns : List ByteArray} {vs : List Int} {nm : ByteArray} {x : Int} (hP : Lst w pv 3 l.length (raCells l)) (hb : Below w.heap.size w W)
    (ho1 : W.ownsRow B 9 1 (.slice an (ns ++ [nm]).length cn) (ns ++ [nm]).length ((ns ++ [nm]).map Value.string)) (ho2 : W.ownsRow B' 3 1 (.slice av (vs ++ [x]).length cv) (vs ++ [x]).length (ints (vs ++ [x]))) (hl : ns.length = vs.length) (hN : ns.length + (f' + 1) < 18000)
    (hV : ∀ v ∈ vs, v + ((f' + 1 : Nat) : Int) ≤ 1000000000000 ∧ -1000000000000 ≤ v) (hx : x + (f' : Int) ≤ 1000000000000 ∧ -1000000000000 ≤ x) (hU : unv (ns ++ [nm]) (vs ++ [x]) l ≤ f') :
    Calls Try.prog 23 #[.pointer (some ⟨X, 0, none⟩), pv, .agg #[.slice an (ns.length + 1) cn, .slice av (vs.length + 1) cv]] W fun e w' => e = .returned (.bool (oth l (f' + 1) (ns ++ [nm]) (vs ++ [x]))) ∧ Below W.heap.size W w' := by
  have e1 : (ns ++ [nm]).length = ns.length + 1 := by simp
  have e2 : (vs ++ [x]).length = vs.length + 1 := by simp
  have h1 := Lst.of_own ho1 (by omega)
  have h2 := Lst.of_own ho2 (by omega)
  have := HI W pv _ _ (ns ++ [nm]) (vs ++ [x]) (hP.below hb) h1 h2 (by omega) (by omega) (fun v hv => by
    simp only [List.mem_append, List.mem_singleton] at hv
    rcases hv with hv | rfl
    · have := hV v hv; omega
    · exact hx) hU
  rwa [e1, e2] at this

set_option maxRecDepth 100000 in
set_option maxHeartbeats 80000000 in
theorem oth_step {l : List RAt} {X f : Nat} (IH : ∀ f', f = f' + 1 → OthOK l X f') : OthOK l X f := by
  intro w pv nv vv ns vs hP h1 h2 hl hN hV hU
  have hle := hP.2.1
  have H1 := hide h1
  have H2 := hide h2
  have HP := hide hP
  obtain ⟨na, nc, rfl⟩ := h1.slice
  obtain ⟨va, vc, rfl⟩ := h2.slice
  obtain ⟨pa, pc, rfl⟩ := hP.slice
  have HL := hide hl
  have HIH := hide IH
  have HVB := hide hV
  have HU := hide hU
  clear h1 h2 hP hl IH hV hU
  go_enter Try.func23, Try.ntmps23
  go_wp2_with fail
  go_loopw [7, 8] (fun nm i wr => ∃ k : Nat, k ≤ l.length ∧ i = .int .i64 k ∧ nm = .string (oN ns vs (l.take k)) ∧ Hid ((l.take k).any (oBad ns vs) = false) ∧ Hid (Below w.heap.size w wr) ∧ Hid (wr.heap[w.heap.size]? = some (.cells #[.slice na ns.length nc, .slice va vs.length vc] 44 (0, 0)))) (fun _ i _ => l.length - (intOf i).toNat)
  case atStart => exact ⟨0, Nat.zero_le _, rfl, rfl, hide rfl, hide (below_box _ _), hide (heap_alloc_new w _)⟩
  case round =>
    obtain ⟨k, hk, rfl, rfl, hbad, hbl, hbx⟩ := hrel
    by_cases hlt : k < l.length
    · obtain ⟨g, off, cap, hv, hnc, hmc, hc⟩ := (unhide HP).2.2.resolve_left (fun h => by omega)
      simp only [Value.slice.injEq, true_and] at hv
      obtain ⟨rfl, rfl⟩ := hv
      obtain ⟨q0, q1, q2⟩ := ra_get hlt
      have cA : wr.cell? ⟨g, off + k * 3 + 1, none⟩ = some (.string l[k].a) := by rw [Nat.add_assoc]; rw [(unhide hbl).cell (World.block_lt_of_cell? w _ (hc _ _ q1))]; exact hc _ _ q1
      have cB : wr.cell? ⟨g, off + k * 3 + 2, none⟩ = some (.string l[k].b) := by rw [Nat.add_assoc]; rw [(unhide hbl).cell (World.block_lt_of_cell? w _ (hc _ _ q2))]; exact hc _ _ q2
      have cK : wr.cell? ⟨g, off + k * 3, none⟩ = some (.string l[k].k) := by rw [(unhide hbl).cell (World.block_lt_of_cell? w _ (hc _ _ q0))]; exact hc _ _ q0
      obtain ⟨b0, b1, -, -⟩ := cellsE2 (unhide hbx)
      clear hc q0 q1 q2
      have HV : Hid (∀ (m : ByteArray) (w' : World), Below wr.heap.size wr w' → Calls Try.prog 24 #[.agg #[.slice na ns.length nc, .slice va vs.length vc], .string m] w' fun e w'' => e = .returned (.tuple #[.int .i64 ((evA ns vs m).getD 0), .bool (evA ns vs m).isSome]) ∧ Below w'.heap.size w' w'') :=
        hide (fun m w' hb => hvalue_any m ((unhide H1).below ((unhide hbl).trans (hb.mono (unhide hbl).size))) ((unhide H2).below ((unhide hbl).trans (hb.mono (unhide hbl).size))) (unhide HL))
      have HBF : Hid (∀ w2, Below wr.heap.size wr w2 → Below w.heap.size w w2 ∧ w2.heap[w.heap.size]? = some (.cells #[.slice na ns.length nc, .slice va vs.length vc] 44 (0, 0))) := hide (fun w2 hb => ⟨(unhide hbl).trans (hb.mono (unhide hbl).size), by rw [hb.block _ (Array.getElem?_eq_some_iff.1 (unhide hbx)).1]; exact unhide hbx⟩)
      go_wp2_with fail
      go_region_with (go_at_call 24; refine (unhide HV l[k].a wr.drew (Below.refl _ _).drew).mono ?_; rintro e w1 ⟨rfl, hb1⟩; have dA := (hb1.cell (World.block_lt_of_cell? wr _ cA)).trans cA; have dB := (hb1.cell (World.block_lt_of_cell? wr _ cB)).trans cB; have dK := (hb1.cell (World.block_lt_of_cell? wr _ cK)).trans cK; have d0 := (hb1.cell (World.block_lt_of_cell? wr _ b0)).trans b0; have d1 := (hb1.cell (World.block_lt_of_cell? wr _ b1)).trans b1; have HB1 : Hid (Below wr.heap.size wr w1) := hide ⟨hb1.os, hb1.tape, hb1.output, hb1.size, hb1.block⟩; clear hb1)
      all_goals go_wp2_with fail
      all_goals go_region_with (go_at_call 24; refine (unhide HV l[k].b w1.drew (unhide HB1).drew).mono ?_; rintro e w2 ⟨rfl, hb2⟩; have eA := (hb2.cell (World.block_lt_of_cell? w1 _ dA)).trans dA; have eB := (hb2.cell (World.block_lt_of_cell? w1 _ dB)).trans dB; have eK := (hb2.cell (World.block_lt_of_cell? w1 _ dK)).trans dK; have HB2 : Hid (Below wr.heap.size wr w2) := hide ((unhide HB1).trans ((⟨hb2.os, hb2.tape, hb2.output, hb2.size, hb2.block⟩ : Below w1.heap.size w1 w2).mono (unhide HB1).size)); clear hb2)
      all_goals
        cases hA : evA ns vs l[k].a with
        | none =>
          cases hB : evA ns vs l[k].b with
          | none =>
            have HS : Hid (oN ns vs (l.take (k + 1)) = l[k].b) := hide (by rw [oN_step hlt]; unfold oNm; rw [hA, hB]; rfl)
            have HBD : Hid ((l.take (k + 1)).any (oBad ns vs) = false) := hide (bad_step hlt (unhide hbad) (by unfold oBad; rw [hA, hB]))
            clear hA hB dA dB dK d0 d1 cA cB cK b0 b1
            go_wp2_with fail
            go_roundw
            case rel => exact ⟨k + 1, by omega, by go_num, by rw [unhide HS], HBD, hide (unhide HBF _ (unhide HB2)).1, hide (unhide HBF _ (unhide HB2)).2⟩
            case measure => simp [intOf]; omega
          | some y =>
            have HS : Hid (oN ns vs (l.take (k + 1)) = l[k].a) := hide (by rw [oN_step hlt]; unfold oNm; rw [hA, hB]; rfl)
            have HBD : Hid ((l.take (k + 1)).any (oBad ns vs) = false) := hide (bad_step hlt (unhide hbad) (by unfold oBad; rw [hA, hB]))
            clear hA hB dA dB dK d0 d1 cA cB cK b0 b1
            go_wp2_with fail
            go_roundw
            case rel => exact ⟨k + 1, by omega, by go_num, by rw [unhide HS], HBD, hide (unhide HBF _ (unhide HB2)).1, hide (unhide HBF _ (unhide HB2)).2⟩
            case measure => simp [intOf]; omega
        | some x =>
          cases hB : evA ns vs l[k].b with
          | none =>
            have HS : Hid (oN ns vs (l.take (k + 1)) = l[k].b) := hide (by rw [oN_step hlt]; unfold oNm; rw [hA, hB]; rfl)
            have HBD : Hid ((l.take (k + 1)).any (oBad ns vs) = false) := hide (bad_step hlt (unhide hbad) (by unfold oBad; rw [hA, hB]))
            clear hA hB dA dB dK d0 d1 cA cB cK b0 b1
            go_wp2_with fail
            go_roundw
            case rel => exact ⟨k + 1, by omega, by go_num, by rw [unhide HS], HBD, hide (unhide HBF _ (unhide HB2)).1, hide (unhide HBF _ (unhide HB2)).2⟩
            case measure => simp [intOf]; omega
          | some y =>
            cases hxy : (x == y) with
            | true =>
              cases hkd : (l[k].k.toList == [61]) with
              | true =>
                have HK : eqW l[k].k eqSW = true := by unfold eqW; rw [eqSW_l]; exact hkd
                have HS : Hid (oN ns vs (l.take (k + 1)) = oN ns vs (l.take k)) := hide (by rw [oN_step hlt]; unfold oNm; rw [hA, hB]; rfl)
                have HBD : Hid ((l.take (k + 1)).any (oBad ns vs) = false) := hide (bad_step hlt (unhide hbad) (by unfold oBad; rw [hA, hB]; show ((x == y) != eqW l[k].k eqSW) = false; rw [hxy, HK]; rfl))
                clear hA hB dA dB dK d0 d1 cA cB cK b0 b1 HK
                go_wp2_with fail
                go_roundw
                case rel => exact ⟨k + 1, by omega, by go_num, by rw [unhide HS], HBD, hide (unhide HBF _ (unhide HB2)).1, hide (unhide HBF _ (unhide HB2)).2⟩
                case measure => simp [intOf]; omega
              | false =>
                have HK : eqW l[k].k eqSW = false := by unfold eqW; rw [eqSW_l]; exact hkd
                have HR : Hid (oth l (f + 1) ns vs = false) := hide (bad_here hlt (by unfold oBad; rw [hA, hB]; show ((x == y) != eqW l[k].k eqSW) = true; rw [hxy, HK]; rfl))
                clear hA hB dA dB dK d0 d1 cA cB cK b0 b1 HK
                go_wp2_with fail
                go_ret
                exact ⟨ret_bool (unhide HR).symm, (unhide HBF _ (unhide HB2)).1⟩
            | false =>
              cases hkd : (l[k].k.toList == [61]) with
              | true =>
                have HK : eqW l[k].k eqSW = true := by unfold eqW; rw [eqSW_l]; exact hkd
                have HR : Hid (oth l (f + 1) ns vs = false) := hide (bad_here hlt (by unfold oBad; rw [hA, hB]; show ((x == y) != eqW l[k].k eqSW) = true; rw [hxy, HK]; rfl))
                clear hA hB dA dB dK d0 d1 cA cB cK b0 b1 HK
                go_wp2_with fail
                go_ret
                exact ⟨ret_bool (unhide HR).symm, (unhide HBF _ (unhide HB2)).1⟩
              | false =>
                have HK : eqW l[k].k eqSW = false := by unfold eqW; rw [eqSW_l]; exact hkd
                have HS : Hid (oN ns vs (l.take (k + 1)) = oN ns vs (l.take k)) := hide (by rw [oN_step hlt]; unfold oNm; rw [hA, hB]; rfl)
                have HBD : Hid ((l.take (k + 1)).any (oBad ns vs) = false) := hide (bad_step hlt (unhide hbad) (by unfold oBad; rw [hA, hB]; show ((x == y) != eqW l[k].k eqSW) = false; rw [hxy, HK]; rfl))
                clear hA hB dA dB dK d0 d1 cA cB cK b0 b1 HK
                go_wp2_with fail
                go_roundw
                case rel => exact ⟨k + 1, by omega, by go_num, by rw [unhide HS], HBD, hide (unhide HBF _ (unhide HB2)).1, hide (unhide HBF _ (unhide HB2)).2⟩
                case measure => simp [intOf]; omega
    · obtain rfl : k = l.length := by omega
      rw [List.take_length]
      obtain ⟨nm, hnm⟩ : ∃ nm, nm = oN ns vs l := ⟨_, rfl⟩
      rw [← hnm]
      have HNM := hide hnm
      have hbd : l.any (oBad ns vs) = false := by have := unhide hbad; rwa [List.take_length] at this
      have hd : decide ((l.length : Int) < (l.length : Int)) = false := by simp
      have HBD := hide hbd
      obtain ⟨b0, b1, -, -⟩ := cellsE2 (unhide hbx)
      clear hnm hbad hbd hlt hk
      cases hem : (nm.toList == []) with
      | true =>
        have HR : Hid (oth l (f + 1) ns vs = true) := hide (by rw [oth, unhide HBD, ← unhide HNM, if_neg (by simp), if_pos (show eqW nm em = true by unfold eqW; rw [em_lH]; exact hem)])
        go_wp2_with fail
        go_ret
        exact ⟨ret_bool (unhide HR).symm, unhide hbl⟩
      | false =>
        have hne : eqW nm em = false := by unfold eqW; rw [em_lH]; exact hem
        have hdec := fun v => unv_dec (unhide HL) (l := l) (by rw [← unhide HNM]; exact hne) v
        rw [← unhide HNM] at hdec
        obtain ⟨f', rfl⟩ : ∃ f', f = f' + 1 := ⟨f - 1, by have := hdec 0; have := unhide HU; omega⟩
        have HD := hide hdec
        have HI := hide (unhide HIH f' rfl)
        have HR : Hid (oth l (f' + 1 + 1) ns vs = (vs.any (fun v => oth l (f' + 1) (ns ++ [nm]) (vs ++ [v])) || oth l (f' + 1) (ns ++ [nm]) (vs ++ [0]) || oth l (f' + 1) (ns ++ [nm]) (vs ++ [mst vs + 1]))) := hide (by
          rw [oth, unhide HBD, ← unhide HNM, hne]; simp)
        clear hdec hne HIH
        have hlv : vs.length < 18000 := by have := unhide HL; omega
        go_wp2_with fail
        go_loopw [13, 14] (fun m i wr => ∃ k : Nat, k ≤ vs.length ∧ i = .int .i64 k ∧ m = .int .i64 (mst (vs.take k)) ∧ Hid (∀ j, (h : j < vs.length) → j < k → oth l (f' + 1) (ns ++ [nm]) (vs ++ [vs[j]]) = false) ∧ Hid (Below w.heap.size w wr) ∧ Hid (wr.heap[w.heap.size]? = some (.cells #[.slice na ns.length nc, .slice va vs.length vc] 44 (0, 0)))) (fun _ i _ => vs.length - (intOf i).toNat)
        case atStart => exact ⟨0, Nat.zero_le _, rfl, rfl, hide (fun _ _ h => absurd h (by omega)), hbl, hbx⟩
        case round =>
          rename_i wr0 _
          clear hbl hbx b0 b1
          obtain ⟨k, hk, rfl, rfl, hall, hbl, hbx⟩ := hrel
          obtain ⟨b0, b1, -, -⟩ := cellsE2 (unhide hbx)
          by_cases hlt : k < vs.length
          · obtain ⟨g, off, cap, hv, hnc, hmc, hc⟩ := (unhide H2).2.2.resolve_left (fun h => by omega)
            simp only [Value.slice.injEq, true_and] at hv
            obtain ⟨rfl, rfl⟩ := hv
            obtain ⟨x, hx⟩ : ∃ x, x = vs[k] := ⟨_, rfl⟩
            have q0 := hc k (.int .i64 x) (by rw [hx]; simp [ints, hlt])
            have cV : wr.cell? ⟨g, off + k, none⟩ = some (.int .i64 x) := by rw [(unhide hbl).cell (World.block_lt_of_cell? w _ q0)]; exact q0
            have HX := hide hx
            obtain ⟨m0, hm0⟩ : ∃ m0, m0 = mst (vs.take k) := ⟨_, rfl⟩
            rw [← hm0]
            have HM0 := hide hm0
            have HM1 : Hid (mst (vs.take (k + 1)) = if m0 < x then x else m0) := hide (by rw [mst_step hlt, ← hx, ← hm0])
            have HWC : Hid (∀ w', Below wr.heap.size wr w' → Calls Try.prog 26 #[.agg #[.slice na ns.length nc, .slice (some ⟨g, off, none⟩) vs.length vc], .string nm, .int .i64 x] w' fun e w'' => ∃ nv' vv', e = .returned (.agg #[nv', vv']) ∧ w''.ownsRow w'.heap.size 9 1 nv' (ns ++ [nm]).length ((ns ++ [nm]).map Value.string) ∧ w''.ownsRow w'.heap.size 3 1 vv' (vs ++ [x]).length (ints (vs ++ [x])) ∧ Below w'.heap.size w' w'') :=
              hide (fun w' hb => with_any nm x ((unhide H1).below ((unhide hbl).trans (hb.mono (unhide hbl).size))) ((unhide H2).below ((unhide hbl).trans (hb.mono (unhide hbl).size))) (by omega) (by omega))
            have cVa := ((below_box wr (.cells #[.slice none 0 0, .slice none 0 0] 44)).cell (World.block_lt_of_cell? wr _ cV)).trans cV
            have b0a := ((below_box wr (.cells #[.slice none 0 0, .slice none 0 0] 44)).cell (World.block_lt_of_cell? wr _ b0)).trans b0
            have b1a := ((below_box wr (.cells #[.slice none 0 0, .slice none 0 0] 44)).cell (World.block_lt_of_cell? wr _ b1)).trans b1
            have HXM : Hid (x ∈ vs) := hide (by rw [hx]; exact List.getElem_mem hlt)
            have HXB : Hid (x + (f' : Int) ≤ 1000000000000 ∧ -1000000000000 ≤ x) := hide (by have := unhide HVB x (unhide HXM); omega)
            have HUX : Hid (unv (ns ++ [nm]) (vs ++ [x]) l ≤ f') := hide (by have := unhide HD x; have := unhide HU; omega)
            have HBF : Hid (∀ w2, Below wr.heap.size wr w2 → Below w.heap.size w w2 ∧ w2.heap[w.heap.size]? = some (.cells #[.slice na ns.length nc, .slice (some ⟨g, off, none⟩) vs.length vc] 44 (0, 0))) := hide (fun w2 hb => ⟨(unhide hbl).trans (hb.mono (unhide hbl).size), by rw [hb.block _ (Array.getElem?_eq_some_iff.1 (unhide hbx)).1]; exact unhide hbx⟩)
            clear hc q0 hx hm0
            by_cases hgt : m0 < x
            · go_wp2_with fail
              go_region_with (go_at_call 26; first
                | (refine (unhide HWC wr.drew (Below.refl _ _).drew).mono ?_; rintro e w1 ⟨nv', vv', rfl, ho1, ho2, hb1⟩; obtain ⟨an, cn, rfl⟩ := slice_of_own ho1; obtain ⟨av, cv, rfl⟩ := slice_of_own ho2; have HO1 := hide ho1; have HO2 := hide ho2; have HB1 : Hid (Below wr.heap.size wr w1) := hide ⟨hb1.os, hb1.tape, hb1.output, hb1.size, hb1.block⟩; clear ho1 ho2 hb1)
                | (refine (unhide HWC (wr.alloc (.cells #[.slice none 0 0, .slice none 0 0] 44)).drew (below_box _ _).drew).mono ?_; rintro e w1 ⟨nv', vv', rfl, ho1, ho2, hb0⟩; have hb1 : Below (wr.alloc (.cells #[.slice none 0 0, .slice none 0 0] 44)).heap.size (wr.alloc (.cells #[.slice none 0 0, .slice none 0 0] 44)) w1 := ⟨hb0.os, hb0.tape, hb0.output, hb0.size, hb0.block⟩; clear hb0; obtain ⟨z0, z1, y0, y1⟩ := cellsE2 (box_after hb1); obtain ⟨an, cn, rfl⟩ := slice_of_own ho1; obtain ⟨av, cv, rfl⟩ := slice_of_own ho2; have HO1 := hide ho1; have HO2 := hide ho2; have HB1 := hide hb1; clear ho1 ho2 hb1))
              all_goals go_wp2_with fail
              all_goals first
                | (have hbW : Below wr.heap.size wr (w1.alloc (.cells #[.slice an (ns.length + 1) cn, .slice av (vs.length + 1) cv] 44)) := (unhide HB1).alloc (unhide HB1).size _; have HBW := hide hbW; refine (rec_call (unhide HI) (unhide HP) ((unhide hbl).trans (hbW.mono (unhide hbl).size)) ((unhide HO1).alloc _) ((unhide HO2).alloc _) (unhide HL) hN (unhide HVB) (unhide HXB) (unhide HUX)).mono ?_; clear hbW; rintro e w2 ⟨rfl, hb2⟩; have HB2 : Hid (Below wr.heap.size wr w2) := hide ((unhide HBW).trans (hb2.mono (unhide HBW).size)); clear hb2)
                | (have hbW : Below wr.heap.size wr ((w1.setCell ⟨wr.heap.size, 0, none⟩ (.slice an (ns.length + 1) cn)).setCell ⟨wr.heap.size, 1, none⟩ (.slice av (vs.length + 1) cv)) := (((below_box wr _).trans ((unhide HB1).mono (by simp))).setCell (p := ⟨wr.heap.size, 0, none⟩) (Nat.le_refl _) _).setCell (p := ⟨wr.heap.size, 1, none⟩) (Nat.le_refl _) _; have HBW := hide hbW; refine (rec_call (unhide HI) (unhide HP) ((unhide hbl).trans (hbW.mono (unhide hbl).size)) (own_setH (own_setH (unhide HO1) (by simp) _) (by simp) _) (own_setH (own_setH (unhide HO2) (by simp) _) (by simp) _) (unhide HL) hN (unhide HVB) (unhide HXB) (unhide HUX)).mono ?_; clear hbW; rintro e w2 ⟨rfl, hb2⟩; have HB2 : Hid (Below wr.heap.size wr w2) := hide ((unhide HBW).trans (hb2.mono (unhide HBW).size)); clear hb2)
              all_goals
                cases hr : oth l (f' + 1) (ns ++ [nm]) (vs ++ [x]) with
                | true =>
                  have HRT : Hid (oth l (f' + 1 + 1) ns vs = true) := hide (by rw [unhide HR, List.any_eq_true.2 ⟨x, unhide HXM, hr⟩]; rfl)
                  clear hr
                  go_wp2_with fail
                  go_ret
                  exact ⟨ret_bool (unhide HRT).symm, (unhide HBF _ (unhide HB2)).1⟩
                | false =>
                  have HRF := hide hr
                  clear hr
                  go_wp2_with fail
                  go_roundw
                  case rel =>
                    refine ⟨k + 1, by omega, by go_num, by rw [unhide HM1, if_pos hgt], hide (fun j hj hjk => ?_), hide (unhide HBF _ (unhide HB2)).1, hide (unhide HBF _ (unhide HB2)).2⟩
                    by_cases e : j = k
                    · subst e; rw [← unhide HX]; exact unhide HRF
                    · exact unhide hall j hj (by omega)
                  case measure => simp [intOf]; omega
            · have hdm : decide (m0 < x) = false := by simp; omega
              go_wp2_with fail
              go_region_with (go_at_call 26; first
                | (refine (unhide HWC wr.drew (Below.refl _ _).drew).mono ?_; rintro e w1 ⟨nv', vv', rfl, ho1, ho2, hb1⟩; obtain ⟨an, cn, rfl⟩ := slice_of_own ho1; obtain ⟨av, cv, rfl⟩ := slice_of_own ho2; have HO1 := hide ho1; have HO2 := hide ho2; have HB1 : Hid (Below wr.heap.size wr w1) := hide ⟨hb1.os, hb1.tape, hb1.output, hb1.size, hb1.block⟩; clear ho1 ho2 hb1)
                | (refine (unhide HWC (wr.alloc (.cells #[.slice none 0 0, .slice none 0 0] 44)).drew (below_box _ _).drew).mono ?_; rintro e w1 ⟨nv', vv', rfl, ho1, ho2, hb0⟩; have hb1 : Below (wr.alloc (.cells #[.slice none 0 0, .slice none 0 0] 44)).heap.size (wr.alloc (.cells #[.slice none 0 0, .slice none 0 0] 44)) w1 := ⟨hb0.os, hb0.tape, hb0.output, hb0.size, hb0.block⟩; clear hb0; obtain ⟨z0, z1, y0, y1⟩ := cellsE2 (box_after hb1); obtain ⟨an, cn, rfl⟩ := slice_of_own ho1; obtain ⟨av, cv, rfl⟩ := slice_of_own ho2; have HO1 := hide ho1; have HO2 := hide ho2; have HB1 := hide hb1; clear ho1 ho2 hb1))
              all_goals go_wp2_with fail
              all_goals first
                | (have hbW : Below wr.heap.size wr (w1.alloc (.cells #[.slice an (ns.length + 1) cn, .slice av (vs.length + 1) cv] 44)) := (unhide HB1).alloc (unhide HB1).size _; have HBW := hide hbW; refine (rec_call (unhide HI) (unhide HP) ((unhide hbl).trans (hbW.mono (unhide hbl).size)) ((unhide HO1).alloc _) ((unhide HO2).alloc _) (unhide HL) hN (unhide HVB) (unhide HXB) (unhide HUX)).mono ?_; clear hbW; rintro e w2 ⟨rfl, hb2⟩; have HB2 : Hid (Below wr.heap.size wr w2) := hide ((unhide HBW).trans (hb2.mono (unhide HBW).size)); clear hb2)
                | (have hbW : Below wr.heap.size wr ((w1.setCell ⟨wr.heap.size, 0, none⟩ (.slice an (ns.length + 1) cn)).setCell ⟨wr.heap.size, 1, none⟩ (.slice av (vs.length + 1) cv)) := (((below_box wr _).trans ((unhide HB1).mono (by simp))).setCell (p := ⟨wr.heap.size, 0, none⟩) (Nat.le_refl _) _).setCell (p := ⟨wr.heap.size, 1, none⟩) (Nat.le_refl _) _; have HBW := hide hbW; refine (rec_call (unhide HI) (unhide HP) ((unhide hbl).trans (hbW.mono (unhide hbl).size)) (own_setH (own_setH (unhide HO1) (by simp) _) (by simp) _) (own_setH (own_setH (unhide HO2) (by simp) _) (by simp) _) (unhide HL) hN (unhide HVB) (unhide HXB) (unhide HUX)).mono ?_; clear hbW; rintro e w2 ⟨rfl, hb2⟩; have HB2 : Hid (Below wr.heap.size wr w2) := hide ((unhide HBW).trans (hb2.mono (unhide HBW).size)); clear hb2)
              all_goals
                cases hr : oth l (f' + 1) (ns ++ [nm]) (vs ++ [x]) with
                | true =>
                  have HRT : Hid (oth l (f' + 1 + 1) ns vs = true) := hide (by rw [unhide HR, List.any_eq_true.2 ⟨x, unhide HXM, hr⟩]; rfl)
                  clear hr
                  go_wp2_with fail
                  go_ret
                  exact ⟨ret_bool (unhide HRT).symm, (unhide HBF _ (unhide HB2)).1⟩
                | false =>
                  have HRF := hide hr
                  clear hr
                  go_wp2_with fail
                  go_roundw
                  case rel =>
                    refine ⟨k + 1, by omega, by go_num, by rw [unhide HM1, if_neg (by omega)], hide (fun j hj hjk => ?_), hide (unhide HBF _ (unhide HB2)).1, hide (unhide HBF _ (unhide HB2)).2⟩
                    by_cases e : j = k
                    · subst e; rw [← unhide HX]; exact unhide HRF
                    · exact unhide hall j hj (by omega)
                  case measure => simp [intOf]; omega
          · obtain rfl : k = vs.length := by omega
            rw [List.take_length]
            obtain ⟨mx, hmx⟩ : ∃ mx, mx = mst vs := ⟨_, rfl⟩
            rw [← hmx]
            have hmb := mst_le (vs := vs) (b := 1000000000000) (by omega) (fun v hv => by have := unhide HVB v hv; omega)
            rw [← hmx] at hmb
            have hmb2 : mx + (f' : Int) + 1 ≤ 1000000000000 := by
              have h3 := mst_le (vs := vs) (b := 1000000000000 - (f' : Int) - 1) (by omega) (fun v hv => by have := unhide HVB v hv; omega)
              rw [← hmx] at h3; omega
            have HMX := hide hmx
            have HANY : Hid (vs.any (fun v => oth l (f' + 1) (ns ++ [nm]) (vs ++ [v])) = false) := hide (by
              rw [List.any_eq_false]
              intro v hv
              obtain ⟨j, hj, rfl⟩ := List.mem_iff_getElem.1 hv
              simp [unhide hall j hj hj])
            have HWC : Hid (∀ (x : Int) w', Below wr.heap.size wr w' → Calls Try.prog 26 #[.agg #[.slice na ns.length nc, .slice va vs.length vc], .string nm, .int .i64 x] w' fun e w'' => ∃ nv' vv', e = .returned (.agg #[nv', vv']) ∧ w''.ownsRow w'.heap.size 9 1 nv' (ns ++ [nm]).length ((ns ++ [nm]).map Value.string) ∧ w''.ownsRow w'.heap.size 3 1 vv' (vs ++ [x]).length (ints (vs ++ [x])) ∧ Below w'.heap.size w' w'') :=
              hide (fun x w' hb => with_any nm x ((unhide H1).below ((unhide hbl).trans (hb.mono (unhide hbl).size))) ((unhide H2).below ((unhide hbl).trans (hb.mono (unhide hbl).size))) (by omega) (by omega))
            have hd : decide ((vs.length : Int) < (vs.length : Int)) = false := by simp
            have HU0 : Hid (unv (ns ++ [nm]) (vs ++ [0]) l ≤ f') := hide (by have := unhide HD 0; have := unhide HU; omega)
            have HUM : Hid (unv (ns ++ [nm]) (vs ++ [mx + 1]) l ≤ f') := hide (by have := unhide HD (mx + 1); have := unhide HU; omega)
            clear hmx hlt hk hall
            go_wp2_with fail
            refine (unhide HWC 0 wr (Below.refl _ _)).mono ?_
            rintro e w1 ⟨nv', vv', rfl, ho1, ho2, hb1⟩
            obtain ⟨an, cn, rfl⟩ := slice_of_own ho1
            obtain ⟨av, cv, rfl⟩ := slice_of_own ho2
            have HO1 := hide ho1
            have HO2 := hide ho2
            have HB1 := hide hb1
            clear ho1 ho2 hb1
            go_wp2_with fail
            have hbW : Below wr.heap.size wr (w1.alloc (.cells #[.slice an (ns.length + 1) cn, .slice av (vs.length + 1) cv] 44)) := (unhide HB1).alloc (unhide HB1).size _
            have HBW := hide hbW
            refine (rec_call (unhide HI) (unhide HP) ((unhide hbl).trans (hbW.mono (unhide hbl).size)) ((unhide HO1).alloc _) ((unhide HO2).alloc _) (unhide HL) hN (unhide HVB) (by omega) (unhide HU0)).mono ?_
            clear hbW
            rintro e w2 ⟨rfl, hb2⟩
            have HB2 : Hid (Below wr.heap.size wr w2) := hide ((unhide HBW).trans (hb2.mono (unhide HBW).size))
            cases hr : oth l (f' + 1) (ns ++ [nm]) (vs ++ [0]) with
            | true =>
              have HRT : Hid (oth l (f' + 1 + 1) ns vs = true) := hide (by rw [unhide HR, unhide HANY, hr]; rfl)
              clear hr hb2
              go_wp2_with fail
              go_ret
              exact ⟨ret_bool (unhide HRT).symm, (unhide hbl).trans ((unhide HB2).mono (unhide hbl).size)⟩
            | false =>
              have HRT : Hid (oth l (f' + 1 + 1) ns vs = oth l (f' + 1) (ns ++ [nm]) (vs ++ [mx + 1])) := hide (by rw [unhide HR, unhide HANY, hr, ← unhide HMX]; rfl)
              have hbx2 : w2.heap[w1.heap.size]? = some (.cells #[.slice an (ns.length + 1) cn, .slice av (vs.length + 1) cv] 44 (0, 0)) := by
                rw [hb2.block _ (by simp)]; exact heap_alloc_new w1 _
              obtain ⟨z0, z1, y0, y1⟩ := cellsE2 hbx2
              have HBX2 := hide hbx2
              have e0 := ((unhide HB2).cell (World.block_lt_of_cell? wr _ b0)).trans b0
              have e1 := ((unhide HB2).cell (World.block_lt_of_cell? wr _ b1)).trans b1
              have hsz2 : w1.heap.size < w2.heap.size := (Array.getElem?_eq_some_iff.1 hbx2).1
              clear hr hb2 hbx2
              go_wp2_with fail
              refine (unhide HWC (mx + 1) w2 (unhide HB2)).mono ?_
              rintro e w3 ⟨nv', vv', rfl, ho3, ho4, hb3⟩
              obtain ⟨an3, cn3, rfl⟩ := slice_of_own ho3
              obtain ⟨av3, cv3, rfl⟩ := slice_of_own ho4
              have x0 := (hb3.cell (World.block_lt_of_cell? w2 _ z0)).trans z0
              have x1 := (hb3.cell (World.block_lt_of_cell? w2 _ z1)).trans z1
              have x2 := (hb3.frozen (p := ⟨w1.heap.size, 0, none⟩) hsz2).trans y0
              have x3 := (hb3.frozen (p := ⟨w1.heap.size, 1, none⟩) hsz2).trans y1
              have HO3 := hide ho3
              have HO4 := hide ho4
              have HB3 : Hid (Below wr.heap.size wr w3) := hide ((unhide HB2).trans (hb3.mono (unhide HB2).size))
              have hsw : wr.heap.size ≤ w1.heap.size := (unhide HB1).size
              clear ho3 ho4 hb3 z0 z1 y0 y1
              go_wp2_with fail
              have hbV : Below wr.heap.size wr ((w3.setCell ⟨w1.heap.size, 0, none⟩ (.slice an3 (ns.length + 1) cn3)).setCell ⟨w1.heap.size, 1, none⟩ (.slice av3 (vs.length + 1) cv3)) := ((unhide HB3).setCell (p := ⟨w1.heap.size, 0, none⟩) hsw _).setCell (p := ⟨w1.heap.size, 1, none⟩) hsw _
              have HBV := hide hbV
              refine (rec_call (unhide HI) (unhide HP) ((unhide hbl).trans (hbV.mono (unhide hbl).size)) (own_setH (own_setH (unhide HO3) hsz2 _) hsz2 _) (own_setH (own_setH (unhide HO4) hsz2 _) hsz2 _) (unhide HL) hN (unhide HVB) (by omega) (unhide HUM)).mono ?_
              clear hbV
              rintro e w4 ⟨rfl, hb4⟩
              have HB4 : Hid (Below wr.heap.size wr w4) := hide ((unhide HBV).trans (hb4.mono (unhide HBV).size))
              clear hb4
              go_wp2_with fail
              go_ret
              exact ⟨ret_bool (unhide HRT).symm, (unhide hbl).trans ((unhide HB4).mono (unhide hbl).size)⟩
/-- others, for every list of names -/
theorem oth_all (l : List RAt) (X f : Nat) : OthOK l X f := by
  induction f with
  | zero => exact oth_step (fun f' h => by omega)
  | succ f ih => exact oth_step (fun f' h => by obtain rfl : f' = f := by omega
                                                exact ih)
end Go.Proofs.Ytciihepbeacppaa
