import Derived.Test.YtciihepbeacppaaLE
import Derived.Test.YtciihepbeacppaaMM
import Derived.Test.YtciihepbeacppaaRows
import Derived.WalkKit
import Derived.ProofKit
import Derived.OpenShut
namespace Go.Proofs.Ytciihepbeacppaa.follows
open Go.ChangeShapes Go.WideShapes Go.ChangeAt Go.RowKit Go.ChangeMaps
set_option linter.unusedVariables false

theorem own : ownKnob Try.prog.godebug = none := by kernel_rfl
theorem cells1 : Try.prog.cellsOf 3 = 1 := by kernel_rfl

set_option maxRecDepth 100000 in
theorem ints_arg {H : Type} {enc : TypeId × Value → H} {W : World} {b0 : Nat} {v : Value} {d : DataW H} {p : List MemPlace} (hv : Value.okWide Try.prog W .any b0 22 v) (h : DataW.Trod enc Try.prog W 0 (fun _ => true) true 22 v d p) :
    ∃ l : List Int, (∃ ao cap, v = .slice ao l.length cap) ∧ (l.length ≤ 20000 → LsI W v l) ∧ ∀ W', Below W.heap.size W W' → DataW.Trod enc Try.prog W' 0 (fun b => decide (b < W.heap.size)) true 22 v d p := by
  obtain ⟨a0, len, cap, rfl⟩ := okWide_slice Try.underlying22 hv
  obtain ⟨fuel, hf⟩ := h
  rcases open_ints Try.underlying22 Try.underlying3 cells1 hf with ⟨hcs, hx⟩ | ⟨a, len', cap', zs, hcs, _, hle, hmax, hall, hx, hcell, hwf⟩
  · simp [Value.cells] at hcs
    obtain ⟨rfl, rfl, rfl⟩ := hcs
    simp only [Prod.mk.injEq] at hx
    obtain ⟨rfl, rfl⟩ := hx
    refine ⟨[], ⟨none, 0, rfl⟩, fun _ => ⟨Nat.zero_le _, ⟨none, 0, rfl⟩, fun h => absurd h (by simp)⟩, fun W' hb => ⟨2, ?_⟩⟩
    rw [DataW.trod_step]
    unfold DataW.trodStep
    simp [Try.underlying22, Value.cells]
  · simp [Value.cells] at hcs
    obtain ⟨rfl, rfl, rfl⟩ := hcs
    simp only [Prod.mk.injEq] at hx
    obtain ⟨rfl, rfl⟩ := hx
    simp only [if_true] at hall
    have hlen : (zs.take len).length = len := by rw [List.length_take]; omega
    refine ⟨zs.take len, ⟨some a, cap, by rw [hlen]⟩, fun h20 => ⟨h20, ⟨some a, cap, by rw [hlen]⟩, fun hpos => ?_⟩, fun W' hb => ⟨2, ?_⟩⟩
    · rw [hlen] at hpos h20
      obtain ⟨b, off, rfl, hc⟩ := ints_at hcell (by omega)
      refine ⟨by simp [ints], by rw [hlen]; exact h20, Or.inr ⟨b, off, cap, by rw [hlen], by rw [hlen]; exact hle, hmax, fun j u hj => ?_⟩⟩
      have hjl : j < len := by
        have := (List.getElem?_eq_some_iff.1 hj).1
        simp [ints] at this
        omega
      rw [hc j (by omega)]
      have hz : j < zs.length := by omega
      simp [ints, hjl, hz] at hj
      rw [← hj]
      simp [List.getD, hz]
    · refine shut_ints 0 Try.underlying22 Try.underlying3 cells1 (Nat.zero_le _) hle hmax ?_ (fun i hi => ?_) hwf
      · by_cases hz : 0 < zs.length
        · have h0 := hcell 0 hz
          have hlt := World.block_lt_of_cell? W _ h0
          rw [block_add] at hlt
          simp [hlt, hall]
        · split <;> omega
      · have h0 := hcell i hi
        exact (hb.cell (World.block_lt_of_cell? W _ h0)).trans h0

theorem ent_all (s t : ByteArray) (hs : s.size ≤ 20000) (ht : t.size ≤ 20000) (w : World) : Calls Try.prog 5 #[.string s, .string t] w fun e w' => ∃ (y : Bool) (n : Nat), e = .returned (.tuple #[.bool y, .int .i64 n]) ∧ Below w.heap.size w w' ∧ EntP s.data.toList t.data.toList y n :=
  (entails_any s t w hs ht).mono fun e w' ⟨he, hb⟩ => ⟨_, _, he, hb, enT_ok _ _⟩

set_option maxRecDepth 100000 in
set_option maxHeartbeats 4000000 in
/-- Follows says true, and turns nothing that was there -/
theorem walk {s t : ByteArray} {stv cev : Value} {store cells : List Int} (w : World) (hst : ∃ ao cap, stv = .slice ao store.length cap) (hce : ∃ ao cap, cev = .slice ao cells.length cap)
    (hst2 : store.length ≤ 20000 → LsI w stv store) (hce2 : cells.length ≤ 20000 → LsI w cev cells) :
    Calls Try.prog 3 #[.string s, .string t, stv, cev] w fun e w' => e = .returned (.bool true) ∧ Below w.heap.size w w' := by
  obtain ⟨sa, sc, rfl⟩ := hst
  obtain ⟨ca, cc, rfl⟩ := hce
  have HB := hide (Below.refl w.heap.size w)
  by_cases h1 : 16384 < s.size
  · clear hst2 hce2
    go_enter Try.func3, Try.ntmps3
    go_wp2_with fail
    go_ret
    exact ⟨rfl, unhide HB⟩
  · have d1 : decide ((16384 : Int) < (s.size : Int)) = false := by simp; omega
    by_cases h2 : 16384 < t.size
    · clear hst2 hce2
      go_enter Try.func3, Try.ntmps3
      go_wp2_with fail
      go_ret
      exact ⟨rfl, unhide HB⟩
    · have d2 : decide ((16384 : Int) < (t.size : Int)) = false := by simp; omega
      by_cases h3 : 16384 < store.length
      · clear hst2 hce2
        go_enter Try.func3, Try.ntmps3
        go_wp2_with fail
        go_ret
        exact ⟨rfl, unhide HB⟩
      · have d3 : decide ((16384 : Int) < (store.length : Int)) = false := by simp; omega
        by_cases h4 : 16384 < cells.length
        · clear hst2 hce2
          go_enter Try.func3, Try.ntmps3
          go_wp2_with fail
          go_ret
          exact ⟨rfl, unhide HB⟩
        · have d4 : decide ((16384 : Int) < (cells.length : Int)) = false := by simp; omega
          have HC : Hid (Calls Try.prog 4 #[.string s, .string t, .slice sa store.length sc, .slice ca cells.length cc] w fun e w' => e = .returned (.bool true) ∧ Below w.heap.size w w') := hide (by
            by_cases h0 : paE s.data.toList t.data.toList = 0
            · exact entailed_good w (by omega) (by omega) h0 (hst2 (by omega)) (hce2 (by omega)) (ent_all s t (by omega) (by omega))
            · exact entailed_bad w (by omega) (by omega) h0 (ent_all s t (by omega) (by omega)))
          clear hst2 hce2
          go_enter Try.func3, Try.ntmps3
          go_wp2_with fail
          refine (unhide HC).mono ?_
          rintro e w1 ⟨rfl, hb⟩
          have HB1 := hide hb
          clear hb HC
          go_wp2_with fail
          go_ret
          exact ⟨rfl, unhide HB1⟩

set_option maxRecDepth 100000 in
theorem lifted (os : Os) (started : os.Started) (H : Type) (enc : TypeId × Value → H) :
    ReturnsInHanded {} Try.checked os 3 .any (Rows.followsSpec.pre6 enc Try.prog Try.f3 Rows.followsRow.domain false) (Rows.followsSpec.post enc Try.prog Try.f3 false true false false) := by
  refine returnsInHanded_of_change (C := Try.checked) own started (by kernel_rfl) Try.func3
    (ChangeSpec.witness6 (enc := enc) (C := Try.checked) false ⟨#[], #[.string ⟨#[]⟩, .string ⟨#[]⟩, .slice none 0 0, .slice none 0 0], []⟩ 8 (by kernel_rfl) (by kernel_rfl) (by kernel_rfl) (by kernel_rfl)) ?_
  intro W base args ds gs before hval0 hW hcnd _
  have hval : ∀ (j : Nat) t v, Try.f3.params[j]? = some t → args[j]? = some v → Value.okWide Try.prog W .any base t v := hval0
  have hW' := hW
  obtain ⟨p, q, hA0, hV, rfl, hfz, hnd⟩ := hW
  have hA : DataW.TrodAll enc Try.prog W 0 (fun _ => true) true Try.f3.params.toList args.toList ds p := hA0
  rw [Try.params3] at hA hval
  obtain ⟨v0, vs0, d0, ds0, p0, q0, hargs, rfl, rfl, h0, r0⟩ := trodAll_cons hA
  obtain ⟨v1, vs1, d1, ds1, p1, q1, hvs1, rfl, rfl, h1, r1⟩ := trodAll_cons r0
  obtain ⟨v2, vs2, d2, ds2, p2, q2, hvs2, rfl, rfl, h2, r2⟩ := trodAll_cons r1
  obtain ⟨v3, vs3, d3, ds3, p3, q3, hvs3, rfl, rfl, h3, r3⟩ := trodAll_cons r2
  obtain ⟨rfl, rfl, rfl⟩ := trodAll_nil r3
  obtain rfl : args = #[v0, v1, v2, v3] := by cases args; simp_all
  obtain ⟨rfl, rfl⟩ := trodVars_none hV
  obtain ⟨s, rfl, rfl, rfl, hs⟩ := open_string Try.underlying9 (hval 0 9 v0 rfl rfl) h0
  obtain ⟨t, rfl, rfl, rfl, ht⟩ := open_string Try.underlying9 (hval 1 9 v1 rfl rfl) h1
  obtain ⟨store, e2, l2, t2⟩ := ints_arg (hval 2 22 v2 rfl rfl) h2
  obtain ⟨cells, e3, l3, t3⟩ := ints_arg (hval 3 22 v3 rfl rfl) h3
  clear hA0
  simp only [List.append_nil] at hW'
  refine (walk W e2 e3 l2 l3).mono fun e W' ⟨he, hb⟩ => ?_
  subst he
  exact ⟨_, rfl, _, _, _, [], [] ++ ([] ++ (p2 ++ (p3 ++ []))), [], hW', trodAll_cons_mk (shut_bool Try.underlying4 _) trodAll_mk0,
    trodAll_cons_mk (shut_string Try.underlying9 hs) (trodAll_cons_mk (shut_string Try.underlying9 ht) (trodAll_cons_mk (t2 W' hb) (trodAll_cons_mk (t3 W' hb) trodAll_mk0))), rfl, hb.frame _, fun h => by cases h⟩

theorem over : Rows.followsRow.holds Try.pinned (OpenSpec.ofChange Rows.followsSpec) :=
  OpenClaim.holds_of_wide 3 Try.f3 rfl rfl rfl rfl rfl rfl rfl ⟨rfl, rfl, rfl, rfl, rfl⟩ rfl rfl rfl rfl rfl (by kernel_rfl) Try.func3 (by kernel_rfl)
    (of_decide_eq_true (by kernel_rfl)) (by unfold Func.isWrapper; first | (rw [if_pos (by decide +kernel)]; kernel_rfl) | (rw [if_neg (by decide +kernel)]; exact ⟨rfl, rfl⟩))
    (fun os started H enc _ => lifted os started H enc)
end Go.Proofs.Ytciihepbeacppaa.follows
namespace Go.Proofs.Ytciihepbeacppaa
theorem follows_proved : Rows.FollowsSaid := follows.over
#print axioms follows_proved
end Go.Proofs.Ytciihepbeacppaa
