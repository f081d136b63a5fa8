import Derived.Test.YtciihepbeacppaaME
namespace Go.Proofs.Ytciihepbeacppaa
open Go.RowKit

/-! ### walk -/
section
variable {w : World} {y : Lay} {T V : CF} {s : SS}
theorem own_formP {w : World} {v : Value} {l : List Pr} (h : w.ownsRow 0 89 3 v l.length (prCells l)) {i : Nat} (hi : i < l.length) : ∃ g cap, v = .slice (some ⟨g, 0, none⟩) l.length cap ∧ cap ≤ 9223372036854775807 ∧ l.length ≤ cap := by
  obtain ⟨ao, cap, hv, hm, hn, hc⟩ := pr_of_own h
  obtain ⟨g, hao, _⟩ := hc (by intro e; rw [e] at hi; simp at hi)
  exact ⟨g, cap, by rw [hv, hao], by unfold maxLen at hm; omega, hn⟩
theorem own_cells {w : World} {l : List Pr} {g cap : Nat} (h : w.ownsRow 0 89 3 (.slice (some ⟨g, 0, none⟩) l.length cap) l.length (prCells l)) {i : Nat} (hi : i < l.length) :
    w.cell? ⟨g, i * 3, none⟩ = some (.int .i64 (l.getD i pr0).k) ∧ w.cell? ⟨g, i * 3 + 1, none⟩ = some (.int .i64 (l.getD i pr0).l) ∧ w.cell? ⟨g, i * 3 + 2, none⟩ = some (.int .i64 (l.getD i pr0).r) := by
  rw [pr_at hi]
  have hg := pr_get hi
  exact ⟨(h.cellAt _ (by omega)).trans hg.1, (h.cellAt _ (by omega)).trans hg.2.1, (h.cellAt _ (by omega)).trans hg.2.2⟩
theorem Sw.vcell (h : Sw w y T V s) {g cap : Nat} (hv : y.vov = .slice (some ⟨g, 0, none⟩) V.ow.length cap) {i : Nat} (hi : i < V.ow.length) :
    w.cell? ⟨y.v, 6, none⟩ = some (.slice (some ⟨g, 0, none⟩) V.ow.length cap) ∧ w.cell? ⟨g, i * 3, none⟩ = some (.int .i64 (V.ow.getD i pr0).k) ∧ w.cell? ⟨g, i * 3 + 1, none⟩ = some (.int .i64 (V.ow.getD i pr0).l) ∧ w.cell? ⟨g, i * 3 + 2, none⟩ = some (.int .i64 (V.ow.getD i pr0).r) := by
  have ho := h.fv.ow
  rw [hv] at ho
  exact ⟨by rw [h.fv.c6, hv], own_cells ho hi⟩
theorem Sw.tcell (h : Sw w y T V s) {g cap : Nat} (hv : y.tov = .slice (some ⟨g, 0, none⟩) T.ow.length cap) {i : Nat} (hi : i < T.ow.length) :
    w.cell? ⟨y.t, 6, none⟩ = some (.slice (some ⟨g, 0, none⟩) T.ow.length cap) ∧ w.cell? ⟨g, i * 3, none⟩ = some (.int .i64 (T.ow.getD i pr0).k) ∧ w.cell? ⟨g, i * 3 + 1, none⟩ = some (.int .i64 (T.ow.getD i pr0).l) ∧ w.cell? ⟨g, i * 3 + 2, none⟩ = some (.int .i64 (T.ow.getD i pr0).r) := by
  have ho := h.ft.ow
  rw [hv] at ho
  exact ⟨by rw [h.ft.c6, hv], own_cells ho hi⟩
theorem Sw.ocell (h : Sw w y T V s) {O n cap : Nat} (hv : y.ov = .slice (some ⟨O, 0, none⟩) n cap) {i : Nat} (hi : i < s.ot.length) :
    w.cell? ⟨O, i, none⟩ = some (.int .i64 (opI (s.ot.getD i none))) ∧ w.frozen? ⟨O, i, none⟩ = false := by
  obtain ⟨O', c', e', _, _, h1, h2⟩ := h.own (by intro e; rw [e] at hi; simp at hi)
  rw [hv] at e'
  have eL : O = O' := by injection e' with e1 _ _; injection e1 with e1; injection e1
  subst eL
  exact ⟨h1 i hi, h2 i⟩
theorem Sw.pcell (h : Sw w y T V s) {L n cap : Nat} (hv : y.pv = .slice (some ⟨L, 0, none⟩) n cap) {i : Nat} (hi : i < s.pl.length) :
    w.cell? ⟨L, i, none⟩ = some (.bool (s.pl.getD i false)) ∧ w.frozen? ⟨L, i, none⟩ = false := by
  obtain ⟨O', c', e', _, _, h1, h2⟩ := h.plc (by intro e; rw [e] at hi; simp at hi)
  rw [hv] at e'
  have eL : L = O' := by injection e' with e1 _ _; injection e1 with e1; injection e1
  subst eL
  exact ⟨h1 i hi, h2 i⟩
end

def wkQ (V T : CF) (m : Nat) (s2 : SS) (k vr count : Nat) : Bool × SS := if (T.ow.getD k pr0).k = 4 then wk V T m s2 k vr count else (false, s2)
theorem wk_main {V T : CF} {m : Nat} {s : SS} {k at_ count i : Nat} (h0 : ¬ wrap64 (s.st - 1) < 0) (h1 : bgn V.ow at_ = some i) (h2 : s.ot.getD i none = none) (h3 : ¬ ((T.ow.getD k pr0).k ≠ 4 ∧ (V.ow.getD i pr0).k = 4))
    {r : Bool × SS} (hr : r = enF (plF (wk V T m) V T) T { s with st := wrap64 (s.st - 1), ot := s.ot.set i (some k), un := s.un - 1 } k (V.ow.getD i pr0).r count) :
    wk V T (m + 1) s k at_ count = if r.1 = true then (true, r.2) else if (wkQ V T m r.2 k (V.ow.getD i pr0).r count).1 = true then (true, (wkQ V T m r.2 k (V.ow.getD i pr0).r count).2) else (false, { (wkQ V T m r.2 k (V.ow.getD i pr0).r count).2 with ot := (wkQ V T m r.2 k (V.ow.getD i pr0).r count).2.ot.set i none, un := (wkQ V T m r.2 k (V.ow.getD i pr0).r count).2.un + 1 }) := by
  simp only [wk]
  rw [if_neg h0, h1]
  dsimp only
  rw [if_neg (by rw [h2]; simp), if_neg h3, ← hr]
  obtain ⟨b, s2⟩ := r
  cases b with
  | true => rfl
  | false =>
    dsimp only
    rw [show (if (T.ow.getD k pr0).k = 4 then wk V T m s2 k (V.ow.getD i pr0).r count else (false, s2)) = wkQ V T m s2 k (V.ow.getD i pr0).r count from rfl]
    obtain ⟨b3, s3⟩ := wkQ V T m s2 k (V.ow.getD i pr0).r count
    cases b3 <;> rfl

set_option maxRecDepth 100000 in
set_option maxHeartbeats 8000000 in
theorem walk_step {y : Lay} {T V : CF} (hT : Rm T) (hVl : V.ow.length ≤ 1000000) {m : Nat} (hW : WkC y T V m (wk V T m)) (hP : PlC y T V m (plF (wk V T m) V T)) : WkC y T V (m + 1) (wk V T (m + 1)) := by
  intro w s k at_ count h hw hm hk hc
  obtain ⟨hkl, hkp⟩ := uP_mem hk
  have hkT : k < T.ow.length := by rw [← hw.lp]; exact hkl
  obtain ⟨tg, tcap, htov, htm, htn⟩ := own_formP h.ft.ow hkT
  have hq8 := h.cs
  have hfz8 := h.frz 54
  have hs1 := h.setSt (wrap64 (s.st - 1))
  have hc8 := hs1.cs
  have hcv1 := hs1.cv
  have HS1 := hide hs1
  have hct1 := hs1.c1
  have hco1 := hs1.co
  obtain ⟨hT6, hTk, _, _⟩ := hs1.tcell htov hkT
  obtain ⟨w1, hw1⟩ : ∃ w1, w1 = w.setCell ⟨y.q, 54, none⟩ (.int .i64 (wrap64 (s.st - 1))) := ⟨_, rfl⟩
  have HT1 : Hid (Stp y.fp w y.fp w1) := hide (by rw [hw1]; exact (Stp.refl y.fp w).setCell (Or.inl (Sw.memQ y)) _)
  have HB := hide (begins_any at_ hs1.fv)
  rw [← hw1] at HS1 hc8 hcv1 hct1 hco1 hT6 hTk HB
  have HW1 := hide hw1
  obtain ⟨tk0, htk0⟩ : ∃ tk0, tk0 = (T.ow.getD k pr0).k := ⟨_, rfl⟩
  rw [← htk0] at hTk
  have HTK := hide htk0
  have HS := hide h
  have HWF := hide hw
  have HK := hide hk
  have HC := hide hc
  have HM := hide hm
  have HPC := hide hP
  have HWC := hide hW
  have HTO := hide htov
  clear h hw hm hk hc hP hW hkp hs1 htk0 htov hw1
  by_cases hneg : wrap64 (s.st - 1) < 0
  · have hn' : decide (wrap64 (s.st - 1) < 0) = true := by simpa using hneg
    have HE : Hid (wk V T (m + 1) s k at_ count = (false, { s with st := wrap64 (s.st - 1) })) := hide (by simp only [wk]; rw [if_pos hneg])
    rw [unhide HW1] at hc8 HS1 HT1
    clear hneg hcv1 hct1 hco1 hT6 hTk HB
    go_enter Try.func56, Try.ntmps56
    go_wp2_with fail
    go_ret
    rw [unhide HE]
    exact ⟨rfl, unhide HS1, unhide HT1⟩
  · have hn' : decide (wrap64 (s.st - 1) < 0) = false := by simpa using hneg
    cases hbg : bgn V.ow at_ with
    | none =>
      have HE : Hid (wk V T (m + 1) s k at_ count = (false, { s with st := wrap64 (s.st - 1) })) := hide (by simp only [wk]; rw [if_neg hneg, hbg])
      rw [hbg] at HB
      rw [unhide HW1] at hc8 HS1 HT1 hcv1 HB
      clear hneg hct1 hco1 hT6 hTk hbg
      go_enter Try.func56, Try.ntmps56
      go_wp2_with fail
      refine (unhide HB).mono ?_
      rintro e w2 ⟨rfl, rfl⟩
      rw [show opI none = (-1 : Int) from rfl]
      go_wp2_with fail
      go_ret
      rw [unhide HE]
      exact ⟨rfl, unhide HS1, unhide HT1⟩
    | some i =>
      obtain ⟨hiV, hil⟩ := bgn_some hbg
      have hio : i < s.ot.length := by rw [(unhide HWF).lo]; exact hiV
      obtain ⟨vg, vcap, hvov, hvm, hvn⟩ := own_formP (unhide HS1).fv.ow hiV
      obtain ⟨O, ocap, hov, hocn, hocm, _, _⟩ := (unhide HS1).own (by intro e; have e2 : s.ot = [] := e; rw [e2] at hio; simp at hio)
      have hov' : y.ov = .slice (some ⟨O, 0, none⟩) s.ot.length ocap := hov
      have hocm2 : ocap ≤ 9223372036854775807 := by unfold maxLen at hocm; omega
      have hocn2 : s.ot.length ≤ ocap := hocn
      obtain ⟨ho1, hof1⟩ := (unhide HS1).ocell hov' (i := i) hio
      rw [hov'] at hco1
      have ho1' : w1.cell? ⟨O, i, none⟩ = some (.int .i64 (opI (s.ot.getD i none))) := ho1
      obtain ⟨oi, hoi⟩ : ∃ oi, oi = s.ot.getD i none := ⟨_, rfl⟩
      rw [← hoi] at ho1'
      have hoin := opI_neg oi
      obtain ⟨hV6, hVk, _, hVr⟩ := (unhide HS1).vcell hvov hiV
      obtain ⟨vk, hvk⟩ : ∃ vk, vk = (V.ow.getD i pr0).k := ⟨_, rfl⟩
      obtain ⟨vr, hvr⟩ : ∃ vr, vr = (V.ow.getD i pr0).r := ⟨_, rfl⟩
      rw [← hvk] at hVk
      rw [← hvr] at hVr
      rw [hbg] at HB
      have HBG := hide hbg
      have HOI := hide hoi
      have HVK := hide hvk
      have HVR := hide hvr
      have HOV := hide hov'
      have HVO := hide hvov
      clear hov hov' ho1 hoi hvk hvr hbg hvov hocm hocn hil
      cases hos : oi.isSome with
      | true =>
        have HE : Hid (wk V T (m + 1) s k at_ count = (false, { s with st := wrap64 (s.st - 1) })) := hide (by
          simp only [wk]; rw [if_neg hneg, unhide HBG]; dsimp only
          rw [if_pos (by rw [← unhide HOI]; intro e; rw [e] at hos; cases hos)])
        rw [hos] at hoin
        rw [unhide HW1] at hc8 HS1 HT1 hcv1 HB hco1 ho1' hct1 hT6 hTk
        clear hneg hV6 hVk hVr hof1
        go_enter Try.func56, Try.ntmps56
        go_wp2_with fail
        refine (unhide HB).mono ?_
        rintro e w2 ⟨rfl, rfl⟩
        rw [show opI (some i) = (i : Int) from rfl]
        go_wp2_with fail
        go_ret
        rw [unhide HE]
        exact ⟨rfl, unhide HS1, unhide HT1⟩
      | false =>
        have hoN : oi = none := by cases oi with | none => rfl | some _ => cases hos
        rw [hos] at hoin
        by_cases hkk : tk0 ≠ 4 ∧ vk = 4
        · have HE : Hid (wk V T (m + 1) s k at_ count = (false, { s with st := wrap64 (s.st - 1) })) := hide (by
            simp only [wk]; rw [if_neg hneg, unhide HBG]; dsimp only
            rw [if_neg (by rw [← unhide HOI, hoN]; simp), ← unhide HTK, ← unhide HVK, if_pos hkk])
          have ht4 : ((tk0 : Int) == 4) = false := by rw [beq_eq_false_iff_ne]; omega
          have hv4 : ((vk : Int) == 4) = true := by rw [beq_iff_eq]; omega
          rw [unhide HW1] at hc8 HS1 HT1 hcv1 HB hco1 ho1' hct1 hT6 hTk hV6 hVk
          clear hneg hVr hof1 hkk hoN
          go_enter Try.func56, Try.ntmps56
          go_wp2_with fail
          refine (unhide HB).mono ?_
          rintro e w2 ⟨rfl, rfl⟩
          rw [show opI (some i) = (i : Int) from rfl]
          go_wp2_with fail
          go_ret
          rw [unhide HE]
          exact ⟨rfl, unhide HS1, unhide HT1⟩
        · have hfr : (frL s).Perm (i :: frL { s with st := wrap64 (s.st - 1), ot := s.ot.set i (some k), un := s.un - 1 }) := frL_take hio (by rw [← unhide HOI]; exact hoN) rfl
          have hfl := hfr.length_eq
          rw [List.length_cons] at hfl
          have hun1 : 1 ≤ s.un := by have := (unhide HWF).un; omega
          have hun2 : s.un ≤ 1000000 := by
            have h1 := (unhide HWF).un
            have h2 : (frL s).length ≤ s.ot.length := by
              unfold frL
              have := List.length_filter_le (fun i => (s.ot.getD i none).isNone) (List.range s.ot.length)
              simpa using this
            have h3 := (unhide HWF).lo
            omega
          have hcast : ((s.un - 1 : Nat) : Int) = (s.un : Int) - 1 := by omega
          -- the worlds behind the stores
          have hs2 := (unhide HS1).setO (i := i) (o := some k) (unhide HOV)
          rw [show opI (some k) = (k : Int) from rfl] at hs2
          have hcu2 := hs2.cu
          have hfz2 := hs2.frz 52
          have hs3 := hs2.setUn (s.un - 1)
          rw [hcast] at hs3
          have hcv3 := hs3.cv
          obtain ⟨hV6', _, _, hVr'⟩ := hs3.vcell (unhide HVO) hiV
          rw [← unhide HVR] at hVr'
          have HT3 : Hid (Stp y.fp w y.fp ((w1.setCell ⟨O, i, none⟩ (.int .i64 (k : Int))).setCell ⟨y.q, 52, none⟩ (.int .i64 ((s.un : Int) - 1)))) := hide (((unhide HT1).setCell (Or.inl (Sw.memO (unhide HOV))) _).setCell (Or.inl (Sw.memQ y)) _)
          have hwf3 : Wf V T { s with st := wrap64 (s.st - 1), ot := s.ot.set i (some k), un := s.un - 1 } := by
            refine ⟨by simpa using (unhide HWF).lo, (unhide HWF).lp, (unhide HWF).lb, ?_⟩
            have h4 := (unhide HWF).un
            show s.un - 1 = _
            omega
          have hm3 : ({ s with st := wrap64 (s.st - 1), ot := s.ot.set i (some k), un := s.un - 1 } : SS).un < m := by
            have := unhide HM
            show s.un - 1 < m
            omega
          have HEnd := hide (end_any (at_ := vr) hT (unhide HPC) (plF_ok hT (wk_ok hT m)) hs3 hwf3 hm3 (unhide HK) (unhide HC))
          have HEok := fun {b : Bool} {s' : SS} (hr : enF (plF (wk V T m) V T) T { s with st := wrap64 (s.st - 1), ot := s.ot.set i (some k), un := s.un - 1 } k vr count = (b, s')) => enF_ok hT (plF_ok hT (wk_ok hT m)) hwf3 (unhide HK) (unhide HC) hr
          obtain ⟨r, hr⟩ : ∃ r, r = enF (plF (wk V T m) V T) T { s with st := wrap64 (s.st - 1), ot := s.ot.set i (some k), un := s.un - 1 } k vr count := ⟨_, rfl⟩
          have HE := hide (wk_main (m := m) (count := count) hneg (unhide HBG) (by rw [← unhide HOI]; exact hoN) (by rw [← unhide HTK, ← unhide HVK]; exact hkk) (r := r) (by rw [← unhide HVR]; exact hr))
          rw [← unhide HVR] at HE
          rw [← hr] at HEnd
          have hok : r.1 = false → r.2 = { s with st := r.2.st, ot := s.ot.set i (some k), un := s.un - 1 } := fun hb => (HEok (b := r.1) (s' := r.2) hr.symm).1 hb
          have HOK := hide hok
          have HWF3 := hide hwf3
          have HM3 := hide hm3
          clear HEok hr hok hwf3 hm3 hs2 hs3 hfr hfl
          have ht4 : ((tk0 : Int) == 4) = decide (tk0 = 4) := by rw [Bool.eq_iff_iff, beq_iff_eq, decide_eq_true_eq]; omega
          have hkk' : tk0 = 4 ∨ (vk : Int) ≠ 4 := by omega
          rw [unhide HW1] at hc8 HT3 hcv1 HB hco1 ho1' hct1 hT6 hTk hV6 hVk hof1 hcu2 hfz2 hcv3 hV6' hVr' HEnd
          have HKK := hide hkk'
          have hi0 : decide ((i : Int) < 0) = false := by simp
          clear hneg hkk hkk' hVr hoN
          cases hd4 : decide (tk0 = 4) with
          | true =>
            rw [hd4] at ht4
            go_enter Try.func56, Try.ntmps56
            go_wp2_with fail
            refine (unhide HB).mono ?_
            rintro e w2 ⟨rfl, rfl⟩
            rw [show opI (some i) = (i : Int) from rfl]
            go_wp2_with fail
            refine (unhide HEnd).mono ?_
            rintro e w4 ⟨rfl, hS4, hT4⟩
            obtain ⟨b4, s4⟩ := r
            cases b4 with
            | true =>
              have HS4 := hide hS4
              have HT4 := hide ((unhide HT3).trans hT4)
              clear hS4 hT4
              go_wp2_with fail
              go_ret
              rw [unhide HE]
              exact ⟨rfl, unhide HS4, unhide HT4⟩
            | false =>
              have hs4 := unhide HOK rfl
              dsimp only at hS4 hs4
              have hcv4 := hS4.cv
              obtain ⟨hV64, _, _, hVr4⟩ := hS4.vcell (unhide HVO) hiV
              rw [← unhide HVR] at hVr4
              have hwf4 : Wf V T s4 := by rw [hs4]; exact ⟨(unhide HWF3).lo, (unhide HWF3).lp, (unhide HWF3).lb, (unhide HWF3).un⟩
              have hun4 : s4.un = s.un - 1 := by rw [hs4]
              have hot4 : s4.ot = s.ot.set i (some k) := by rw [hs4]
              have hup4 : uP s4 = uP s := by rw [hs4]; rfl
              have HWK := hide (unhide HWC w4 s4 k vr count hS4 hwf4 (by have := unhide HM3; have e : ({ s with st := wrap64 (s.st - 1), ot := s.ot.set i (some k), un := s.un - 1 } : SS).un = s.un - 1 := rfl; omega) (by rw [hup4]; exact unhide HK) (by rw [hup4]; exact unhide HC))
              have HWKo := hide (wk_ok (V := V) hT m s4 k vr count hwf4 (by rw [hup4]; exact unhide HK) (by rw [hup4]; exact unhide HC) _ _ rfl)
              have HT4 := hide ((unhide HT3).trans hT4)
              have HQ : Hid (wkQ V T m s4 k vr count = wk V T m s4 k vr count) := hide (by unfold wkQ; rw [← unhide HTK, if_pos (by simpa using hd4)])
              have HUN := hide hun4
              have HOT := hide hot4
              clear hS4 hT4 hs4 hwf4 hun4 hot4 hup4
              go_wp2_with fail
              refine (unhide HWK).mono ?_
              rintro e w5 ⟨rfl, hS5, hT5⟩
              obtain ⟨q, hq⟩ : ∃ q, q = wk V T m s4 k vr count := ⟨_, rfl⟩
              rw [← hq] at hS5 HWKo HQ ⊢
              obtain ⟨b5, s5⟩ := q
              cases b5 with
              | true =>
                have HS5 := hide hS5
                have HT5 := hide ((unhide HT4).trans hT5)
                have HQ5 := hide hq
                clear hS5 hT5 hq
                go_wp2_with fail
                go_ret
                rw [unhide HE]
                dsimp only
                rw [unhide HQ]
                exact ⟨rfl, unhide HS5, unhide HT5⟩
              | false =>
                have hs5 := (unhide HWKo).1 rfl
                dsimp only at hS5 hs5
                have HT5 := hide ((unhide HT4).trans hT5)
                clear hT5 hq
                have hun5 : s5.un = s.un - 1 := by rw [hs5]; exact unhide HUN
                have hot5 : s5.ot = s.ot.set i (some k) := by rw [hs5]; exact unhide HOT
                have hlo5 : s5.ot.length = s.ot.length := by rw [hot5]; simp
                have hco5 := hS5.co
                rw [unhide HOV] at hco5
                obtain ⟨ho5, hof5⟩ := hS5.ocell (unhide HOV) (i := i) (by rw [hlo5]; exact hio)
                have hs6 := hS5.setO (i := i) (o := none) (by rw [hlo5]; exact unhide HOV)
                rw [show opI none = (-1 : Int) from rfl] at hs6
                have hcu6 := hs6.cu
                have hu6 : (({ s5 with ot := s5.ot.set i none } : SS).un : Int) = (s.un : Int) - 1 := by
                  have : ({ s5 with ot := s5.ot.set i none } : SS).un = s5.un := rfl
                  omega
                rw [hu6] at hcu6
                have hfz6 := hs6.frz 52
                have hs7 := hs6.setUn (s5.un + 1)
                rw [show ((s5.un + 1 : Nat) : Int) = (s.un : Int) by omega] at hs7
                have HS7 := hide hs7
                have HT7 : Hid (Stp y.fp w y.fp ((w5.setCell ⟨O, i, none⟩ (.int .i64 (-1))).setCell ⟨y.q, 52, none⟩ (.int .i64 (s.un : Int)))) := hide (((unhide HT5).setCell (Or.inl (Sw.memO (unhide HOV))) _).setCell (Or.inl (Sw.memQ y)) _)
                clear hS5 hs5 hun5 hot5 hlo5 hs6 hs7 hu6
                go_wp2_with fail
                go_ret
                rw [unhide HE]
                dsimp only
                rw [unhide HQ]
                exact ⟨rfl, unhide HS7, unhide HT7⟩
          | false =>
            rw [hd4] at ht4
            have hv4 : ((vk : Int) == 4) = false := by
              rw [beq_eq_false_iff_ne]
              rcases unhide HKK with h | h
              · rw [h] at hd4; simp at hd4
              · exact h
            go_enter Try.func56, Try.ntmps56
            go_wp2_with fail
            refine (unhide HB).mono ?_
            rintro e w2 ⟨rfl, rfl⟩
            rw [show opI (some i) = (i : Int) from rfl]
            go_wp2_with fail
            refine (unhide HEnd).mono ?_
            rintro e w5 ⟨rfl, hS5, hT4⟩
            obtain ⟨b4, s5⟩ := r
            have HT5 := hide ((unhide HT3).trans hT4)
            clear hT4
            cases b4 with
            | true =>
              have HS4 := hide hS5
              clear hS5
              go_wp2_with fail
              go_ret
              rw [unhide HE]
              exact ⟨rfl, unhide HS4, unhide HT5⟩
            | false =>
              have hs5 := unhide HOK rfl
              dsimp only at hS5 hs5
              have HQ : Hid (wkQ V T m s5 k vr count = (false, s5)) := hide (by unfold wkQ; rw [← unhide HTK, if_neg (by simpa using hd4)])
              have hun5 : s5.un = s.un - 1 := by rw [hs5]
              have hot5 : s5.ot = s.ot.set i (some k) := by rw [hs5]
              have hlo5 : s5.ot.length = s.ot.length := by rw [hot5]; simp
              have hco5 := hS5.co
              rw [unhide HOV] at hco5
              obtain ⟨ho5, hof5⟩ := hS5.ocell (unhide HOV) (i := i) (by rw [hlo5]; exact hio)
              have hs6 := hS5.setO (i := i) (o := none) (by rw [hlo5]; exact unhide HOV)
              rw [show opI none = (-1 : Int) from rfl] at hs6
              have hcu6 := hs6.cu
              have hu6 : (({ s5 with ot := s5.ot.set i none } : SS).un : Int) = (s.un : Int) - 1 := by
                have : ({ s5 with ot := s5.ot.set i none } : SS).un = s5.un := rfl
                omega
              rw [hu6] at hcu6
              have hfz6 := hs6.frz 52
              have hs7 := hs6.setUn (s5.un + 1)
              rw [show ((s5.un + 1 : Nat) : Int) = (s.un : Int) by omega] at hs7
              have HS7 := hide hs7
              have HT7 : Hid (Stp y.fp w y.fp ((w5.setCell ⟨O, i, none⟩ (.int .i64 (-1))).setCell ⟨y.q, 52, none⟩ (.int .i64 (s.un : Int)))) := hide (((unhide HT5).setCell (Or.inl (Sw.memO (unhide HOV))) _).setCell (Or.inl (Sw.memQ y)) _)
              clear hS5 hs5 hun5 hot5 hlo5 hs6 hs7 hu6
              go_wp2_with fail
              go_ret
              rw [unhide HE]
              dsimp only
              rw [unhide HQ]
              exact ⟨rfl, unhide HS7, unhide HT7⟩
end Go.Proofs.Ytciihepbeacppaa

namespace Go.Proofs.Ytciihepbeacppaa
open Go.RowKit

/-! ### apart -/
def apP (V : CF) (s : SS) (p : Pr) : Bool := p.l != p.r && (match s.b p.l, s.b p.r with | some a, some b => difB V a b | _, _ => true)
theorem apB_all {V T : CF} {s : SS} (h : ∀ j, (hj : j < T.ap.length) → apP V s T.ap[j] = true) : apB V T s = true := by
  show T.ap.all (apP V s) = true
  rw [List.all_eq_true]
  intro p hp
  obtain ⟨j, hj, rfl⟩ := List.mem_iff_getElem.1 hp
  exact h j hj
theorem apB_no {V T : CF} {s : SS} {j : Nat} (hj : j < T.ap.length) (h : apP V s T.ap[j] = false) : apB V T s = false := by
  show T.ap.all (apP V s) = false
  rw [List.all_eq_false]
  exact ⟨_, List.getElem_mem hj, by rw [h]; simp⟩
def RmA (T : CF) : Prop := ∀ p ∈ T.ap, p.l < 24 ∧ p.r < 24
theorem Sw.alloc {w : World} {y : Lay} {T V : CF} {s : SS} (h : Sw w y T V s) (o : Obj) : Sw (w.alloc o) y T V s := h.of_eq (fun _ hk => Below.heap_alloc _ _ _ hk)
theorem Sw.drewN {w : World} {y : Lay} {T V : CF} {s : SS} (h : Sw w y T V s) (n : Nat) : Sw (w.drewN n) y T V s := h.of_eq (fun _ _ => by simp)
theorem new3 (w : World) (a b c : Value) (T : TypeId) : (w.alloc (.cells #[a, b, c] T)).cell? ⟨w.heap.size, 0, none⟩ = some a ∧ (w.alloc (.cells #[a, b, c] T)).cell? ⟨w.heap.size, 1, none⟩ = some b ∧ (w.alloc (.cells #[a, b, c] T)).cell? ⟨w.heap.size, 2, none⟩ = some c := by
  have h := fun j => cell_of_row (w.alloc (.cells #[a, b, c] T)) w.heap.size j #[a, b, c] T (0, 0) (heap_alloc_new w _)
  exact ⟨h 0, h 1, h 2⟩
theorem opI_none (o : Option Nat) : (opI o == (-1 : Int)) = o.isNone := by
  cases o with
  | none => rfl
  | some n => simp [opI]

set_option maxRecDepth 100000 in
set_option maxHeartbeats 8000000 in
theorem apart_any {y : Lay} {T V : CF} (hA : RmA T) {w : World} {s : SS} (h : Sw w y T V s) :
    Calls Try.prog 54 #[.pointer (some ⟨y.q, 0, none⟩)] w fun e w' => e = .returned (.bool (apB V T s)) ∧ Below w.heap.size w w' := by
  obtain ⟨ao, cap, hav, hm, hnc, hc⟩ := pr_of_own h.ft.ap
  have h5 := h.ft.c5
  rw [hav] at h5
  have hq1 := h.c1
  have HC := hide hc
  have HS := hide h
  clear hc hav h
  unfold maxLen at hm
  go_enter Try.func54, Try.ntmps54
  go_wp2_with fail
  go_loopw [15] (fun i wr => ∃ k : Nat, k ≤ T.ap.length ∧ i = .int .i64 k ∧ Hid (∀ j, (hj : j < T.ap.length) → j < k → apP V s T.ap[j] = true) ∧ Below w.heap.size w wr) (fun i _ => T.ap.length - (intOf i).toNat)
  case atStart => exact ⟨0, Nat.zero_le _, rfl, fun _ _ h => absurd h (by omega), Below.refl _ _⟩
  case round =>
    obtain ⟨k, hk, rfl, hall, hbl⟩ := hrel
    by_cases hlt : k < T.ap.length
    · obtain ⟨g, hao, hcell⟩ := unhide HC (by intro h; rw [h] at hlt; simp at hlt)
      subst hao
      obtain ⟨hx0, hx1, hx2⟩ := hcell k hlt
      have c0 := (hbl.cell (World.block_lt_of_cell? w _ hx0)).trans hx0
      have c1 := (hbl.cell (World.block_lt_of_cell? w _ hx1)).trans hx1
      have c2 := (hbl.cell (World.block_lt_of_cell? w _ hx2)).trans hx2
      clear hcell hx0 hx1 hx2
      obtain ⟨hl24, hr24⟩ := hA _ (List.getElem_mem hlt)
      obtain ⟨p, hp⟩ : ∃ p, p = T.ap[k] := ⟨_, rfl⟩
      rw [← hp] at c0 c1 c2 hl24 hr24
      have HP := hide hp
      have HSr := hide ((unhide HS).below hbl)
      have hZ := (unhide HSr).alloc (.cells #[Value.int .i64 p.k, .int .i64 p.l, .int .i64 p.r] 89)
      have hql := hZ.cb hl24
      have hqr := hZ.cb hr24
      have hqv := hZ.cv
      have n0 : (wr.alloc (.cells #[Value.int .i64 p.k, .int .i64 p.l, .int .i64 p.r] 89)).cell? ⟨wr.heap.size, 1, none⟩ = some (.int .i64 p.l) := (new3 wr _ _ _ _).2.1
      have n1 : (wr.alloc (.cells #[Value.int .i64 p.k, .int .i64 p.l, .int .i64 p.r] 89)).cell? ⟨wr.heap.size, 2, none⟩ = some (.int .i64 p.r) := (new3 wr _ _ _ _).2.2
      have HFV := hide hZ.fv
      obtain ⟨ba, hba⟩ : ∃ ba, ba = s.b p.l := ⟨_, rfl⟩
      obtain ⟨bb, hbb⟩ : ∃ bb, bb = s.b p.r := ⟨_, rfl⟩
      rw [← hba] at hql
      rw [← hbb] at hqr
      have HBA := hide hba
      have HBB := hide hbb
      have HB := hide hbl
      have HBz := hide (hbl.alloc hbl.size (.cells #[Value.int .i64 p.k, .int .i64 p.l, .int .i64 p.r] 89))
      clear hba hbb hp hbl hZ
      by_cases hlr : p.l = p.r
      · have he : ((p.l : Int) == (p.r : Int)) = true := by rw [nat_beq]; simpa using hlr
        have HE : Hid (apB V T s = false) := hide (apB_no hlt (by rw [← unhide HP]; unfold apP; rw [hlr]; simp))
        clear hlr
        go_wp2_with fail
        go_ret
        exact ⟨by rw [unhide HE]; rfl, unhide HBz⟩
      · have he : ((p.l : Int) == (p.r : Int)) = false := by rw [nat_beq]; simpa using hlr
        have HLR := hide hlr
        clear hlr
        have HRo : Hid (∀ n, apP V s p = true → (∃ k_1 : Nat, k_1 ≤ T.ap.length ∧ Value.int IntKind.i64 ((k : Int) + 1) = Value.int IntKind.i64 k_1 ∧ Hid (∀ (j : Nat) (hj : j < T.ap.length), j < k_1 → apP V s T.ap[j] = true) ∧ Below w.heap.size w ((wr.alloc (Obj.cells #[Value.int IntKind.i64 p.k, Value.int IntKind.i64 p.l, Value.int IntKind.i64 p.r] 89)).drewN n)) ∧ T.ap.length - (intOf (Value.int IntKind.i64 ((k : Int) + 1))).toNat < T.ap.length - (intOf (Value.int IntKind.i64 (k : Int))).toNat) := hide (fun n h =>
          ⟨⟨k + 1, by omega, by go_num, hide (fun j hj hjk => by
            by_cases e : j = k
            · subst e; rw [← unhide HP]; exact h
            · exact hall.out j hj (by omega)), ⟨(unhide HBz).os, (unhide HBz).tape, (unhide HBz).output, by simpa using (unhide HBz).size, fun k hk => by simpa using (unhide HBz).block k hk⟩⟩, by simp [intOf]; omega⟩)
        have hna := opI_none ba
        have hnb := opI_none bb
        cases hia : ba.isNone with
        | true =>
          rw [hia] at hna
          go_wp2_with fail
          go_quiet (fail)
          go_wp2_with fail
          go_quiet (fail)
          go_wp2_with fail
          refine unhide HRo _ ?_
          unfold apP
          rw [← unhide HBA, ← unhide HBB]
          cases ba with
          | none => simpa using unhide HLR
          | some _ => cases hia
        | false =>
          rw [hia] at hna
          cases hib : bb.isNone with
          | true =>
            rw [hib] at hnb
            go_wp2_with fail
            go_quiet (fail)
            go_wp2_with fail
            go_quiet (fail)
            go_wp2_with fail
            refine unhide HRo _ ?_
            unfold apP
            rw [← unhide HBA, ← unhide HBB]
            cases bb with
            | none => cases ba <;> simpa using unhide HLR
            | some _ => cases hib
          | false =>
            rw [hib] at hnb
            cases ba with
            | none => cases hia
            | some a =>
              cases bb with
              | none => cases hib
              | some b =>
                rw [show opI (some a) = (a : Int) from rfl] at hql hna
                rw [show opI (some b) = (b : Int) from rfl] at hqr hnb
                have HAp : Hid (apP V s p = difB V a b) := hide (by
                  unfold apP
                  rw [← unhide HBA, ← unhide HBB]
                  have : (p.l != p.r) = true := by rw [bne_iff_ne]; exact unhide HLR
                  rw [this]; rfl)
                go_wp2_with fail
                go_quiet (fail)
                go_wp2_with fail
                go_quiet (fail)
                go_wp2_with fail
                refine (differ_any a b ((unhide HFV).drewN _)).mono ?_
                rintro e w3 ⟨rfl, hb3⟩
                have HB3 : Hid (Below w.heap.size w w3) := hide (by
                  have hz := unhide HBz
                  have hs := hb3.size
                  have hs2 := hz.size
                  refine ⟨hb3.os.trans hz.os, hb3.tape.trans hz.tape, hb3.output.trans hz.output, ?_, fun k hk => ?_⟩
                  · simp only [World.heap_drewN] at hs
                    omega
                  · refine (hb3.block k (by simp only [World.heap_drewN]; omega)).trans ?_
                    rw [World.heap_drewN]; exact hz.block k hk)
                clear hb3
                cases hdf : difB V a b with
                | true =>
                  go_wp2_with fail
                  go_roundw
                  case rel =>
                    refine ⟨k + 1, by omega, by go_num, hide (fun j hj hjk => ?_), unhide HB3⟩
                    by_cases e : j = k
                    · subst e; rw [← unhide HP, unhide HAp]; exact hdf
                    · exact hall.out j hj (by omega)
                  case measure => simp [intOf]; omega
                | false =>
                  have HE : Hid (apB V T s = false) := hide (apB_no hlt (by rw [← unhide HP, unhide HAp]; exact hdf))
                  go_wp2_with fail
                  go_ret
                  exact ⟨by rw [unhide HE]; rfl, unhide HB3⟩
    · have hd : decide ((k : Int) < (T.ap.length : Int)) = false := by simp; omega
      have HE : Hid (apB V T s = true) := hide (apB_all (fun j hj => hall.out j hj (by omega)))
      go_wp2_with fail
      go_ret
      exact ⟨by rw [unhide HE]; rfl, hbl⟩
end Go.Proofs.Ytciihepbeacppaa

namespace Go.Proofs.Ytciihepbeacppaa
open Go.RowKit

/-! ### choose -/
theorem range_drop {n k : Nat} (h : k < n) : (List.range n).drop k = k :: (List.range n).drop (k + 1) := by
  have hl : k < (List.range n).length := by simpa using h
  rw [List.drop_eq_getElem_cons hl]
  simp
theorem opI_lt (o : Option Nat) : decide (opI o < (0 : Int)) = o.isNone := by
  cases o with
  | none => rfl
  | some n => exact decide_eq_false (by show ¬ ((n : Int) < 0); omega)

set_option maxRecDepth 100000 in
set_option maxHeartbeats 8000000 in
theorem choose_any {y : Lay} {T V : CF} (hT : Rm T) {w : World} {s : SS} (h : Sw w y T V s) (hlp : s.pl.length = T.ow.length) :
    Calls Try.prog 55 #[.pointer (some ⟨y.q, 0, none⟩)] w fun e w' => e = .returned (.int .i64 (opI (chs T s))) ∧ ∃ n, w' = w.drewN n := by
  have HS := hide h
  clear h
  have hcap : ∃ ao cap, y.pv = .slice ao s.pl.length cap ∧ cap ≤ 9223372036854775807 ∧ s.pl.length ≤ cap := by
    rcases (unhide HS).pl.2 with ⟨h1, h0⟩ | ⟨O, cap, cur, hv, _, _, hnc, hm, _⟩
    · exact ⟨none, 0, by rw [h1, h0], by omega, by omega⟩
    · exact ⟨_, cap, hv, by unfold maxLen at hm; omega, hnc⟩
  obtain ⟨ao, pcap, hpv, hpm, hpn⟩ := hcap
  go_enter Try.func55, Try.ntmps55
  go_wp2_with fail
  go_loopw [3, 4] (fun o i wr => ∃ (k : Nat) (op : Option Nat), k ≤ s.pl.length ∧ o = .int .i64 (opI op) ∧ i = .int .i64 k ∧ Hid (chF T s ((List.range s.pl.length).drop k) op = chs T s) ∧ ∃ n, wr = w.drewN n) (fun _ i _ => s.pl.length - (intOf i).toNat)
  case atStart => exact ⟨0, none, Nat.zero_le _, rfl, rfl, hide rfl, 0, rfl⟩
  case round =>
    obtain ⟨k, op, hk, rfl, rfl, hch, n, rfl⟩ := hrel
    have hSn := unhide HS
    have hcp := hSn.cp
    rw [hpv] at hcp
    have HPV := hide hpv
    by_cases hlt : k < s.pl.length
    · obtain ⟨L, lcap, hL, -, -, -, -⟩ := hSn.plc (by intro e; rw [e] at hlt; simp at hlt)
      obtain ⟨hpk, -⟩ := hSn.pcell hL hlt
      have hkT : k < T.ow.length := by rw [← hlp]; exact hlt
      obtain ⟨tg, tcap, htov, htm, htn⟩ := own_formP hSn.ft.ow hkT
      obtain ⟨hT6, -, hTl, -⟩ := hSn.tcell htov hkT
      have hct := hSn.c1
      obtain ⟨left, hle⟩ : ∃ left, left = (T.ow.getD k pr0).l := ⟨_, rfl⟩
      have hl24 : left < 24 := by rw [hle]; exact (hT.at k).1
      rw [← hle] at hTl
      have hcb := hSn.cb hl24
      obtain ⟨bl, hbl⟩ : ∃ bl, bl = s.b left := ⟨_, rfl⟩
      rw [← hbl] at hcb
      rw [hL] at hpv
      have hao : ao = some ⟨L, 0, none⟩ ∧ pcap = lcap := by injection hpv with e1 _ e2; exact ⟨e1.symm, e2.symm⟩
      rw [hao.1, hao.2] at hcp
      have hpm' : lcap ≤ 9223372036854775807 := by omega
      have hpn' : s.pl.length ≤ lcap := by omega
      obtain ⟨pb, hpb⟩ : ∃ pb, pb = s.pl.getD k false := ⟨_, rfl⟩
      rw [← hpb] at hpk
      have hst : chF T s ((List.range s.pl.length).drop k) op = if pb = true then chF T s ((List.range s.pl.length).drop (k + 1)) op else if bl.isSome = true then some k else chF T s ((List.range s.pl.length).drop (k + 1)) (if op.isSome = true then op else some k) := by
        rw [range_drop hlt]
        simp only [chF]
        rw [← hpb, ← hle, ← hbl]
      rw [unhide hch] at hst
      have HST := hide hst
      have HLE := hide hle
      have HBL := hide hbl
      have HPB := hide hpb
      have HTO := hide htov
      have HL := hide hL
      have hn1 := opI_neg bl
      have hn2 := opI_lt op
      clear hst hle hbl hpb htov hL hpv hSn hao hch
      cases pb with
      | true =>
        go_wp2_with fail
        go_roundw
        case rel => exact ⟨k + 1, op, by omega, rfl, by go_num, hide ((unhide HST).symm), n, rfl⟩
        case measure => simp [intOf]; omega
      | false =>
        cases hbs : bl.isSome with
        | true =>
          rw [hbs] at hn1
          go_wp2_with fail
          go_quiet (fail)
          go_wp2_with fail
          go_ret
          refine ⟨?_, n + _, World.drewN_drewN _ _ _⟩
          rw [unhide HST, hbs]
          rfl
        | false =>
          rw [hbs] at hn1
          cases hop : op.isNone with
          | true =>
            rw [hop] at hn2
            go_wp2_with fail
            go_quiet (fail)
            go_wp2_with fail
            go_roundw
            case rel =>
              refine ⟨k + 1, some k, by omega, rfl, by go_num, hide ?_, _, rfl⟩
              have := unhide HST
              rw [hbs] at this
              simp only [Bool.false_eq_true, if_false] at this
              rw [this]
              cases op with
              | none => rfl
              | some _ => cases hop
            case measure => simp [intOf]; omega
          | false =>
            rw [hop] at hn2
            go_wp2_with fail
            go_quiet (fail)
            go_wp2_with fail
            go_roundw
            case rel =>
              refine ⟨k + 1, op, by omega, rfl, by go_num, hide ?_, _, rfl⟩
              have := unhide HST
              rw [hbs] at this
              simp only [Bool.false_eq_true, if_false] at this
              rw [this]
              cases op with
              | none => cases hop
              | some _ => rfl
            case measure => simp [intOf]; omega
    · have hd : decide ((k : Int) < (s.pl.length : Int)) = false := by simp; omega
      have HE : Hid (chs T s = op) := hide (by
        rw [← unhide hch, List.drop_of_length_le (by simp; omega)]; rfl)
      clear hSn hpv hch
      go_wp2_with fail
      go_ret
      exact ⟨by rw [unhide HE]; rfl, n, rfl⟩
end Go.Proofs.Ytciihepbeacppaa

namespace Go.Proofs.Ytciihepbeacppaa
open Go.RowKit

/-! ### place -/
theorem plL_step {W : SS → Nat → Nat → Nat → Bool × SS} {k left count : Nat} {l : List Pr} {i : Nat} (hi : i < l.length) {s : SS} {r : Bool × SS} (hr : r = W { s with bd := s.bd.set left (some (l.getD i pr0).l) } k (l.getD i pr0).l count) :
    plL W k left count (l.drop i) s = if r.1 = true then (true, r.2) else plL W k left count (l.drop (i + 1)) r.2 := by
  rw [List.drop_eq_getElem_cons hi]
  have e : l[i] = l.getD i pr0 := by simp [hi]
  rw [e]
  simp only [plL]
  rw [← hr]
  obtain ⟨b, s'⟩ := r
  cases b <;> rfl

set_option maxRecDepth 100000 in
set_option maxHeartbeats 8000000 in
theorem place_step {y : Lay} {T V : CF} (hT : Rm T) (hA : RmA T) (hTl : T.ow.length ≤ 1000000) (hVl : V.ow.length ≤ 1000000) {m : Nat} (hW : WkC y T V m (wk V T m)) : PlC y T V m (plF (wk V T m) V T) := by
  intro w s count h hw hm hc
  have hcl : count ≤ T.ow.length := by omega
  have hct := h.c1
  have hcu := h.cu
  have hT6 := h.ft.c6
  have hcap : ∃ ao cap, y.tov = .slice ao T.ow.length cap ∧ cap ≤ 9223372036854775807 ∧ T.ow.length ≤ cap := by
    obtain ⟨ao, cap, hv, hm, hn, _⟩ := pr_of_own h.ft.ow
    exact ⟨ao, cap, hv, by unfold maxLen at hm; omega, hn⟩
  obtain ⟨tao, tcap, htov, htm, htn⟩ := hcap
  rw [htov] at hT6
  have hun2 : s.un ≤ 1000000 := by
    have h1 := hw.un
    have h2 : (frL s).length ≤ s.ot.length := by
      unfold frL
      have := List.length_filter_le (fun i => (s.ot.getD i none).isNone) (List.range s.ot.length)
      simpa using this
    have h3 := hw.lo
    omega
  have HS := hide h
  have HWF := hide hw
  have HC := hide hc
  have HM := hide hm
  have HWC := hide hW
  have HTO := hide htov
  clear h hw hc hm hW htov
  by_cases h0 : T.ow.length = count
  · have hz : ((T.ow.length : Int) - (count : Int) == 0) = true := by rw [beq_iff_eq]; omega
    have HE : Hid (plF (wk V T m) V T s count = (decide (s.un = 0) && apB V T s, s)) := hide (by unfold plF; rw [if_pos h0])
    have HA := hide (apart_any hA (unhide HS))
    clear h0
    by_cases hu0 : s.un = 0
    · have hu : ((s.un : Int) == 0) = true := by rw [beq_iff_eq]; omega
      have HU := hide hu0
      clear hu0
      go_enter Try.func44, Try.ntmps44
      go_wp2_with fail
      refine (unhide HA).mono ?_
      rintro e w1 ⟨rfl, hb1⟩
      have HB1 := hide hb1
      clear hb1
      go_wp2_with fail
      go_ret
      rw [unhide HE]
      exact ⟨by rw [unhide HU]; simp, (unhide HS).below (unhide HB1), Stp.ofBelow (unhide HB1)⟩
    · have hu : ((s.un : Int) == 0) = false := by rw [beq_eq_false_iff_ne]; omega
      have HU : Hid (decide (s.un = 0) = false) := hide (by simpa using hu0)
      clear hu0
      go_enter Try.func44, Try.ntmps44
      go_wp2_with fail
      go_ret
      rw [unhide HE]
      exact ⟨by rw [unhide HU]; rfl, unhide HS, Stp.refl _ _⟩
  · have hz : ((T.ow.length : Int) - (count : Int) == 0) = false := by rw [beq_eq_false_iff_ne]; omega
    by_cases h1 : s.un < T.ow.length - count
    · have hgt : decide ((s.un : Int) < (T.ow.length : Int) - (count : Int)) = true := by rw [decide_eq_true_eq]; omega
      have HE : Hid (plF (wk V T m) V T s count = (false, s)) := hide (by unfold plF; rw [if_neg h0, if_pos h1])
      clear h0 h1
      go_enter Try.func44, Try.ntmps44
      go_wp2_with fail
      go_ret
      rw [unhide HE]
      exact ⟨rfl, unhide HS, Stp.refl _ _⟩
    · have hgt : decide ((s.un : Int) < (T.ow.length : Int) - (count : Int)) = false := by rw [decide_eq_false_iff_not]; omega
      have HCh := hide (choose_any hT (unhide HS) (unhide HWF).lp)
      cases hch : chs T s with
      | none =>
        have HE : Hid (plF (wk V T m) V T s count = (false, s)) := hide (by unfold plF; rw [if_neg h0, if_neg h1, hch])
        rw [hch] at HCh
        clear h0 h1 hch
        go_enter Try.func44, Try.ntmps44
        go_wp2_with fail
        refine (unhide HCh).mono ?_
        rintro e w1 ⟨rfl, n, rfl⟩
        rw [show opI none = (-1 : Int) from rfl]
        go_wp2_with fail
        go_ret
        rw [unhide HE]
        exact ⟨rfl, (unhide HS).drewN n, (Stp.refl _ _).drewN n⟩
      | some k =>
        have hk := chs_some hch
        have hkT : k < T.ow.length := by rw [← (unhide HWF).lp]; exact (uP_mem hk).1
        obtain ⟨tg, tcap2, htov2, -, -⟩ := own_formP (unhide HS).ft.ow hkT
        have htt : tao = some ⟨tg, 0, none⟩ := by
          have := (unhide HTO).symm.trans htov2
          injection this
        subst htt
        obtain ⟨-, -, hTl', -⟩ := (unhide HS).tcell (unhide HTO) hkT
        obtain ⟨left, hle⟩ : ∃ left, left = (T.ow.getD k pr0).l := ⟨_, rfl⟩
        have hl24 : left < 24 := by rw [hle]; exact (hT.at k).1
        rw [← hle] at hTl'
        have hcb := (unhide HS).cb hl24
        obtain ⟨bl, hbl⟩ : ∃ bl, bl = s.b left := ⟨_, rfl⟩
        rw [← hbl] at hcb
        have hk0 : decide ((k : Int) < 0) = false := by simp
        rw [hch] at HCh
        have HK := hide hk
        cases bl with
        | some a =>
          have HE : Hid (plF (wk V T m) V T s count = wk V T m s k a count) := hide (by
            unfold plF; rw [if_neg h0, if_neg h1, hch]; dsimp only; rw [← hle, ← hbl])
          rw [show opI (some a) = (a : Int) from rfl] at hcb
          have hna : ((a : Int) != -1) = true := opI_neg (some a)
          clear h0 h1 hch hle hbl hk htov2
          go_enter Try.func44, Try.ntmps44
          go_wp2_with fail
          refine (unhide HCh).mono ?_
          rintro e w1 ⟨rfl, n, rfl⟩
          rw [show opI (some k) = (k : Int) from rfl]
          go_wp2_with fail
          refine (unhide HWC _ s k a count ((unhide HS).drewN n) (unhide HWF) (unhide HM) (unhide HK) (unhide HC)).mono ?_
          rintro e w2 ⟨rfl, hS2, hT2⟩
          have HS2 := hide hS2
          have HT2 := hide (((Stp.refl y.fp w).drewN n).trans hT2)
          clear hS2 hT2
          go_wp2_with fail
          go_ret
          rw [unhide HE]
          exact ⟨rfl, unhide HS2, unhide HT2⟩
        | none =>
          have HE : Hid (plF (wk V T m) V T s count = plL (wk V T m) k left count V.ow s) := hide (by
            unfold plF; rw [if_neg h0, if_neg h1, hch]; dsimp only; rw [← hle, ← hbl])
          rw [show opI none = (-1 : Int) from rfl] at hcb
          have HBL := hide hbl
          clear h0 h1 hch hle hbl hk htov2
          have hcv := (unhide HS).cv
          go_enter Try.func44, Try.ntmps44
          go_wp2_with fail
          refine (unhide HCh).mono ?_
          rintro e w1 ⟨rfl, n, rfl⟩
          rw [show opI (some k) = (k : Int) from rfl]
          have hself : s.bd.set left none = s.bd := by
            have := set_getD s.bd left none
            rwa [show s.bd.getD left none = none from (unhide HBL).symm] at this
          have HSf := hide hself
          clear hself
          go_wp2_with fail
          go_loopw [9] (fun i wr => ∃ (j : Nat) (o : Option Nat) (st : Int), j ≤ V.ow.length ∧ i = .int .i64 j ∧ Hid (Sw wr y T V { s with bd := s.bd.set left o, st := st }) ∧ Hid (plL (wk V T m) k left count (V.ow.drop j) { s with bd := s.bd.set left o, st := st } = plL (wk V T m) k left count V.ow s) ∧ Hid (Stp y.fp w y.fp wr)) (fun i _ => V.ow.length - (intOf i).toNat)
          case atStart => exact ⟨0, none, s.st, Nat.zero_le _, rfl, hide (by rw [unhide HSf]; exact (unhide HS).drewN n), hide (by rw [unhide HSf]; rfl), hide ((Stp.refl _ _).drewN n)⟩
          case round =>
            obtain ⟨j, o, st, hj, rfl, hSj, hpj, hTj⟩ := hrel
            have hcvj := (unhide hSj).cv
            have hV6 := (unhide hSj).fv.c6
            obtain ⟨vao, vcap, hvov, hvm', hvn, -⟩ := pr_of_own (unhide hSj).fv.ow
            have hvm : vcap ≤ 9223372036854775807 := by unfold maxLen at hvm'; omega
            rw [hvov] at hV6
            have HVO := hide hvov
            clear hvov hvm'
            by_cases hlt : j < V.ow.length
            · have hd : decide ((j : Int) < (V.ow.length : Int)) = true := by simp; omega
              obtain ⟨vg, vcap2, hvov2, -, -⟩ := own_formP (unhide hSj).fv.ow hlt
              have htt : vao = some ⟨vg, 0, none⟩ := by
                have := (unhide HVO).symm.trans hvov2
                injection this
              subst htt
              clear hvov2
              obtain ⟨-, -, hVl', -⟩ := (unhide hSj).vcell (unhide HVO) hlt
              obtain ⟨vl, hvl⟩ : ∃ vl, vl = (V.ow.getD j pr0).l := ⟨_, rfl⟩
              rw [← hvl] at hVl'
              have hfz := (unhide hSj).frz (26 + left)
              have hcbj := (unhide hSj).cb hl24
              obtain ⟨u0, hu0⟩ : ∃ u0, u0 = opI (({ s with bd := s.bd.set left o, st := st } : SS).b left) := ⟨_, rfl⟩
              rw [← hu0] at hcbj
              clear hu0
              have hs1 := (unhide hSj).setB hl24 (some vl)
              rw [show opI (some vl) = (vl : Int) from rfl] at hs1
              simp only [List.set_set] at hs1
              have hcv1 := hs1.cv
              obtain ⟨hV61, -, hVl1, -⟩ := hs1.vcell (unhide HVO) hlt
              rw [← hvl] at hVl1
              have HS1 := hide hs1
              have HVL := hide hvl
              clear hs1 hvl
              have hwf1 : Wf V T { s with bd := s.bd.set left (some vl), st := st } := ⟨(unhide HWF).lo, (unhide HWF).lp, by simpa using (unhide HWF).lb, (unhide HWF).un⟩
              obtain ⟨r, hr⟩ : ∃ r, r = wk V T m { s with bd := s.bd.set left (some vl), st := st } k vl count := ⟨_, rfl⟩
              have HOK := hide (wk_ok (V := V) hT m { s with bd := s.bd.set left (some vl), st := st } k vl count hwf1 (unhide HK) (unhide HC) _ _ hr.symm)
              have HWk := hide (fun w' (hs : Sw w' y T V { s with bd := s.bd.set left (some vl), st := st }) => unhide HWC w' _ k vl count hs hwf1 (unhide HM) (unhide HK) (unhide HC))
              rw [← hr] at HWk
              have HPl : Hid (plL (wk V T m) k left count V.ow s = if r.1 = true then (true, r.2) else plL (wk V T m) k left count (V.ow.drop (j + 1)) r.2) := hide (by
                rw [← unhide hpj]
                refine plL_step hlt ?_
                rw [hr, ← unhide HVL]
                simp only [List.set_set])
              have HTs : Hid (Stp y.fp w y.fp (wr.setCell ⟨y.q, 26 + left, none⟩ (.int .i64 (vl : Int)))) := hide ((unhide hTj).setCell (Or.inl (Sw.memQ y)) _)
              clear hwf1 hr hSj hpj hTj
              go_wp2_with fail
              go_region
              go_wp2_with fail
              refine (unhide HWk (wr.setCell ⟨y.q, 26 + left, none⟩ (.int .i64 (vl : Int))).drew ((unhide HS1).of_eq (fun _ _ => rfl))).mono ?_
              rintro e w5 ⟨rfl, hS5, hT5⟩
              have HT5 : Hid (Stp y.fp w y.fp w5) := hide ((unhide HTs).trans ⟨hT5.os, hT5.tape, hT5.output, hT5.size, hT5.block, hT5.foot⟩)
              obtain ⟨b5, s5⟩ := r
              cases b5 with
              | true =>
                have HS5 := hide hS5
                clear hS5 hT5
                go_wp2_with fail
                go_ret
                rw [unhide HE, unhide HPl]
                exact ⟨rfl, unhide HS5, unhide HT5⟩
              | false =>
                have hs5 := (unhide HOK).1 rfl
                dsimp only at hS5 hs5
                have HS5 := hide hS5
                have HS5e := hide hs5
                clear hS5 hT5 hs5
                go_wp2_with fail
                go_roundw
                case rel =>
                  refine ⟨j + 1, some vl, s5.st, by omega, by go_num, hide ?_, hide ?_, HT5⟩
                  · rw [← unhide HS5e]; exact unhide HS5
                  · rw [← unhide HS5e, unhide HPl]; rfl
                case measure => simp [intOf]; omega
            · have hd : decide ((j : Int) < (V.ow.length : Int)) = false := by simp; omega
              have hfz := (unhide hSj).frz (26 + left)
              have hcbj := (unhide hSj).cb hl24
              obtain ⟨u0, hu0⟩ : ∃ u0, u0 = opI (({ s with bd := s.bd.set left o, st := st } : SS).b left) := ⟨_, rfl⟩
              rw [← hu0] at hcbj
              clear hu0
              have hs1 := (unhide hSj).setB hl24 none
              rw [show opI none = (-1 : Int) from rfl] at hs1
              simp only [List.set_set] at hs1
              have HS1 := hide hs1
              have HTs : Hid (Stp y.fp w y.fp (wr.setCell ⟨y.q, 26 + left, none⟩ (.int .i64 (-1)))) := hide ((unhide hTj).setCell (Or.inl (Sw.memQ y)) _)
              have HPl : Hid (plL (wk V T m) k left count V.ow s = (false, { s with bd := s.bd.set left none, st := st })) := hide (by
                rw [← unhide hpj, List.drop_of_length_le (by omega)]
                simp only [plL, List.set_set])
              clear hs1 hSj hpj hTj
              go_wp2_with fail
              go_ret
              rw [unhide HE, unhide HPl]
              exact ⟨rfl, unhide HS1, unhide HTs⟩
end Go.Proofs.Ytciihepbeacppaa
