import Derived.Test.YtciihepbeacppaaML
import Derived.Test.YtciihepbeacppaaMI
namespace Go.Proofs.Ytciihepbeacppaa
open Go.RowKit

/-! ### two texts are read -/
theorem foG_len (ws : List ByteArray) (n : Nat) : ∀ s, (foG ws n s).1.length ≤ n := by
  induction n with
  | zero => intro s; simp [foG]
  | succ n ih =>
    intro s
    unfold foG
    split
    · have := ih (atS ws s.adv)
      simp only [List.length_cons]
      omega
    · simp
theorem foA_len (ws : List ByteArray) (s : PS) : (foA ws s).length ≤ ws.length + 2 := by
  have := foG_len ws (ws.length + 1) (atS ws s)
  unfold foA
  simp only [List.length_cons]
  omega
theorem sta_of {s : PS} (hf : s.failed = false) (hn : s.nodes = []) : ({ s with pos := 0, hid := [] } : PS) = sta s.vars := by
  cases s; simp only at hf hn; subst hf; subst hn; rfl
theorem txE_long {v l : List UInt8} (h : 240 < l.length) : txE v l = 1 := by unfold txE; rw [if_pos h]
theorem txE_lex {v l : List UInt8} (h : ¬ 240 < l.length) (h2 : spl l = none) : txE v l = 2 := by unfold txE; rw [if_neg h, if_pos h2]
theorem txE_syn {v l : List UInt8} (h : ¬ 240 < l.length) (h2 : spl l ≠ none) (h3 : (txS v l).failed = true) : txE v l = 3 := by unfold txE; rw [if_neg h, if_neg h2, if_pos h3]
theorem txE_zero {v l : List UInt8} (h : ¬ 240 < l.length) (h2 : spl l ≠ none) (h3 : (txS v l).failed = false) : txE v l = 0 := by unfold txE; rw [if_neg h, if_neg h2, if_neg (by simp [h3])]

set_option maxRecDepth 100000 in
set_option maxHeartbeats 4000000 in
theorem ptext_any (x : ByteArray) (hx : x.size ≤ 20000) {B : Nat} {WV : Value} {w : World} {P : Nat} {ws : List ByteArray} {s : PS} {F : List Nat} (h : IsQ B WV w P ws s F) (hv : s.vars.length ≤ 240) (hf : s.failed = false) (hn : s.nodes = []) :
    Calls Try.prog 13 #[.pointer (some ⟨P, 0, none⟩), .string x] w fun e w' => ∃ F', Stp F w F' w' ∧
      ((txE s.vars x.data.toList ≠ 0 ∧ e = .returned (.tuple #[.slice none 0 0, .int .i64 (txE s.vars x.data.toList)])) ∨
       (txE s.vars x.data.toList = 0 ∧ ∃ v av, e = .returned (.tuple #[av, .int .i64 0]) ∧ IsQ B v w' P (rdW x.data.toList) (txS s.vars x.data.toList) F' ∧
         w'.ownsRow w.heap.size 86 5 av (foA (rdW x.data.toList) (sta s.vars)).length (atCells (foA (rdW x.data.toList) (sta s.vars))) ∧ (∀ k, av.ownBlock = some k → k ∉ F') ∧ (rdW x.data.toList).length ≤ 240 ∧ (txS s.vars x.data.toList).failed = false)) := by
  have HSt := hide (sta_of hf hn)
  have HO := hide (open_any x hx h hv)
  have HM := hide h.m.mem
  clear h hf hn
  go_enter Try.func13, Try.ntmps13
  go_wp2_with fail
  refine (unhide HO).mono ?_
  rintro e w1 ⟨F1, hS1, (⟨hlong, rfl⟩ | ⟨hlong, hnone, rfl⟩ | ⟨hlong, ws1, v, hsome, rfl, hq⟩)⟩
  · have HE : Hid (txE s.vars x.data.toList = 1) := hide (txE_long (by rw [size_toList]; exact hlong))
    have HS1 := hide hS1
    clear hlong hS1 HO
    go_wp2_with fail
    go_ret2
    exact ⟨F1, unhide HS1, Or.inl ⟨by rw [unhide HE]; decide, by rw [unhide HE]; rfl⟩⟩
  · have HE : Hid (txE s.vars x.data.toList = 2) := hide (txE_lex (by rw [size_toList]; exact hlong) hnone)
    have HS1 := hide hS1
    clear hlong hS1 HO hnone
    go_wp2_with fail
    go_ret2
    exact ⟨F1, unhide HS1, Or.inl ⟨by rw [unhide HE]; decide, by rw [unhide HE]; rfl⟩⟩
  · have HL : Hid (¬ 240 < x.data.toList.length) := hide (by rw [size_toList]; exact hlong)
    have HW : Hid (rdW x.data.toList = ws1) := hide (rdW_of hsome)
    have HNN : Hid (spl x.data.toList ≠ none) := hide (by rw [hsome]; simp)
    have HLen := hide (rdW_len hsome).1
    rw [unhide HSt] at hq
    have HQ := hide hq
    have HS1 := hide hS1
    clear hlong hsome hq hS1 HO
    go_wp2_with fail
    refine (formula_any (unhide HQ)).mono ?_
    rintro e w2 ⟨av, F2, rfl, hI2, hS2, hown2, hout2⟩
    have HI2 := hide hI2
    have HS2 := hide ((unhide HS1).trans hS2)
    have HOw := hide hown2
    have HOut := hide hout2
    have hsz1 := (unhide HS1).size
    clear hI2 hS2 hown2 hout2
    go_wp2_with fail
    refine (finish_any (unhide HI2)).mono ?_
    rintro e w3 ⟨rfl, hI3, hS3⟩
    have HT : Hid (txS s.vars x.data.toList = finS ws1 (foS ws1 (sta s.vars))) := hide (by unfold txS; rw [unhide HW])
    have HOw3 := hide (ownsRow_of_eq (unhide HOw) (fun k hk => hS3.block k ((unhide HOw).lt k hk).2 (unhide HOut k hk)))
    have HS3 := hide ((unhide HS2).trans hS3)
    obtain ⟨st, hst⟩ : ∃ st, st = finS ws1 (foS ws1 (sta s.vars)) := ⟨_, rfl⟩
    rw [← hst] at hI3 HT
    have HI3 := hide hI3
    obtain ⟨wv, vv, hv', nv, hpv⟩ := hI3.m.named
    obtain ⟨-, c2, -, -, -, -⟩ := hpv.readsV
    obtain ⟨ao, cap, hao⟩ := slice_of_own (unhide HOw3)
    clear hI3 hS3 hst hpv HI2 HQ HOw HS2
    cases hfd : st.failed with
    | true =>
      rw [hfd] at c2
      have HE : Hid (txE s.vars x.data.toList = 3) := hide (txE_syn (unhide HL) (unhide HNN) (by rw [unhide HT]; exact hfd))
      clear hfd
      go_wp2_with fail
      go_ret2
      exact ⟨F2, unhide HS3, Or.inl ⟨by rw [unhide HE]; decide, by rw [unhide HE]; rfl⟩⟩
    | false =>
      rw [hfd] at c2
      have HFd := hide hfd
      have HE : Hid (txE s.vars x.data.toList = 0) := hide (txE_zero (unhide HL) (unhide HNN) (by rw [unhide HT]; exact hfd))
      clear hfd
      go_wp2_with fail
      go_ret2
      have hl1 := unhide HLen
      have hl2 := unhide HL
      refine ⟨F2, unhide HS3, Or.inr ⟨unhide HE, v, av, by rw [hao]; rfl, ?_, ?_, unhide HOut, ?_, ?_⟩⟩
      · rw [unhide HT, unhide HW]; exact unhide HI3
      · rw [unhide HW]; exact rowBase (unhide HOw3) hsz1
      · rw [unhide HW]; omega
      · rw [unhide HT]; exact unhide HFd

theorem tx_vars {v l : List UInt8} (h : (txS v l).failed = false) : (txS v l).vars.length ≤ v.length + (rdW l).length := by
  have h1 := (tx_ok h).1
  have h2 := nmI_len (v.map one1) (rdW l) (rdW l).length
  rw [← h1, List.length_map, List.length_map] at h2
  exact h2
theorem fin_nodes (ws : List ByteArray) (s : PS) : (finS ws s).nodes = s.nodes := by unfold finS; split <;> rfl
theorem twE_first {a c : List UInt8} (h : txE [] a ≠ 0) : twE a c = txE [] a := by unfold twE; rw [if_pos h]
theorem twE_second {a c : List UInt8} (h : txE [] a = 0) (h2 : txE (tw1 a).vars c ≠ 0) : twE a c = txE (tw1 a).vars c := by unfold twE; rw [if_neg (by simp [h]), if_pos h2]
theorem twE_names {a c : List UInt8} (h : txE [] a = 0) (h2 : txE (tw1 a).vars c = 0) (h3 : 4 < (tw2 a c).vars.length ∨ 8 < (tw1 a).hid.length ∨ 8 < (tw2 a c).hid.length) : twE a c = 4 := by unfold twE; rw [if_neg (by simp [h]), if_neg (by simp [h2]), if_pos h3]
theorem twE_good {a c : List UInt8} (h : txE [] a = 0) (h2 : txE (tw1 a).vars c = 0) (h3 : ¬ (4 < (tw2 a c).vars.length ∨ 8 < (tw1 a).hid.length ∨ 8 < (tw2 a c).hid.length)) : twE a c = 0 := by unfold twE; rw [if_neg (by simp [h]), if_neg (by simp [h2]), if_neg h3]

set_option maxRecDepth 100000 in
set_option maxHeartbeats 4000000 in
theorem readTwo_any (a c : ByteArray) (w : World) (ha : a.size ≤ 20000) (hc : c.size ≤ 20000) :
    Calls Try.prog 8 #[.string a, .string c] w fun e w' => Below w.heap.size w w' ∧
      ((twE a.data.toList c.data.toList ≠ 0 ∧ e = .returned (.tuple #[.slice none 0 0, .slice none 0 0, .int .i64 (twE a.data.toList c.data.toList)])) ∨
       (twE a.data.toList c.data.toList = 0 ∧ ∃ v1 v2, e = .returned (.tuple #[v1, v2, .int .i64 0]) ∧
         w'.ownsRow w.heap.size 86 5 v1 (twA a.data.toList).length (atCells (twA a.data.toList)) ∧
         w'.ownsRow w.heap.size 86 5 v2 (twB a.data.toList c.data.toList).length (atCells (twB a.data.toList c.data.toList)) ∧
         (twA a.data.toList).length ≤ 242 ∧ (twB a.data.toList c.data.toList).length ≤ 242 ∧ (tw1 a.data.toList).failed = false ∧ (tw2 a.data.toList c.data.toList).failed = false)) := by
  have HQ0 := hide (isP_new w w.heap.size (Nat.le_refl _))
  go_enter Try.func8, Try.ntmps8
  go_wp2_with fail
  refine (ptext_any a ha (unhide HQ0) (by simp [ini]) rfl rfl).mono ?_
  rintro e w1 ⟨F1, hS1, (⟨hbad, rfl⟩ | ⟨hok, v1, av1, rfl, hq1, hown1, hout1, hl1, hf1⟩)⟩
  · have HB1 : Hid (Below w.heap.size w w1) := hide (((Stp.refl [w.heap.size] w).alloc ini0).trans hS1 |>.below (Nat.le_refl _) (by simp))
    obtain ⟨ee, hee⟩ : ∃ ee, ee = txE ini.vars a.data.toList := ⟨_, rfl⟩
    have HE : Hid (twE a.data.toList c.data.toList = ee) := hide (by rw [hee]; exact twE_first hbad)
    rw [← hee] at hbad ⊢
    have hne : ¬ ((ee : Int) = 0) := by omega
    clear hS1 hee
    go_wp2_with fail
    go_ret3
    exact ⟨unhide HB1, Or.inl ⟨by rw [unhide HE]; exact hbad, by rw [unhide HE]; rfl⟩⟩
  · have HE1 : Hid (txE [] a.data.toList = 0) := hide hok
    have hvl : (tw1 a.data.toList).vars.length ≤ 240 := by
      have h1 : (txS [] a.data.toList).vars.length ≤ ([] : List UInt8).length + _ := tx_vars hf1
      rw [List.length_nil] at h1
      show (txS [] a.data.toList).vars.length ≤ 240
      omega
    have HF1 : Hid ((tw1 a.data.toList).failed = false) := hide hf1
    have HL1 := hide hl1
    have HQ1 : Hid (IsQ w.heap.size v1 w1 w.heap.size (rdW a.data.toList) (tw1 a.data.toList) F1) := hide hq1
    have HOw1 : Hid (w1.ownsRow w.heap.size 86 5 av1 (twA a.data.toList).length (atCells (twA a.data.toList))) := hide (rowBase hown1 (by simp))
    have HOut := hide hout1
    have HS1 := hide (((Stp.refl [w.heap.size] w).alloc ini0).trans hS1)
    obtain ⟨wv, vv, hv', nv, hpv⟩ := hq1.m.named
    obtain ⟨-, -, -, c4, -, -⟩ := hpv.readsV
    obtain ⟨a4, k4, rfl⟩ := slice_of_own hpv.2.2.2.2.1
    obtain ⟨ao1, cap1, hao1⟩ := slice_of_own (unhide HOw1)
    rw [show txS ini.vars a.data.toList = tw1 a.data.toList from rfl] at c4
    have HNd : Hid ((tw1 a.data.toList).nodes = []) := hide (by
      show (finS _ _).nodes = []
      rw [fin_nodes, par_for.nd]
      rfl)
    have HP2 := hide (ptext_any c hc (unhide HQ1) hvl (unhide HF1) (unhide HNd))
    obtain ⟨T1, hT1⟩ : ∃ T1, T1 = tw1 a.data.toList := ⟨_, rfl⟩
    obtain ⟨al, hal⟩ : ∃ al, al = twA a.data.toList := ⟨_, rfl⟩
    have HT1 := hide hT1
    have HAl := hide hal
    rw [← hT1] at c4 hvl HF1 HQ1 HP2
    rw [← hal] at HOw1 hao1
    clear hpv hok hf1 hl1 hq1 hown1 hout1 hS1 HQ0 hT1 hal
    rw [hao1]
    go_wp2_with fail
    refine (unhide HP2).mono ?_
    rintro e w2 ⟨F2, hS2, (⟨hbad, rfl⟩ | ⟨hok, v2, av2, rfl, hq2, hown2, hout2, hl2, hf2⟩)⟩
    · have HB2 : Hid (Below w.heap.size w w2) := hide (((unhide HS1).trans hS2).below (Nat.le_refl _) (by simp))
      obtain ⟨ee, hee⟩ : ∃ ee, ee = txE T1.vars c.data.toList := ⟨_, rfl⟩
      have HE : Hid (twE a.data.toList c.data.toList = ee) := hide (by rw [hee, unhide HT1]; exact twE_second (unhide HE1) (by rw [← unhide HT1]; exact hbad))
      rw [← hee] at hbad ⊢
      have hne : ¬ ((ee : Int) = 0) := by omega
      clear hS2 hee HP2
      go_wp2_with fail
      go_ret3
      exact ⟨unhide HB2, Or.inl ⟨by rw [unhide HE]; exact hbad, by rw [unhide HE]; rfl⟩⟩
    · have HB2 : Hid (Below w.heap.size w w2) := hide (((unhide HS1).trans hS2).below (Nat.le_refl _) (by simp))
      have HOw1' := hide (ownsRow_of_eq (unhide HOw1) (fun k hk => hS2.block k ((unhide HOw1).lt k hk).2 (unhide HOut k hk)))
      have hsz1 := (unhide HS1).size
      have HOw2 := hide (rowBase hown2 hsz1)
      obtain ⟨wv2, vv2, hv2, nv2, hpv⟩ := hq2.m.named
      obtain ⟨-, -, d3, d4, -, -⟩ := hpv.readsV
      obtain ⟨e3, j3, rfl⟩ := slice_of_own hpv.2.2.2.1
      obtain ⟨e4, j4, rfl⟩ := slice_of_own hpv.2.2.2.2.1
      obtain ⟨T2, hT2⟩ : ∃ T2, T2 = txS T1.vars c.data.toList := ⟨_, rfl⟩
      have HT2 : Hid (T2 = tw2 a.data.toList c.data.toList) := hide (by rw [hT2, unhide HT1]; rfl)
      obtain ⟨bl, hbl⟩ : ∃ bl, bl = foA (rdW c.data.toList) (sta T1.vars) := ⟨_, rfl⟩
      have HBl : Hid (bl = twB a.data.toList c.data.toList) := hide (by rw [hbl, unhide HT1]; rfl)
      have HE2 : Hid (txE (tw1 a.data.toList).vars c.data.toList = 0) := hide (by rw [← unhide HT1]; exact hok)
      rw [← hT2] at d3 d4 hf2
      rw [← hbl] at HOw2
      obtain ⟨ao2, cap2, hao2⟩ := slice_of_own (unhide HOw2)
      have HF2 := hide hf2
      have HLa : Hid (al.length ≤ 242) := hide (by
        rw [unhide HAl]
        have h1 := foA_len (rdW a.data.toList) (sta [])
        have h2 := unhide HL1
        show (foA (rdW a.data.toList) (sta [])).length ≤ 242
        omega)
      have HLb : Hid (bl.length ≤ 242) := hide (by
        rw [hbl]
        have h1 := foA_len (rdW c.data.toList) (sta T1.vars)
        omega)
      clear hpv hok hf2 hl2 hq2 hown2 hout2 hS2 hT2 hbl HP2 HOut
      rw [hao2]
      by_cases hbig : 4 < T2.vars.length ∨ 8 < T1.hid.length ∨ 8 < T2.hid.length
      · have HE : Hid (twE a.data.toList c.data.toList = 4) := hide (twE_names (unhide HE1) (unhide HE2) (by rw [← unhide HT2, ← unhide HT1]; exact hbig))
        by_cases b1 : 4 < T2.vars.length
        · clear hbig
          go_wp2_with fail
          go_ret3
          exact ⟨unhide HB2, Or.inl ⟨by rw [unhide HE]; decide, by rw [unhide HE]; rfl⟩⟩
        · have q1 : decide ((4 : Int) < (T2.vars.length : Int)) = false := by simp; omega
          by_cases b2 : 8 < T1.hid.length
          · clear hbig
            go_wp2_with fail
            go_ret3
            exact ⟨unhide HB2, Or.inl ⟨by rw [unhide HE]; decide, by rw [unhide HE]; rfl⟩⟩
          · have q2 : decide ((8 : Int) < (T1.hid.length : Int)) = false := by simp; omega
            have b3 : 8 < T2.hid.length := by omega
            clear hbig
            go_wp2_with fail
            go_ret3
            exact ⟨unhide HB2, Or.inl ⟨by rw [unhide HE]; decide, by rw [unhide HE]; rfl⟩⟩
      · have HE : Hid (twE a.data.toList c.data.toList = 0) := hide (twE_good (unhide HE1) (unhide HE2) (by rw [← unhide HT2, ← unhide HT1]; exact hbig))
        have q1 : decide ((4 : Int) < (T2.vars.length : Int)) = false := by simp; omega
        have q2 : decide ((8 : Int) < (T1.hid.length : Int)) = false := by simp; omega
        have q3 : decide ((8 : Int) < (T2.hid.length : Int)) = false := by simp; omega
        clear hbig
        go_wp2_with fail
        go_ret3
        rw [← unhide HBl, ← unhide HAl, ← unhide HT1, ← unhide HT2]
        exact ⟨unhide HB2, Or.inr ⟨unhide HE, _, _, rfl, by rw [← hao1]; exact unhide HOw1', by rw [← hao2]; exact unhide HOw2, unhide HLa, unhide HLb, unhide HF1, unhide HF2⟩⟩
end Go.Proofs.Ytciihepbeacppaa

namespace Go.Proofs.Ytciihepbeacppaa
open Go.RowKit

/-! ### Entails -/
theorem te_zero {ws : List ByteArray} {s : PS} (h : teK ws s = 0) : teI ws s = 0 := by
  unfold teK at h
  unfold teI
  by_cases hu : upB (pk ws s) = true
  · rw [if_pos hu] at h; cases h
  · rw [if_neg hu] at h ⊢
    unfold valK at h
    unfold valI
    by_cases hn : acB ws kNil s = true
    · rw [if_pos hn]
    · rw [if_neg hn] at h; cases h
def Zer (a : Atm) : Prop := (a.lk = 0 → a.li = 0) ∧ (a.rk = 0 → a.ri = 0)
theorem at_zer (ws : List ByteArray) (s : PS) : Zer (atA ws s) := by
  unfold atA
  split
  · exact ⟨fun _ => rfl, fun _ => rfl⟩
  · split
    · exact ⟨fun h => te_zero h, fun h => te_zero h⟩
    · exact ⟨fun h => te_zero h, fun h => te_zero h⟩
theorem foG_zer (ws : List ByteArray) (n : Nat) : ∀ s, ∀ a ∈ (foG ws n s).1, Zer a := by
  induction n with
  | zero => intro s a h; simp [foG] at h
  | succ n ih =>
    intro s a h
    unfold foG at h
    split at h
    · rcases List.mem_cons.1 h with rfl | h
      · exact at_zer ws _
      · exact ih _ a h
    · cases h
theorem foA_zer (ws : List ByteArray) (s : PS) : ∀ a ∈ foA ws s, Zer a := by
  intro a h
  rcases List.mem_cons.1 h with rfl | h
  · exact at_zer ws _
  · exact foG_zer ws _ _ a h
theorem bnd_of {vars hid : List UInt8} (hv : vars.length ≤ 4) (hh : hid.length ≤ 8) {al : List Atm} (ha : ∀ a ∈ al, AtOK vars hid a) (hz : ∀ a ∈ al, Zer a) : ∀ a ∈ al, a.lk ≤ 2 ∧ a.rk ≤ 2 ∧ a.li ≤ 100 ∧ a.ri ≤ 100 := by
  intro a h
  obtain ⟨-, ⟨h1, h2, h3⟩, ⟨g1, g2, g3⟩⟩ := ha a h
  obtain ⟨z1, z2⟩ := hz a h
  refine ⟨h1, g1, ?_, ?_⟩
  · have : a.lk = 0 ∨ a.lk = 1 ∨ a.lk = 2 := by omega
    rcases this with e | e | e
    · rw [z1 e]; exact Nat.zero_le _
    · have := h2 e; omega
    · have := h3 e; omega
  · have : a.rk = 0 ∨ a.rk = 1 ∨ a.rk = 2 := by omega
    rcases this with e | e | e
    · rw [z2 e]; exact Nat.zero_le _
    · have := g2 e; omega
    · have := g3 e; omega
theorem tw_ok {a c : List UInt8} (hE : twE a c = 0) (f1 : (tw1 a).failed = false) (f2 : (tw2 a c).failed = false) :
    TmOK (twA a) ∧ TmOK (twB a c) ∧ (∀ x ∈ twA a, x.lk ≤ 2 ∧ x.rk ≤ 2 ∧ x.li ≤ 100 ∧ x.ri ≤ 100) ∧ (∀ x ∈ twB a c, x.lk ≤ 2 ∧ x.rk ≤ 2 ∧ x.li ≤ 100 ∧ x.ri ≤ 100) := by
  obtain ⟨-, -, -, i5, -⟩ := tx_ok f1
  obtain ⟨-, -, -, j5, j6⟩ := tx_ok f2
  have hbnd : (tw2 a c).vars.length ≤ 4 ∧ (tw1 a).hid.length ≤ 8 ∧ (tw2 a c).hid.length ≤ 8 := by
    unfold twE at hE
    by_cases g1 : txE [] a ≠ 0
    · rw [if_pos g1] at hE; exact absurd hE g1
    · rw [if_neg g1] at hE
      by_cases g2 : txE (tw1 a).vars c ≠ 0
      · rw [if_pos g2] at hE; exact absurd hE g2
      · rw [if_neg g2] at hE
        by_cases g3 : 4 < (tw2 a c).vars.length ∨ 8 < (tw1 a).hid.length ∨ 8 < (tw2 a c).hid.length
        · rw [if_pos g3] at hE; cases hE
        · omega
  have hv1 : (tw1 a).vars.length ≤ 4 := by
    have h1 : (tw1 a).vars <+: (tw2 a c).vars := j6
    have := h1.length_le
    omega
  exact ⟨tmOK_of hv1 hbnd.2.1 i5, tmOK_of hbnd.1 hbnd.2.2 j5, bnd_of hv1 hbnd.2.1 i5 (foA_zer _ _), bnd_of hbnd.1 hbnd.2.2 j5 (foA_zer _ _)⟩

set_option maxRecDepth 100000 in
set_option maxHeartbeats 4000000 in
theorem entails_any (a c : ByteArray) (w : World) (ha : a.size ≤ 20000) (hc : c.size ≤ 20000) :
    Calls Try.prog 5 #[.string a, .string c] w fun e w' => e = .returned (.tuple #[.bool (enT a.data.toList c.data.toList).1, .int .i64 (enT a.data.toList c.data.toList).2]) ∧ Below w.heap.size w w' := by
  go_enter Try.func5, Try.ntmps5
  go_wp2_with fail
  refine (readTwo_any a c w ha hc).mono ?_
  rintro e w1 ⟨hb1, (⟨hbad, rfl⟩ | ⟨hok, v1, v2, rfl, hr1, hr2, hl1, hl2, hf1, hf2⟩)⟩
  · obtain ⟨ee, hee⟩ : ∃ ee, ee = twE a.data.toList c.data.toList := ⟨_, rfl⟩
    have HE : Hid (enT a.data.toList c.data.toList = (false, ee)) := hide (by rw [hee]; unfold enT; rw [if_pos hbad])
    have HB1 := hide hb1
    rw [← hee] at hbad ⊢
    have hne : ¬ ((ee : Int) = 0) := by omega
    clear hee hb1
    go_wp2_with fail
    go_ret2
    exact ⟨by rw [unhide HE]; rfl, unhide HB1⟩
  · have HE : Hid (enT a.data.toList c.data.toList = fol (twA a.data.toList) (twB a.data.toList c.data.toList)) := hide (by unfold enT; rw [if_neg (by simp [hok])])
    obtain ⟨t1, t2, b1, b2⟩ := tw_ok hok hf1 hf2
    have HF := hide (follows_any hr1 hr2 t1 t2 (by omega) (by omega) b1 b2)
    have HB1 := hide hb1
    clear hb1 hok hr1 hr2 hl1 hl2 hf1 hf2 t1 t2 b1 b2
    go_wp2_with fail
    refine (unhide HF).mono ?_
    rintro e w2 ⟨rfl, hb2⟩
    have HB2 := hide ((unhide HB1).trans (hb2.mono (unhide HB1).size))
    clear hb2 HF
    go_wp2_with fail
    go_ret2
    exact ⟨by rw [unhide HE]; rfl, unhide HB2⟩
end Go.Proofs.Ytciihepbeacppaa
