import Derived.Test.YtciihepbeacppaaGreatRP
namespace Go.Proofs.YtciihepbeacppaaGreat
open Go.RowKit

theorem cells5R {w : World} {r : Nat} {a b c d e : Value} {t : TypeId} (h : w.heap[r]? = some (.cells #[a, b, c, d, e] t (0, 0))) :
    (w.cell? ⟨r, 0, none⟩ = some a ∧ w.cell? ⟨r, 1, none⟩ = some b ∧ w.cell? ⟨r, 2, none⟩ = some c ∧ w.cell? ⟨r, 3, none⟩ = some d ∧ w.cell? ⟨r, 4, none⟩ = some e) ∧
    w.frozen? ⟨r, 0, none⟩ = false ∧ w.frozen? ⟨r, 1, none⟩ = false ∧ w.frozen? ⟨r, 2, none⟩ = false ∧ w.frozen? ⟨r, 3, none⟩ = false ∧ w.frozen? ⟨r, 4, none⟩ = false := by
  simp [World.cell?, World.frozen?, h]
theorem fndL_at (c : ByteArray) : ∀ (l : List ByteArray), fndL l c < l.length → eqW (l[fndL l c]?.getD em) c = true := by
  intro l
  induction l with
  | nil => simp
  | cons x r ih =>
    intro h
    cases hx : eqW x c with
    | true => simp only [fndL, hx]; simpa using hx
    | false =>
      simp only [fndL, hx] at h ⊢
      simp at h
      simpa using ih h

set_option maxRecDepth 100000 in
set_option maxHeartbeats 1000000 in
/-- words with a head, but no program -/
theorem rread_mid (s : ByteArray) (w : World) (hlong : ¬ 240 < s.size) (hgood : ¬ ((rrW s.data.toList).length = 0 ∨ eqW ((rrW s.data.toList)[0]?.getD em) preW = false ∨ fndL (rrW s.data.toList) lbW = (rrW s.data.toList).length)) (hbad : rrE s.data.toList ≠ 0) :
    Calls Tryz.prog 26 #[.string s] w fun e w' => RrPost s w e w' := by
  have HL : Hid (¬ 240 < s.data.toList.length) := hide (by rw [size_toList]; exact hlong)
  have hd : decide ((240 : Int) < (s.size : Int)) = false := by simp; omega
  have HGOOD := hide hgood
  have HBAD := hide hbad
  clear hgood hbad
  go_enter Tryz.func26, Tryz.ntmps26
  go_wp2_with fail
  refine (rsplit_any s w (by omega)).mono ?_
  rintro e w1 ⟨hbl, (⟨hnone, rfl⟩ | ⟨ws, v, hsome, hown, rfl⟩)⟩
  · exact absurd (Or.inl (by simp [rrW, hnone])) (unhide HGOOD)
  · have hlen := rlen hsome
    rw [size_toList] at hlen
    have HW : Hid (rrW s.data.toList = ws) := hide (rrW_of hsome)
    have hgood := unhide HGOOD
    rw [unhide HW] at hgood
    have HNN : Hid (spl s.data.toList ≠ none) := hide (by rw [hsome]; simp)
    have HSYN : Hid (rrS ws = none → rrE s.data.toList = 3) := hide (fun h => rrE_syn (unhide HL) (unhide HNN) (by rw [unhide HW]; exact h))
    have hst := StrB.of (Strs.of_own hown)
    have hsz := hbl.size
    obtain ⟨b, hb⟩ : ∃ b, fndL ws lbW = b := ⟨_, rfl⟩
    have hbl2 := fndL_le ws lbW
    have HAT : Hid (b < ws.length → eqW (ws[b]?.getD em) lbW = true) := hide (fun h => by have := fndL_at lbW ws (by rw [hb]; exact h); rw [hb] at this; exact this)
    obtain ⟨x, r, hws⟩ : ∃ x r, ws = x :: r := by
      cases ws with
      | nil => exact absurd (Or.inl rfl) hgood
      | cons x r => exact ⟨x, r, rfl⟩
    obtain ⟨g, off, n, cap, hg, rfl, hn, hncap, hm, c0, hcell⟩ := (hws ▸ hst : StrB w1.heap.size w1 v (x :: r)).open
    have hx : (x.toList == [112, 114, 101]) = true := by
      cases hx : (x.toList == [112, 114, 101]) with
      | true => rfl
      | false => exact absurd (Or.inr (Or.inl (by rw [hws]; simp only [List.getElem?_cons_zero, Option.getD_some]; unfold eqW; rw [preW_l]; exact hx))) hgood
    have hb1 : 1 ≤ b := by
      have hx0 : eqW x lbW = false := by
        unfold eqW; rw [lbW_l2, show x.toList = [112, 114, 101] by simpa using hx]; rfl
      rw [← hb, hws]; simp only [fndL, hx0]; simp
    rw [← hws] at hn hcell
    have HG := hide hgood
    rw [hb] at hbl2 hgood
    have hbn : b < n := by
      rcases Nat.lt_or_ge b n with h | h
      · exact h
      · exact absurd (Or.inr (Or.inr (by omega))) hgood
    have HB := hide hb
    have HN := hide hn
    have HST := hide hst
    have HBL := hide hbl
    obtain ⟨o0, ho0⟩ : ∃ o0 : Obj, o0 = (.cells #[.slice none 0 0, .slice none 0 0, .slice none 0 0, .slice none 0 0, .string ⟨#[]⟩] 54) := ⟨_, rfl⟩
    have hb12 : Below w1.heap.size w1 (w1.alloc o0) := (Below.refl _ _).alloc (Nat.le_refl _) o0
    have HST2 := hide ((unhide HST).below hb12)
    have HF := hide (find_lb (unhide HST2).str (by omega) b hb)
    obtain ⟨q, hq⟩ : ∃ q, q = shI ws b := ⟨_, rfl⟩
    have HSH := hide (shut_at b (unhide HST2).str (by omega) (by omega) (unhide HAT (by omega)))
    have HFO := hide (rformula_any ((unhide HST2).part rfl 1 b hb1 (by omega) (some ⟨g, off + 1, none⟩) (fun g' off' e _ => by simp only [Option.some.injEq, Addr.mk.injEq] at e; obtain ⟨rfl, rfl, _⟩ := e; rfl)).str (by simp; omega))
    have c2 : (w1.alloc o0).cell? ⟨g, off, none⟩ = some (.string x) := by rw [hb12.cell (p := ⟨g, off, none⟩) hg]; exact c0
    rw [← hq] at HSH
    rw [ho0] at HSH HFO HF c2
    have HQ := hide hq
    have HB12 := hide hb12
    have HO0 := hide ho0
    have hc1 : ¬ cap = 1 := by omega
    have hne0 : ((n : Int) == 0) = false := by simp; omega
    have hneb : ((b : Int) == (n : Int)) = false := by simp; omega
    unfold maxLen at hm
    clear hq hgood hst hbl hb12 hb hn hcell c0 hown hsome hws HAT ho0 HGOOD
    go_wp2_with first | (go_at_call 48; refine (unhide HF).mono ?_; rintro e w' ⟨rfl, rfl⟩) | (go_at_call 49; refine (unhide HSH).mono ?_; rintro e w' ⟨rfl, rfl⟩)
    refine (unhide HFO).mono ?_
    rintro e w3 ⟨hb3, hres3⟩
    rw [← unhide HO0] at hb3 hres3
    have hs3 := hb3.size
    simp only [World.size_alloc] at hs3
    have HB13 := hide ((unhide HB12).trans (hb3.mono (by simp)))
    have HBW3 := hide ((unhide HBL).trans ((unhide HB13).mono hsz))
    have hX3 : w3.heap[w1.heap.size]? = some o0 := by rw [hb3.block _ (by simp)]; exact heap_alloc_new w1 o0
    have HX3 := hide hX3
    clear hb3 hX3 HFO HF HSH c2
    rcases hres3 with ⟨hfn, rfl⟩ | ⟨al, fv, hfs, hownf, rfl⟩
    · have HE := hide (unhide HSYN (rrS_none2 (Or.inl (by rw [unhide HB]; exact hfn))))
      clear hfn
      go_wp2_with fail
      go_ret2
      exact RrPost.bad (unhide HBW3) (unhide HE) (by decide)
    · obtain ⟨af, capf, rfl⟩ := slice_of_own hownf
      have HFS := hide hfs
      clear hfs hownf
      by_cases hqn : q = (n : Int) - 1
      · obtain ⟨e2, he2, heb, hel⟩ : ∃ e : Nat, shI ws b = (e : Int) ∧ b + 1 ≤ e ∧ e < ws.length := shI_bd (by rw [← unhide HQ]; omega)
        obtain rfl : q = (e2 : Int) := (unhide HQ).trans he2
        have he3 : e2 + 1 = n := by omega
        have HGET := hide (rrS_get (unhide HG) (by rw [unhide HB]; exact unhide HFS) (by rw [unhide HB, ← unhide HN, ← unhide HQ]; exact hqn))
        have hqt : ((e2 : Int) == (n : Int) - 1) = true := by simp; omega
        have hcb : ¬ cap = b + 1 := by omega
        have hst3 := StrB.of ((unhide HST).below (unhide HB13)).str
        have HBC := hide (rbl_ok (ws.length + 1) w3 _ (.slice none 0 0) _ [] (hst3.part rfl (b + 1) e2 heb (by omega) (some ⟨g, off + (b + 1), none⟩) (fun g' off' e _ => by simp only [Option.some.injEq, Addr.mk.injEq] at e; obtain ⟨rfl, rfl, _⟩ := e; rfl)) (Nat.le_refl _) ⟨by simp [insCells], .inl ⟨rfl, rfl⟩⟩ (by simp only [List.length_take, List.length_drop]; omega) (by simp only [List.length_take, List.length_drop, List.length_nil]; have := unhide HN; omega))
        have HGET2 : Hid (rrS ws = (rbl (ws.length + 1) ((ws.drop (b + 1)).take (e2 - (b + 1))) []).map (fun cl => (al, cl))) := hide (by
          have := unhide HGET
          rw [unhide HB, show ws.length - 1 = e2 by have := unhide HN; omega] at this
          exact this)
        clear hst3 HGET he2 hqn HQ
        go_wp2_with fail
        refine (unhide HBC).mono ?_
        rintro _ w4 ⟨c4, cl4, ok, rfl, hown4, hstp4, hge4, hle4, hres4⟩
        have hb4 : Below w3.heap.size w3 w4 := hstp4.below (Nat.le_refl _) (by simp [Value.ownBlock])
        have HB14 := hide ((unhide HB13).trans (hb4.mono (by omega)))
        have HBW4 := hide ((unhide HBW3).trans (hb4.mono (by omega)))
        have hs4 := hb4.size
        have HX4 : Hid (w4.heap[w1.heap.size]? = some o0) := hide (by rw [hb4.block _ (by omega)]; exact unhide HX3)
        have HNM := hide (names_any ((unhide HST).below (unhide HB14)).str (by omega))
        clear hown4 hstp4 hle4 hge4 hb4 HBC HX3 HBW3 HB13
        rcases hres4 with ⟨rfl, hrb⟩ | ⟨rfl, hrb⟩
        · have HE := hide (unhide HSYN (by rw [unhide HGET2, hrb]; rfl))
          clear hrb
          go_wp2_with fail
          go_ret2
          exact RrPost.bad (unhide HBW4) (unhide HE) (by decide)
        · have HNS : Hid (rrS (rrW s.data.toList) ≠ none) := hide (by rw [unhide HW, unhide HGET2, hrb]; simp)
          clear hrb
          go_wp2_with fail
          refine (unhide HNM).mono ?_
          rintro _ w5 ⟨vv, hv, rfl, hnm⟩
          obtain ⟨a1, k1, rfl⟩ := slice_of_own hnm.rv
          obtain ⟨a2, k2, rfl⟩ := slice_of_own hnm.rh
          have hX5 : w5.heap[w1.heap.size]? = some o0 := by rw [hnm.bl.block _ (by omega)]; exact unhide HX4
          rw [unhide HO0] at hX5
          obtain ⟨⟨q0, q1, q2, q3, q4⟩, f0, f1, f2, f3, f4⟩ := cells5R hX5
          have HBW5 := hide ((unhide HBW4).trans (hnm.bl.mono (by omega)))
          have HE4 : Hid (4 < (nmV ws ws.length).length ∨ 8 < (nmH ws ws.length).length → rrE s.data.toList = 4) := hide (fun h => rrE_names (unhide HL) (unhide HNN) (unhide HNS) (by rw [unhide HW]; exact h))
          have HE0 : Hid (¬ (4 < (nmV ws ws.length).length ∨ 8 < (nmH ws ws.length).length) → rrE s.data.toList = 0) := hide (fun h => rrE_ok (unhide HL) (unhide HNN) (unhide HNS) (by rw [unhide HW]; exact h))
          have HP4 : Hid (∀ a b, rrE s.data.toList = 4 → RrPost s w (.returned (.tuple #[.pointer none, .int .i64 4])) ((w5.setCell ⟨w1.heap.size, 0, none⟩ a).setCell ⟨w1.heap.size, 1, none⟩ b)) := hide (fun a b h => RrPost.bad (((unhide HBW5).setCell (p := ⟨w1.heap.size, 0, none⟩) hsz a).setCell (p := ⟨w1.heap.size, 1, none⟩) hsz b) h (by decide))
          clear hnm HNM HX4 hX5 HBW4 HB14
          generalize hnv : (nmV ws ws.length).length = nv at *
          generalize hnh : (nmH ws ws.length).length = nh at *
          by_cases h4 : 4 < nv
          · have HE := hide (unhide HE4 (Or.inl h4))
            go_wp2_with fail
            go_ret2
            exact unhide HP4 _ _ (unhide HE)
          · by_cases h8 : 8 < nh
            · have HE := hide (unhide HE4 (Or.inr h8))
              go_wp2_with fail
              go_ret2
              exact unhide HP4 _ _ (unhide HE)
            · exact absurd (unhide HE0 (by omega)) (unhide HBAD)
      · have HE := hide (unhide HSYN (rrS_none2 (Or.inr (by rw [unhide HB, ← unhide HN, ← unhide HQ]; exact hqn))))
        have hqf : (q == (n : Int) - 1) = false := by simpa using hqn
        clear hqn
        go_wp2_with fail
        go_ret2
        exact RrPost.bad (unhide HBW3) (unhide HE) (by decide)
end Go.Proofs.YtciihepbeacppaaGreat
