import Derived.Test.YtciihepbeacppaaGreatRQ
namespace Go.Proofs.YtciihepbeacppaaGreat
open Go.RowKit

theorem own_setX {w : World} {B : Nat} {e : TypeId} {sz n r j : Nat} {v : Value} {xs : List Value} (h : w.ownsRow B e sz v n xs) (hr : ∀ k, v.ownBlock = some k → k ≠ r) (u : Value) : (w.setCell ⟨r, j, none⟩ u).ownsRow B e sz v n xs :=
  ownsRow_of_eq h (fun k hk => Below.heap_setCell _ _ _ _ (hr k hk))

theorem rjn_len (ws : List ByteArray) : (jn ws).length ≤ (ws.map (fun x => x.data.toList.length)).sum + ws.length := by
  match ws with
  | [] => simp [jn]
  | x :: r =>
    have : ∀ r : List ByteArray, (r.flatMap (fun y => 32 :: y.data.toList)).length ≤ (r.map (fun x => x.data.toList.length)).sum + r.length := by
      intro r
      induction r with
      | nil => simp
      | cons y r ih => simp only [List.flatMap_cons, List.length_append, List.length_cons, List.map_cons, List.sum_cons]; omega
    have := this r
    simp only [jn, List.length_append, List.map_cons, List.sum_cons, List.length_cons]
    omega
theorem rjn_le {l : List UInt8} {ws : List ByteArray} (h : spl l = some (ws.map (·.data.toList))) : (jn ws).length ≤ 2 * l.length := by
  have h1 := rsplitF_len _ _ _ h
  have h2 := rjn_len ws
  simp only [List.map_map, List.length_map] at h1
  have h3 : (List.map (List.length ∘ fun x : ByteArray => x.data.toList) ws) = ws.map (fun x => x.data.toList.length) := rfl
  rw [h3] at h1
  omega
theorem TxAt_str1 {ws : List ByteArray} {k : Nat} {y : ByteArray} (h : jn (ws.take (k + 1)) = jn (ws.take k) ++ [32] ++ y.data.toList) : (⟨(jn (ws.take k)).toArray⟩ : ByteArray) ++ ⟨#[32]⟩ ++ y = ⟨(jn (ws.take (k + 1))).toArray⟩ := by
  rw [h]; apply ByteArray.ext; simp [ByteArray.data_append]
theorem TxAt_str0 {ws : List ByteArray} {k : Nat} {y : ByteArray} (h : jn (ws.take (k + 1)) = jn (ws.take k) ++ y.data.toList) : (⟨(jn (ws.take k)).toArray⟩ : ByteArray) ++ y = ⟨(jn (ws.take (k + 1))).toArray⟩ := by
  rw [h]; apply ByteArray.ext; simp [ByteArray.data_append]

theorem rows_on {w5 w6 wr : World} {X base n sz : Nat} {e : TypeId} {v v4 : Value} {xs : List Value} (h : w5.ownsRow base e sz v n xs) (hX : ∀ k, v.ownBlock = some k → k ≠ X) (hne : v.ownBlock = none ∨ v.ownBlock ≠ v4.ownBlock) {a b c d : Value} {o : Obj}
    (hg : ((((w5.setCell ⟨X, 0, none⟩ a).setCell ⟨X, 1, none⟩ b).setCell ⟨X, 2, none⟩ c).alloc o).grownBy w6 v4.ownBlock) (hS : Stp [X] (w6.setCell ⟨X, 3, none⟩ d) [X] wr) : wr.ownsRow base e sz v n xs :=
  rowStep (own_setX (((own_setX (own_setX (own_setX h hX a) hX b) hX c).alloc o).kept hg hne) hX d) hS (fun k hk => by simpa using hX k hk)
theorem own_low {w : World} {B B' : Nat} {e : TypeId} {sz n : Nat} {v : Value} {xs : List Value} (h : w.ownsRow B e sz v n xs) (hb : B' ≤ B) : w.ownsRow B' e sz v n xs := by
  refine ⟨h.1, ?_⟩
  rcases h.2 with h0 | ⟨g, cap, cur, hv, hB, hr⟩
  · exact .inl h0
  · exact .inr ⟨g, cap, cur, hv, Nat.le_trans hb hB, hr⟩
theorem ne_of_own {v v4 : Value} (h : ∀ k, v.ownBlock = some k → v4.ownBlock ≠ some k) : v.ownBlock = none ∨ v.ownBlock ≠ v4.ownBlock := by
  cases hv : v.ownBlock with
  | none => exact Or.inl rfl
  | some k => exact Or.inr (fun e => h k hv e.symm)

/-- the text as it grows -/
structure TxAt (W : World) (X : Nat) (vv hv fv cv : Value) (ws : List ByteArray) (k : Nat) (wr : World) : Prop where
  blk : wr.heap[X]? = some (.cells #[vv, hv, fv, cv, .string ⟨(jn (ws.take k)).toArray⟩] 54 (0, 0))
  stp : Stp [X] W [X] wr
theorem TxAt.drew {W : World} {X : Nat} {vv hv fv cv : Value} {ws : List ByteArray} {k : Nat} {wr : World} (h : TxAt W X vv hv fv cv ws k wr) : TxAt W X vv hv fv cv ws k wr.drew := ⟨h.blk, h.stp.drew⟩
theorem TxAt.one {W : World} {X : Nat} {vv hv fv cv : Value} {ws : List ByteArray} {k : Nat} {wr : World} (h : TxAt W X vv hv fv cv ws k wr) (u : ByteArray) (hu : u = ⟨(jn (ws.take (k + 1))).toArray⟩) : TxAt W X vv hv fv cv ws (k + 1) (wr.setCell ⟨X, 4, none⟩ (.string u)) := by
  subst hu
  exact ⟨by have := rset h.blk (j := 4) (.string ⟨(jn (ws.take (k + 1))).toArray⟩); simpa using this, h.stp.setCell (p := ⟨X, 4, none⟩) (Or.inl (by simp)) _⟩
theorem TxAt.two {W : World} {X : Nat} {vv hv fv cv : Value} {ws : List ByteArray} {k : Nat} {wr : World} (h : TxAt W X vv hv fv cv ws k wr) (t u : ByteArray) (hu : u = ⟨(jn (ws.take (k + 1))).toArray⟩) : TxAt W X vv hv fv cv ws (k + 1) ((wr.setCell ⟨X, 4, none⟩ (.string t)).setCell ⟨X, 4, none⟩ (.string u)) := by
  subst hu
  exact ⟨by have := rset (rset h.blk (j := 4) (.string t)) (j := 4) (.string ⟨(jn (ws.take (k + 1))).toArray⟩); simpa using this, (h.stp.setCell (p := ⟨X, 4, none⟩) (Or.inl (by simp)) _).setCell (p := ⟨X, 4, none⟩) (Or.inl (by simp)) _⟩

set_option maxRecDepth 100000 in
set_option maxHeartbeats 1000000 in
/-- words that are a program -/
theorem rread_ok (s : ByteArray) (w : World) (hlong : ¬ 240 < s.size) (hgood : ¬ ((rrW s.data.toList).length = 0 ∨ eqW ((rrW s.data.toList)[0]?.getD em) preW = false ∨ fndL (rrW s.data.toList) lbW = (rrW s.data.toList).length)) (hok : rrE s.data.toList = 0) :
    Calls Tryz.prog 26 #[.string s] w fun e w' => RrPost s w e w' := by
  have HL : Hid (¬ 240 < s.data.toList.length) := hide (by rw [size_toList]; exact hlong)
  have hd : decide ((240 : Int) < (s.size : Int)) = false := by simp; omega
  have HGOOD := hide hgood
  have HOK := hide hok
  clear hgood hok
  obtain ⟨i0, hi, hz0, hz1, hz2⟩ := info_parts Tryz.infoIns
  go_enter Tryz.func26, Tryz.ntmps26
  go_wp2_with fail
  refine (rsplit_any s w (by omega)).mono ?_
  rintro e w1 ⟨hbl, (⟨hnone, rfl⟩ | ⟨ws, v, hsome, hown, rfl⟩)⟩
  · exact absurd (Or.inl (by simp [rrW, hnone])) (unhide HGOOD)
  · have hlen := rlen hsome
    rw [size_toList] at hlen
    have hjn := rjn_le hsome
    rw [size_toList] at hjn
    have HW : Hid (rrW s.data.toList = ws) := hide (rrW_of hsome)
    have hgood := unhide HGOOD
    rw [unhide HW] at hgood
    have HNN : Hid (spl s.data.toList ≠ none) := hide (by rw [hsome]; simp)
    have HSYN : Hid (rrS ws = none → rrE s.data.toList = 3) := hide (fun h => rrE_syn (unhide HL) (unhide HNN) (by rw [unhide HW]; exact h))
    have hst := StrB.of (Strs.of_own hown)
    have hsz := hbl.size
    obtain ⟨b, hb⟩ : ∃ b, fndL ws lbW = b := ⟨_, rfl⟩
    have hbl2 := fndL_le ws lbW
    have HAT : Hid (b < ws.length → eqW (ws[b]?.getD em) lbW = true) := hide (fun h => by have := fndL_at lbW ws (by rw [hb]; exact h); rw [hb] at this; exact this)
    obtain ⟨x, r, hws⟩ : ∃ x r, ws = x :: r := by
      cases ws with
      | nil => exact absurd (Or.inl rfl) hgood
      | cons x r => exact ⟨x, r, rfl⟩
    obtain ⟨g, off, n, cap, hg, rfl, hn, hncap, hm, c0, hcell⟩ := (hws ▸ hst : StrB w1.heap.size w1 v (x :: r)).open
    have hx : (x.toList == [112, 114, 101]) = true := by
      cases hx : (x.toList == [112, 114, 101]) with
      | true => rfl
      | false => exact absurd (Or.inr (Or.inl (by rw [hws]; simp only [List.getElem?_cons_zero, Option.getD_some]; unfold eqW; rw [preW_l]; exact hx))) hgood
    have hb1 : 1 ≤ b := by
      have hx0 : eqW x lbW = false := by
        unfold eqW; rw [lbW_l2, show x.toList = [112, 114, 101] by simpa using hx]; rfl
      rw [← hb, hws]; simp only [fndL, hx0]; simp
    rw [← hws] at hn hcell
    have HG := hide hgood
    rw [hb] at hbl2 hgood
    have hbn : b < n := by
      rcases Nat.lt_or_ge b n with h | h
      · exact h
      · exact absurd (Or.inr (Or.inr (by omega))) hgood
    have HB := hide hb
    have HCELL := hide hcell
    have HN := hide hn
    have HST := hide hst
    have HBL := hide hbl
    obtain ⟨o0, ho0⟩ : ∃ o0 : Obj, o0 = (.cells #[.slice none 0 0, .slice none 0 0, .slice none 0 0, .slice none 0 0, .string ⟨#[]⟩] 54) := ⟨_, rfl⟩
    have hb12 : Below w1.heap.size w1 (w1.alloc o0) := (Below.refl _ _).alloc (Nat.le_refl _) o0
    have HST2 := hide ((unhide HST).below hb12)
    have HF := hide (find_lb (unhide HST2).str (by omega) b hb)
    obtain ⟨q, hq⟩ : ∃ q, q = shI ws b := ⟨_, rfl⟩
    have HSH := hide (shut_at b (unhide HST2).str (by omega) (by omega) (unhide HAT (by omega)))
    have HFO := hide (rformula_any ((unhide HST2).part rfl 1 b hb1 (by omega) (some ⟨g, off + 1, none⟩) (fun g' off' e _ => by simp only [Option.some.injEq, Addr.mk.injEq] at e; obtain ⟨rfl, rfl, _⟩ := e; rfl)).str (by simp; omega))
    have c2 : (w1.alloc o0).cell? ⟨g, off, none⟩ = some (.string x) := by rw [hb12.cell (p := ⟨g, off, none⟩) hg]; exact c0
    rw [← hq] at HSH
    rw [ho0] at HSH HFO HF c2
    have HQ := hide hq
    have HB12 := hide hb12
    have HO0 := hide ho0
    have hc1 : ¬ cap = 1 := by omega
    have hne0 : ((n : Int) == 0) = false := by simp; omega
    have hneb : ((b : Int) == (n : Int)) = false := by simp; omega
    unfold maxLen at hm
    clear hq hgood hst hbl hb12 hb hn hcell c0 hown hsome hws HAT ho0 HGOOD
    go_wp2_with first | (go_at_call 48; refine (unhide HF).mono ?_; rintro e w' ⟨rfl, rfl⟩) | (go_at_call 49; refine (unhide HSH).mono ?_; rintro e w' ⟨rfl, rfl⟩)
    refine (unhide HFO).mono ?_
    rintro e w3 ⟨hb3, hres3⟩
    rw [← unhide HO0] at hb3 hres3
    have hs3 := hb3.size
    simp only [World.size_alloc] at hs3
    have HB13 := hide ((unhide HB12).trans (hb3.mono (by simp)))
    have HBW3 := hide ((unhide HBL).trans ((unhide HB13).mono hsz))
    have hX3 : w3.heap[w1.heap.size]? = some o0 := by rw [hb3.block _ (by simp)]; exact heap_alloc_new w1 o0
    have HX3 := hide hX3
    clear hb3 hX3 HFO HF HSH c2
    rcases hres3 with ⟨hfn, rfl⟩ | ⟨al, fv, hfs, hownf, rfl⟩
    · have HE := hide (unhide HSYN (rrS_none2 (Or.inl (by rw [unhide HB]; exact hfn))))
      exact absurd ((unhide HE).symm.trans (unhide HOK)) (by decide)
    · obtain ⟨af, capf, rfl⟩ := slice_of_own hownf
      have HFS := hide hfs
      have HOWNF := hide hownf
      clear hfs hownf
      by_cases hqn : q = (n : Int) - 1
      · obtain ⟨e2, he2, heb, hel⟩ : ∃ e : Nat, shI ws b = (e : Int) ∧ b + 1 ≤ e ∧ e < ws.length := shI_bd (by rw [← unhide HQ]; omega)
        obtain rfl : q = (e2 : Int) := (unhide HQ).trans he2
        have he3 : e2 + 1 = n := by omega
        have HGET := hide (rrS_get (unhide HG) (by rw [unhide HB]; exact unhide HFS) (by rw [unhide HB, ← unhide HN, ← unhide HQ]; exact hqn))
        have hqt : ((e2 : Int) == (n : Int) - 1) = true := by simp; omega
        have hcb : ¬ cap = b + 1 := by omega
        have hst3 := StrB.of ((unhide HST).below (unhide HB13)).str
        have HBC := hide (rbl_ok (ws.length + 1) w3 _ (.slice none 0 0) _ [] (hst3.part rfl (b + 1) e2 heb (by omega) (some ⟨g, off + (b + 1), none⟩) (fun g' off' e _ => by simp only [Option.some.injEq, Addr.mk.injEq] at e; obtain ⟨rfl, rfl, _⟩ := e; rfl)) (Nat.le_refl _) ⟨by simp [insCells], .inl ⟨rfl, rfl⟩⟩ (by simp only [List.length_take, List.length_drop]; omega) (by simp only [List.length_take, List.length_drop, List.length_nil]; have := unhide HN; omega))
        have HGET2 : Hid (rrS ws = (rbl (ws.length + 1) ((ws.drop (b + 1)).take (e2 - (b + 1))) []).map (fun cl => (al, cl))) := hide (by
          have := unhide HGET
          rw [unhide HB, show ws.length - 1 = e2 by have := unhide HN; omega] at this
          exact this)
        clear hst3 HGET he2 hqn HQ
        go_wp2_with fail
        refine (unhide HBC).mono ?_
        rintro _ w4 ⟨c4, cl4, ok, rfl, hown4, hstp4, hge4, hle4, hres4⟩
        have hb4 : Below w3.heap.size w3 w4 := hstp4.below (Nat.le_refl _) (by simp [Value.ownBlock])
        have HB14 := hide ((unhide HB13).trans (hb4.mono (by omega)))
        have HBW4 := hide ((unhide HBW3).trans (hb4.mono (by omega)))
        have hs4 := hb4.size
        have HX4 : Hid (w4.heap[w1.heap.size]? = some o0) := hide (by rw [hb4.block _ (by omega)]; exact unhide HX3)
        have HNM := hide (names_any ((unhide HST).below (unhide HB14)).str (by omega))
        have HOWN4 := hide hown4
        have HFROW4 := hide (rowBelow2 (unhide HOWNF) hb4)
        obtain ⟨a4, k4, rfl⟩ := slice_of_own hown4
        have HLT4 : Hid (∀ k, (Value.slice a4 cl4.length k4).ownBlock = some k → w3.heap.size ≤ k ∧ k < w4.heap.size) := hide (fun k hk => hown4.lt k hk)
        have HLTF : Hid (∀ k, (Value.slice af al.length capf).ownBlock = some k → w1.heap.size < k ∧ k < w3.heap.size) := hide (fun k hk => by have := (unhide HOWNF).lt k hk; simp only [World.size_alloc] at this; omega)
        simp only [List.length_take, List.length_drop, List.length_nil] at hle4
        have hcl4 : cl4.length ≤ 1000 := by omega
        clear hown4 hstp4 hle4 hge4 hb4 HBC HX3 HBW3 HB13 HOWNF
        rcases hres4 with ⟨rfl, hrb⟩ | ⟨rfl, hrb⟩
        · have HE := hide (unhide HSYN (by rw [unhide HGET2, hrb]; rfl))
          exact absurd ((unhide HE).symm.trans (unhide HOK)) (by decide)
        · have HNS : Hid (rrS (rrW s.data.toList) ≠ none) := hide (by rw [unhide HW, unhide HGET2, hrb]; simp)
          have HRRS : Hid (rrS (rrW s.data.toList) = some (al, cl4)) := hide (by rw [unhide HW, unhide HGET2, hrb]; rfl)
          clear hrb
          go_wp2_with fail
          refine (unhide HNM).mono ?_
          rintro _ w5 ⟨vv, hv, rfl, hnm⟩
          obtain ⟨a1, k1, rfl⟩ := slice_of_own hnm.rv
          obtain ⟨a2, k2, rfl⟩ := slice_of_own hnm.rh
          have hX5 : w5.heap[w1.heap.size]? = some o0 := by rw [hnm.bl.block _ (by omega)]; exact unhide HX4
          rw [unhide HO0] at hX5
          have HX5 := hide hX5
          obtain ⟨⟨q0, q1, q2, q3, q4⟩, f0, f1, f2, f3, f4⟩ := cells5R hX5
          have HBW5 := hide ((unhide HBW4).trans (hnm.bl.mono (by omega)))
          have HOWN5 := hide (rowBelow2 (unhide HOWN4) hnm.bl)
          have HFROW5 := hide (rowBelow2 (unhide HFROW4) hnm.bl)
          have HVROW5 := hide hnm.rv
          have HHROW5 := hide hnm.rh
          have hs5 := hnm.bl.size
          clear HOWN4 HFROW4
          have HB15 := hide ((unhide HB14).trans (hnm.bl.mono (by omega)))
          have HE4 : Hid (4 < (nmV ws ws.length).length ∨ 8 < (nmH ws ws.length).length → rrE s.data.toList = 4) := hide (fun h => rrE_names (unhide HL) (unhide HNN) (unhide HNS) (by rw [unhide HW]; exact h))
          have HE0 : Hid (¬ (4 < (nmV ws ws.length).length ∨ 8 < (nmH ws ws.length).length) → rrE s.data.toList = 0) := hide (fun h => rrE_ok (unhide HL) (unhide HNN) (unhide HNS) (by rw [unhide HW]; exact h))
          have HP4 : Hid (∀ a b, rrE s.data.toList = 4 → RrPost s w (.returned (.tuple #[.pointer none, .int .i64 4])) ((w5.setCell ⟨w1.heap.size, 0, none⟩ a).setCell ⟨w1.heap.size, 1, none⟩ b)) := hide (fun a b h => RrPost.bad (((unhide HBW5).setCell (p := ⟨w1.heap.size, 0, none⟩) hsz a).setCell (p := ⟨w1.heap.size, 1, none⟩) hsz b) h (by decide))
          clear hnm HNM HX4 hX5 HBW4 HB14
          generalize hnv : (nmV ws ws.length).length = nv at *
          generalize hnh : (nmH ws ws.length).length = nh at *
          by_cases h4 : 4 < nv
          · have HE := hide (unhide HE4 (Or.inl h4))
            exact absurd ((unhide HE).symm.trans (unhide HOK)) (by decide)
          · by_cases h8 : 8 < nh
            · have HE := hide (unhide HE4 (Or.inr h8))
              exact absurd ((unhide HE).symm.trans (unhide HOK)) (by decide)
            · have hd4 : decide ((4 : Int) < (nv : Int)) = false := by simp; omega
              have hd8 : decide ((8 : Int) < (nh : Int)) = false := by simp; omega
              have hnx : ∀ k, (Value.slice a4 cl4.length k4).ownBlock = some k → k ≠ w1.heap.size := fun k hk => by have := ((unhide HOWN5).lt k hk).1; omega
              have HNX := hide hnx
              clear hnx
              go_wp2_with (at_builtin; refine wpList_app1 _ rfl (.tmp 105) (.tmp 107) 52 rfl w3.heap.size 100 i0 _ 6 80 Tryz.underlying52 hi hz0 hz1 hz2 rfl (by decide) _ cl4.length (insCells cl4) rfl ((own_setX (own_setX (own_setX (unhide HOWN5) (unhide HNX) _) (unhide HNX) _) (unhide HNX) _).alloc _) ⟨_, 0, none⟩ 1 [.string ⟨#[101, 120, 105, 116]⟩, .string ⟨#[]⟩, .string ⟨#[]⟩, .string ⟨#[]⟩, .int .i64 0, .bool false] rfl rfl (new_cells _ _ (by simp) [.string ⟨#[101, 120, 105, 116]⟩, .string ⟨#[]⟩, .string ⟨#[]⟩, .string ⟨#[]⟩, .int .i64 0, .bool false] _) (Ins.one exI) (by omega) (by omega) (by simp; omega) ?_)
              intro g6 cap6 w6 hown6 hgrow6 hblk6
              have hs6 := hgrow6.size
              simp only [World.size_alloc, World.size_setCell] at hs6
              have hX6 : w6.heap[w1.heap.size]? = some (.cells #[.slice a1 nv k1, .slice a2 nh k2, .slice af al.length capf, .slice none 0 0, .string ⟨#[]⟩] 54 (0, 0)) := by
                rw [hgrow6.block _ (by simp; omega) (fun h => unhide HNX _ h.symm rfl), Below.heap_alloc _ _ _ (by simp; omega)]
                have := rset (rset (rset (unhide HX5) (j := 0) (.slice a1 nv k1)) (j := 1) (.slice a2 nh k2)) (j := 2) (.slice af al.length capf)
                simpa using this
              have HX6 := hide hX6
              obtain ⟨⟨r0, r1, r2, r3, r4⟩, e0, e1, e2', e3, e4⟩ := cells5R hX6
              have HO6 := hide hown6
              have HG6 := hide hgrow6
              have HK6 := hide hblk6
              clear hown6 hgrow6 hblk6 hX6 q0 q1 q2 q3 q4 f0 f1 f2 f3 f4
              have HTX0 : Hid (TxAt (w6.setCell ⟨w1.heap.size, 3, none⟩ (.slice (some ⟨g6, 0, none⟩) (cl4.length + 1) cap6)) w1.heap.size (.slice a1 nv k1) (.slice a2 nh k2) (.slice af al.length capf) (.slice (some ⟨g6, 0, none⟩) (cl4.length + 1) cap6) ws 0 (w6.setCell ⟨w1.heap.size, 3, none⟩ (.slice (some ⟨g6, 0, none⟩) (cl4.length + 1) cap6))) := hide ⟨by have := rset (unhide HX6) (j := 3) (.slice (some ⟨g6, 0, none⟩) (cl4.length + 1) cap6); simpa [jn] using this, Stp.refl _ _⟩
              have HGX : Hid (∀ k wr, TxAt (w6.setCell ⟨w1.heap.size, 3, none⟩ (.slice (some ⟨g6, 0, none⟩) (cl4.length + 1) cap6)) w1.heap.size (.slice a1 nv k1) (.slice a2 nh k2) (.slice af al.length capf) (.slice (some ⟨g6, 0, none⟩) (cl4.length + 1) cap6) ws k wr → ∀ j, (hj : j < ws.length) → wr.cell? ⟨g, off + j, none⟩ = some (.string ws[j])) := hide (fun k wr h j hj => by
                have hg7 : g < (w6.setCell ⟨w1.heap.size, 3, none⟩ (.slice (some ⟨g6, 0, none⟩) (cl4.length + 1) cap6)).heap.size := by simp only [World.size_setCell]; omega
                rw [h.stp.cell (p := ⟨g, off + j, none⟩) hg7 (by simp; omega), World.cell?_of_block (Below.heap_setCell _ _ _ _ (by simp; omega)), World.cell?_of_block ((unhide HG6).block g (by simp; omega) (fun e => by have := ((unhide HOWN5).lt g e.symm).1; omega)), World.cell?_of_block (Below.heap_alloc _ _ _ (by simp; omega)), World.cell?_of_block (Below.heap_setCell _ _ _ _ (by simp; omega)), World.cell?_of_block (Below.heap_setCell _ _ _ _ (by simp; omega)), World.cell?_of_block (Below.heap_setCell _ _ _ _ (by simp; omega)), (unhide HB15).cell (p := ⟨g, off + j, none⟩) hg]
                exact unhide HCELL j hj)
              go_wp2_with fail
              clear r0 r1 r2 r3 r4 e0 e1 e2' e3 e4
              go_loopw [13] (fun i wr => ∃ k : Nat, k ≤ n ∧ i = .int .i64 k ∧ Hid (TxAt (w6.setCell ⟨w1.heap.size, 3, none⟩ (.slice (some ⟨g6, 0, none⟩) (cl4.length + 1) cap6)) w1.heap.size (.slice a1 nv k1) (.slice a2 nh k2) (.slice af al.length capf) (.slice (some ⟨g6, 0, none⟩) (cl4.length + 1) cap6) ws k wr)) (fun i _ => n - (intOf i).toNat)
              case atStart => exact ⟨0, Nat.zero_le _, rfl, HTX0⟩
              case round =>
                obtain ⟨k, hk, rfl, htx⟩ := hrel
                obtain ⟨⟨r0, r1, r2, r3, r4⟩, e0, e1, e2', e3, e4⟩ := cells5R (unhide htx).blk
                by_cases hlt : k < n
                · have hlt' : k < ws.length := by rw [← unhide HN]; exact hlt
                  have hcy := unhide HGX k _ (unhide htx) k hlt'
                  obtain ⟨y, hy⟩ : ∃ y, y = ws[k] := ⟨_, rfl⟩
                  rw [← hy] at hcy
                  have HY := hide hy
                  clear hy
                  have hjk := jn_take_le ws (k + 1)
                  by_cases h0 : 0 < k
                  · have HJ : Hid (jn (ws.take (k + 1)) = jn (ws.take k) ++ [32] ++ y.data.toList) := hide (by rw [unhide HY]; exact jn_step ws k hlt' h0)
                    have hle : (jn (ws.take k)).length + 1 + y.size ≤ 20000 := by
                      rw [unhide HJ] at hjk; simp only [List.length_append, size_toList, List.length_singleton] at hjk; omega
                    clear hjk HY hlt'
                    go_wp2_with fail
                    go_region
                    go_wp2_with fail
                    go_roundw
                    case rel => exact ⟨k + 1, by omega, by go_num, hide (TxAt.drew ((unhide htx).two _ _ (TxAt_str1 (unhide HJ))))⟩
                    case measure => simp [intOf]; omega
                  · have HJ : Hid (jn (ws.take (k + 1)) = jn (ws.take k) ++ y.data.toList) := hide (by rw [unhide HY]; exact jn_first ws k hlt' h0)
                    have hle : (jn (ws.take k)).length + y.size ≤ 20000 := by
                      rw [unhide HJ] at hjk; simp only [List.length_append, size_toList] at hjk; omega
                    clear hjk HY hlt'
                    go_wp2_with fail
                    go_region
                    go_wp2_with fail
                    go_roundw
                    case rel => exact ⟨k + 1, by omega, by go_num, hide (TxAt.drew ((unhide htx).one _ (TxAt_str0 (unhide HJ))))⟩
                    case measure => simp [intOf]; omega
                · have hdk : decide ((k : Int) < (n : Int)) = false := by simp; omega
                  have HPOST : Hid (RrPost s w (.returned (.tuple #[.pointer (some ⟨w1.heap.size, 0, none⟩), .int .i64 0])) wr) := hide (by
                    have hS := (unhide htx).stp
                    have hG := unhide HG6
                    have hw := unhide HW
                    have hkn : ws.take k = ws := List.take_of_length_le (by rw [← unhide HN]; omega)
                    have hblk := (unhide htx).blk
                    rw [hkn] at hblk
                    have hO6 := unhide HO6
                    have hb6 : Below w.heap.size w wr := by
                      have b1 := (((((unhide HBW5).setCell (p := ⟨w1.heap.size, 0, none⟩) hsz (.slice a1 nv k1)).setCell (p := ⟨w1.heap.size, 1, none⟩) hsz (.slice a2 nh k2)).setCell (p := ⟨w1.heap.size, 2, none⟩) hsz (.slice af al.length capf)).alloc (by simp; omega) _).grown hG (by simp; omega) (fun k hk => by have := (unhide HLT4 k hk).1; omega)
                      exact (b1.setCell (p := ⟨w1.heap.size, 3, none⟩) hsz _).trans (hS.below (by simp; omega) (by simp; omega))
                    refine ⟨hb6, Or.inr ⟨unhide HOK, w1.heap.size, al, cl4, unhide HRRS, rfl, ?_⟩⟩
                    rw [hw]
                    refine ⟨_, _, _, _, hblk, hsz, ?_, ?_, ?_, ?_⟩
                    · rw [hnv]
                      exact own_low (rows_on (unhide HVROW5) (fun k hk => by have := ((unhide HVROW5).lt k hk).1; omega) (ne_of_own (fun k hk e => by have := ((unhide HVROW5).lt k hk).1; have := (unhide HLT4 k e).2; omega)) hG hS) (by omega)
                    · rw [hnh]
                      exact own_low (rows_on (unhide HHROW5) (fun k hk => by have := ((unhide HHROW5).lt k hk).1; omega) (ne_of_own (fun k hk e => by have := ((unhide HHROW5).lt k hk).1; have := (unhide HLT4 k e).2; omega)) hG hS) (by omega)
                    · exact own_low (rows_on (unhide HFROW5) (fun k hk => by have := (unhide HLTF k hk).1; omega) (ne_of_own (fun k hk e => by have := (unhide HLTF k hk).2; have := (unhide HLT4 k e).1; omega)) hG hS) (by simp; omega)
                    · have h6 := rowStep (own_setX (r := w1.heap.size) (j := 3) hO6 (fun k hk => by have := (hO6.lt k hk).1; omega) (.slice (some ⟨g6, 0, none⟩) (cl4.length + 1) cap6)) hS (fun k hk => by have := (hO6.lt k hk).1; simp; omega)
                      rw [insCells_snoc]
                      exact own_low h6 (by omega))
                  clear HGX htx
                  go_wp2_with fail
                  go_ret2
                  exact unhide HPOST
      · have HE := hide (unhide HSYN (rrS_none2 (Or.inr (by rw [unhide HB, ← unhide HN, ← unhide HQ]; exact hqn))))
        exact absurd ((unhide HE).symm.trans (unhide HOK)) (by decide)
end Go.Proofs.YtciihepbeacppaaGreat
