import Derived.Test.YtciihepbeacppaaGreatRK
import Derived.Test.YtciihepbeacppaaGreatWO
namespace Go.Proofs.YtciihepbeacppaaGreat
open Go.RowKit

/-- the rest of a list of texts -/
theorem StrB.rest {B : Nat} {w : World} {l : List ByteArray} {g off n cap : Nat} (h : StrB B w (.slice (some ⟨g, off, none⟩) n cap) l) (i : Nat) (hi : i ≤ l.length) (a : Option Addr) (ha : i < cap → a = some ⟨g, off + i, none⟩) (k c : Nat) (hk : k = l.length - i) (hc : c = cap - i) : StrB B w (.slice a k c) (l.drop i) := by
  have := h.part rfl i l.length hi (Nat.le_refl _) a (fun g' off' e hlt => by simp only [Option.some.injEq, Addr.mk.injEq] at e; obtain ⟨rfl, rfl, _⟩ := e; exact ha hlt)
  rw [List.take_of_length_le (by simp)] at this
  rw [hk, hc]
  exact this
theorem StrB.head {B : Nat} {w : World} {l : List ByteArray} {g off n cap : Nat} (h : StrB B w (.slice (some ⟨g, off, none⟩) n cap) l) (i : Nat) (hi : i ≤ l.length) : StrB B w (.slice (some ⟨g, off, none⟩) i cap) (l.take i) := by
  have := h.part rfl 0 i (Nat.zero_le _) hi (some ⟨g, off, none⟩) (fun g' off' e _ => by rw [Nat.add_zero]; exact e)
  simpa using this
theorem StrB.open {B : Nat} {w : World} {v : Value} {x : ByteArray} {r : List ByteArray} (h : StrB B w v (x :: r)) : ∃ g off n cap, g < B ∧ v = .slice (some ⟨g, off, none⟩) n cap ∧ n = (x :: r).length ∧ n ≤ cap ∧ cap ≤ maxLen ∧ w.cell? ⟨g, off, none⟩ = some (.string x) ∧ ∀ j, (h : j < (x :: r).length) → w.cell? ⟨g, off + j, none⟩ = some (.string (x :: r)[j]) := by
  obtain ⟨ao, cap, hv, hn, hm, hc⟩ := h
  obtain ⟨g, off, hg, rfl, hcell⟩ := hc (by simp)
  exact ⟨g, off, _, cap, hg, hv, rfl, hn, hm, hcell 0 (by simp), hcell⟩

theorem own6 {w : World} {B : Nat} {e : TypeId} {sz n r : Nat} {v : Value} {xs : List Value} (h : w.ownsRow B e sz v n xs) (hr : ∀ k, v.ownBlock = some k → k ≠ r) (a b c d x y : Value) :
    ((((((w.setCell ⟨r, 0, none⟩ a).setCell ⟨r, 1, none⟩ b).setCell ⟨r, 2, none⟩ c).setCell ⟨r, 3, none⟩ d).setCell ⟨r, 4, none⟩ x).setCell ⟨r, 5, none⟩ y).ownsRow B e sz v n xs :=
  ownsRow_of_eq h (fun k hk => by
    have := hr k hk
    rw [Below.heap_setCell _ _ _ _ this, Below.heap_setCell _ _ _ _ this, Below.heap_setCell _ _ _ _ this, Below.heap_setCell _ _ _ _ this, Below.heap_setCell _ _ _ _ this, Below.heap_setCell _ _ _ _ this])
theorem Stp.onBelow {F F' : List Nat} {a w w' : World} (h : Stp F a F' w) (hb : Below w.heap.size w w') : Stp F a F' w' :=
  ⟨hb.os.trans h.os, hb.tape.trans h.tape, hb.output.trans h.output, Nat.le_trans h.size hb.size, fun k hk hF => (hb.block k (Nat.lt_of_lt_of_le hk h.size)).trans (h.block k hk hF), h.foot⟩
theorem Stp.refoot {F F' F'' : List Nat} {a w : World} (h : Stp F a F' w) (hf : ∀ k, k ∈ F'' → k ∈ F ∨ a.heap.size ≤ k) : Stp F a F'' w := ⟨h.os, h.tape, h.output, h.size, h.block, hf⟩
theorem bk_step {B : Nat} {w wr w2 w3 : World} {F : List Nat} {v : Value} {n : Nat} {xs : List Value} {e : TypeId} {sz : Nat} {o o' : Obj} {g2 : Nat} {a b c d x y : Value} (stp : Stp F w v.ownBlock.toList wr) (own : wr.ownsRow B e sz v n xs) (hB : B ≤ wr.heap.size) (hb2 : Below (wr.alloc o).heap.size (wr.alloc o) w2)
    (hg : (((((((w2.setCell ⟨wr.heap.size, 0, none⟩ a).setCell ⟨wr.heap.size, 1, none⟩ b).setCell ⟨wr.heap.size, 2, none⟩ c).setCell ⟨wr.heap.size, 3, none⟩ d).setCell ⟨wr.heap.size, 4, none⟩ x).setCell ⟨wr.heap.size, 5, none⟩ y).alloc o').grownBy w3 v.ownBlock) (hblk : some g2 = v.ownBlock ∨ g2 = w2.heap.size + 1) :
    Stp F w [g2] w3 ∧ Below B wr w3 := by
  have hz := hb2.size
  have hz0 := stp.size
  simp only [World.size_alloc] at hz
  have hnew : w.heap.size ≤ wr.heap.size := hz0
  have s1 := ((((((((stp.alloc o).onBelow hb2).setCell (p := ⟨wr.heap.size, 0, none⟩) (Or.inr hnew) a).setCell (p := ⟨wr.heap.size, 1, none⟩) (Or.inr hnew) b).setCell (p := ⟨wr.heap.size, 2, none⟩) (Or.inr hnew) c).setCell (p := ⟨wr.heap.size, 3, none⟩) (Or.inr hnew) d).setCell (p := ⟨wr.heap.size, 4, none⟩) (Or.inr hnew) x).setCell (p := ⟨wr.heap.size, 5, none⟩) (Or.inr hnew) y).alloc o'
  have hrow : ∀ k, v.ownBlock = some k → k ∈ F ∨ w.heap.size ≤ k := fun k hk => stp.foot k (by rw [hk]; simp)
  refine ⟨(s1.grown hg hrow).refoot (fun k hk => ?_), ?_⟩
  · simp only [List.mem_singleton] at hk
    subst hk
    rcases hblk with h | h
    · exact hrow k h.symm
    · right; omega
  · have b1 : Below B wr w2 := ((Below.refl B wr).alloc hB o).trans (hb2.mono (by simp only [World.size_alloc]; omega))
    have b2 := ((((((b1.setCell (p := ⟨wr.heap.size, 0, none⟩) hB a).setCell (p := ⟨wr.heap.size, 1, none⟩) hB b).setCell (p := ⟨wr.heap.size, 2, none⟩) hB c).setCell (p := ⟨wr.heap.size, 3, none⟩) hB d).setCell (p := ⟨wr.heap.size, 4, none⟩) hB x).setCell (p := ⟨wr.heap.size, 5, none⟩) hB y).alloc (by simp; omega) o'
    exact b2.grown hg (by simp; omega) (fun k hk => (own.lt k hk).1)

/-- the state of block's loop -/
structure BkAt (B : Nat) (ctl : List ByteArray → List Ins → Option (List Ins × Nat)) (w : World) (F : List Nat) (l : List ByteArray) (cl : List Ins) (m : Nat) (wr : World) (lv cv : Value) (l' : List ByteArray) (cl' : List Ins) : Prop where
  lt : l'.length < m
  str : StrB B wr lv l'
  own : wr.ownsRow B 100 6 cv cl'.length (insCells cl')
  stp : Stp F w cv.ownBlock.toList wr
  ge : cl.length ≤ cl'.length
  bd : cl'.length + 2 * l'.length ≤ cl.length + 2 * l.length
  eq : rbs ctl (l.length + 1) l cl = rbs ctl m l' cl'

set_option maxRecDepth 100000 in
set_option maxHeartbeats 1000000 in
theorem rblock_walk {B : Nat} {ctl : List ByteArray → List Ins → Option (List Ins × Nat)} {f0 : Nat} (hctl : CtlOK B ctl f0) :
  ∀ (w : World) (v c : Value) (l : List ByteArray) (cl : List Ins), StrB B w v l → B ≤ w.heap.size → w.ownsRow B 100 6 c cl.length (insCells cl) → l.length ≤ f0 → cl.length + 2 * l.length ≤ 2000 →
    Calls Tryz.prog 51 #[v, c] w fun e w' => BkPost B w c cl l.length (rbs ctl (l.length + 1) l cl) e w' := by
  intro w v c l cl hstr hB hown hlf hbd
  obtain ⟨i0, hi, hz0, hz1, hz2⟩ := info_parts Tryz.infoIns
  have HCTL := hide hctl
  have HSTR := hide hstr
  have HOWN := hide hown
  clear hctl hstr hown
  go_enter Tryz.func51, Tryz.ntmps51
  go_wp2_with fail
  go_loopg [0, 1] (l.length + 1) (fun m lv cv wr => ∃ (l' : List ByteArray) (cl' : List Ins), Hid (BkAt B ctl w c.ownBlock.toList l cl m wr lv cv l' cl'))
  case atStart => exact ⟨l, cl, ⟨Nat.lt_succ_self _, unhide HSTR, unhide HOWN, Stp.refl _ _, Nat.le_refl _, Nat.le_refl _, rfl⟩⟩
  case round =>
    obtain ⟨l', cl', hbk⟩ := hrel
    have hlt := (unhide hbk).lt
    have hbd' := (unhide hbk).bd
    have hge' := (unhide hbk).ge
    have hsz := (unhide hbk).stp.size
    cases l' with
    | nil =>
      obtain ⟨ao, cap, hlv, _, _, _⟩ := (unhide hbk).str
      rw [hlv]
      have HE : Hid (rbs ctl (l.length + 1) l cl = some cl') := hide (by
        rw [(unhide hbk).eq]
        obtain ⟨m, rfl⟩ : ∃ m, gk = m + 1 := ⟨gk - 1, by omega⟩
        rfl)
      simp only [List.length_nil]
      go_wp2_with fail
      go_ret2
      exact ⟨_, cl', true, rfl, (unhide hbk).own, (unhide hbk).stp, hge', by simp at hbd'; omega, Or.inr ⟨rfl, unhide HE⟩⟩
    | cons x r =>
      obtain ⟨g, off, n, cap, hg, hlv, hn, hncap, hm, c0, hcell⟩ := (unhide hbk).str.open
      have HST := (unhide hbk).str
      rw [hlv] at HST ⊢
      replace HST := hide HST
      have HN := hide hn
      have HCELL := hide hcell
      have hn1 : 1 ≤ n := by rw [hn]; simp
      have hnl : n < gk := by rw [hn]; exact hlt
      have hbd2 : cl'.length + 2 * n ≤ 2000 := by rw [hn]; omega
      clear hn hcell hlv
      unfold maxLen at hm
      obtain ⟨m, rfl⟩ : ∃ m, gk = m + 1 := ⟨gk - 1, by omega⟩
      have hbn : cl'.length + 2 * n ≤ cl.length + 2 * l.length := by rw [unhide HN]; exact hbd'
      clear hbd'
      cases hif : (x.toList == [105, 102]) with
      | true =>
        have HDS : Hid ((eqW x ifW || eqW x whW) = true) := hide (by unfold eqW; rw [ifW_l, hif]; rfl)
        have HCC := hide (unhide HCTL wr _ _ (x :: r) cl' (unhide HST) (by omega) (unhide hbk).own (by rw [← unhide HN]; omega) (by rw [← unhide HN]; omega) (by simp only [List.getElem?_cons_zero, Option.getD_some]; exact unhide HDS))
        go_wp2_with fail
        refine (unhide HCC).mono ?_
        rintro e w2 ⟨c2, cl2, k, ok, rfl, hown2, hstp2, hge2, hres⟩
        have hsz2 := hstp2.size
        have HO2 := hide hown2
        have HP2 := hide hstp2
        rcases hres with ⟨rfl, hct, hle2⟩ | ⟨rfl, hct, hk1, hkn, hle2⟩
        · have HE : Hid (rbs ctl (l.length + 1) l cl = none) := hide (by rw [(unhide hbk).eq, rbs, if_pos (unhide HDS), hct])
          clear hct hown2 hstp2
          go_wp2_with fail
          go_ret2
          exact ⟨_, cl2, false, rfl, unhide HO2, (unhide hbk).stp.trans (unhide HP2), by omega, by rw [← unhide HN] at hle2; omega, Or.inl ⟨rfl, unhide HE⟩⟩
        · have HE : Hid (rbs ctl (l.length + 1) l cl = rbs ctl m ((x :: r).drop k) cl2) := hide (by rw [(unhide hbk).eq, rbs, if_pos (unhide HDS), hct])
          rw [← unhide HN] at hkn
          have HST2 := hide ((unhide HST).below (hstp2.below (by omega) (fun j hj => ((unhide hbk).own.lt j (by simpa using hj)).1)))
          clear hct hown2 hstp2
          by_cases hck : cap = k
          · obtain ⟨rfl, rfl⟩ : n = k ∧ cap = k := ⟨by omega, by omega⟩
            go_wp2_with fail
            go_roundg m
            case measure => omega
            case rel => exact ⟨(x :: r).drop cap, cl2, ⟨by simp only [List.length_drop, ← unhide HN]; omega, (unhide HST2).rest cap (by rw [← unhide HN]; omega) _ (fun h => absurd h (by omega)) _ _ (by rw [← unhide HN]; omega) (by omega), unhide HO2, (unhide hbk).stp.trans (unhide HP2), by omega, by simp only [List.length_drop, ← unhide HN]; omega, unhide HE⟩⟩
          · go_wp2_with fail
            go_roundg m
            case measure => omega
            case rel => exact ⟨(x :: r).drop k, cl2, ⟨by simp only [List.length_drop, ← unhide HN]; omega, (unhide HST2).rest k (by rw [← unhide HN]; omega) _ (fun _ => rfl) _ _ (by rw [← unhide HN]) rfl, unhide HO2, (unhide hbk).stp.trans (unhide HP2), by omega, by simp only [List.length_drop, ← unhide HN]; omega, unhide HE⟩⟩
      | false =>
        cases hwh : (x.toList == [119, 104, 105, 108, 101]) with
        | true =>
          have HDS : Hid ((eqW x ifW || eqW x whW) = true) := hide (by unfold eqW; rw [ifW_l, whW_l, hif, hwh]; rfl)
          have HCC := hide (unhide HCTL wr _ _ (x :: r) cl' (unhide HST) (by omega) (unhide hbk).own (by rw [← unhide HN]; omega) (by rw [← unhide HN]; omega) (by simp only [List.getElem?_cons_zero, Option.getD_some]; exact unhide HDS))
          go_wp2_with fail
          refine (unhide HCC).mono ?_
          rintro e w2 ⟨c2, cl2, k, ok, rfl, hown2, hstp2, hge2, hres⟩
          have hsz2 := hstp2.size
          have HO2 := hide hown2
          have HP2 := hide hstp2
          rcases hres with ⟨rfl, hct, hle2⟩ | ⟨rfl, hct, hk1, hkn, hle2⟩
          · have HE : Hid (rbs ctl (l.length + 1) l cl = none) := hide (by rw [(unhide hbk).eq, rbs, if_pos (unhide HDS), hct])
            clear hct hown2 hstp2
            go_wp2_with fail
            go_ret2
            exact ⟨_, cl2, false, rfl, unhide HO2, (unhide hbk).stp.trans (unhide HP2), by omega, by rw [← unhide HN] at hle2; omega, Or.inl ⟨rfl, unhide HE⟩⟩
          · have HE : Hid (rbs ctl (l.length + 1) l cl = rbs ctl m ((x :: r).drop k) cl2) := hide (by rw [(unhide hbk).eq, rbs, if_pos (unhide HDS), hct])
            rw [← unhide HN] at hkn
            have HST2 := hide ((unhide HST).below (hstp2.below (by omega) (fun j hj => ((unhide hbk).own.lt j (by simpa using hj)).1)))
            clear hct hown2 hstp2
            by_cases hck : cap = k
            · obtain ⟨rfl, rfl⟩ : n = k ∧ cap = k := ⟨by omega, by omega⟩
              go_wp2_with fail
              go_roundg m
              case measure => omega
              case rel => exact ⟨(x :: r).drop cap, cl2, ⟨by simp only [List.length_drop, ← unhide HN]; omega, (unhide HST2).rest cap (by rw [← unhide HN]; omega) _ (fun h => absurd h (by omega)) _ _ (by rw [← unhide HN]; omega) (by omega), unhide HO2, (unhide hbk).stp.trans (unhide HP2), by omega, by simp only [List.length_drop, ← unhide HN]; omega, unhide HE⟩⟩
            · go_wp2_with fail
              go_roundg m
              case measure => omega
              case rel => exact ⟨(x :: r).drop k, cl2, ⟨by simp only [List.length_drop, ← unhide HN]; omega, (unhide HST2).rest k (by rw [← unhide HN]; omega) _ (fun _ => rfl) _ _ (by rw [← unhide HN]) rfl, unhide HO2, (unhide hbk).stp.trans (unhide HP2), by omega, by simp only [List.length_drop, ← unhide HN]; omega, unhide HE⟩⟩
        | false =>
          have HDS : Hid (¬ (eqW x ifW || eqW x whW) = true) := hide (by unfold eqW; rw [ifW_l, whW_l, hif, hwh]; simp)
          go_wp2_with fail
          obtain ⟨wo, hwo⟩ : ∃ wo : World, wo = wr := ⟨_, rfl⟩
          clear hwo
          go_loop [6] (fun i => ∃ k : Nat, k ≤ n ∧ i = .int .i64 k ∧ Hid (∀ j, (hj : j < (x :: r).length) → j < k → eqW (x :: r)[j] seW = false)) (fun i => n - (intOf i).toNat)
          case atStart => exact ⟨0, Nat.zero_le _, rfl, fun _ _ h => absurd h (by omega)⟩
          case round =>
            obtain ⟨k, hk, rfl, hall⟩ := hrel
            by_cases hgo : ∃ hlt : k < (x :: r).length, eqW (x :: r)[k] seW = false
            · obtain ⟨hltl, hx⟩ := hgo
              have hlt' : k < n := by rw [unhide HN]; exact hltl
              have hcx := unhide HCELL k hltl
              have hx' : ((x :: r)[k].toList == [59]) = false := by rw [← seW_l]; exact hx
              have HX := hide hx
              obtain ⟨y, hy⟩ : ∃ y, y = (x :: r)[k] := ⟨_, rfl⟩
              rw [← hy] at hcx hx'
              clear hy hx
              go_wp2_with fail
              go_round
              case rel =>
                refine ⟨k + 1, by omega, by go_num, fun j hj hjk => ?_⟩
                by_cases hjk' : j = k
                · subst hjk'; exact unhide HX
                · exact hall.out j hj (by omega)
              case measure => simp [intOf]; omega
            · by_cases hlt' : k < n
              · have hltl : k < (x :: r).length := by rw [← unhide HN]; exact hlt'
                have hx : eqW (x :: r)[k] seW = true := by
                  cases hx : eqW (x :: r)[k] seW with
                  | true => rfl
                  | false => exact absurd ⟨hltl, hx⟩ hgo
                have HF : Hid (fndL (x :: r) seW = k) := hide (fndL_hit _ _ k hltl hall.out hx)
                have hcx := unhide HCELL k hltl
                have hx' : ((x :: r)[k].toList == [59]) = true := by rw [← seW_l]; exact hx
                obtain ⟨y, hy⟩ : ∃ y, y = (x :: r)[k] := ⟨_, rfl⟩
                rw [← hy] at hcx hx'
                have hne : (((k : Int)) == (n : Int)) = false := by simp; omega
                have HSIM := hide (rsimple_any (w := wr.alloc (.cells #[.string ⟨#[]⟩, .string ⟨#[]⟩, .string ⟨#[]⟩, .string ⟨#[]⟩, .int .i64 0, .bool false] 100)) (((unhide HST).head k (by rw [← unhide HN]; omega)).below (((Below.refl B wr).alloc (by omega) _))).str (by rw [List.length_take]; omega))
                clear hgo hall hy hx
                go_wp2_with fail
                refine (unhide HSIM).mono ?_
                rintro e w2 ⟨⟨⟨o1, o2, o3, o4, o5, o6⟩, rfl, hins⟩, hb2⟩
                have HB2 := hide hb2
                have hz2' := hb2.size
                have hr8 : w2.heap[wr.heap.size]? = some (.cells #[.string ⟨#[]⟩, .string ⟨#[]⟩, .string ⟨#[]⟩, .string ⟨#[]⟩, .int .i64 0, .bool false] 100 (0, 0)) := by
                  rw [hb2.block _ (by simp)]; exact heap_alloc_new wr _
                obtain ⟨⟨q0, q1, q2, q3, q4, q5⟩, y0, y1, y2, y3, y4, y5⟩ := cellsR hr8
                have HINS := hide hins
                have hownw : w2.ownsRow B 100 6 u1 cl'.length (insCells cl') := rowBelow2 ((unhide hbk).own.alloc _) hb2
                have hne8 : ∀ b, u1.ownBlock = some b → b ≠ wr.heap.size := fun b hb => by have := ((unhide hbk).own.lt b hb).2; omega
                have HOW := hide hownw
                have HNE8 := hide hne8
                simp only [World.size_alloc] at hz2'
                clear hins hb2 hr8 hownw hne8
                simp only [Ins.cells]
                go_wp2_with (at_builtin; refine wpList_app1 _ rfl (.tmp 55) (.tmp 57) 52 rfl B 100 i0 _ 6 80 Tryz.underlying52 hi hz0 hz1 hz2 rfl (by decide) _ cl'.length (insCells cl') rfl ((own6 (unhide HOW) (unhide HNE8) _ _ _ _ _ _).alloc _) ⟨_, 0, none⟩ 1 [.string o1, .string o2, .string o3, .string o4, .int .i64 o5, .bool o6] rfl rfl (new_cells _ _ (by simp) [.string o1, .string o2, .string o3, .string o4, .int .i64 o5, .bool o6] _) (Ins.one ⟨o1, o2, o3, o4, o5, o6⟩) (by omega) (by omega) (by simp; omega) ?_)
                intro g2 cap2 w3 hown3 hgrow3 hblk3
                have R := bk_step (unhide hbk).stp (unhide hbk).own (by omega) (unhide HB2) hgrow3 (by simpa using hblk3)
                have HO3 := hide hown3
                have HR := hide R
                have hz3 := R.2.size
                clear hown3 hgrow3 hblk3 R q0 q1 q2 q3 q4 q5 y0 y1 y2 y3 y4 y5
                cases hrs : rsI ((x :: r).take k) with
                | none =>
                  have HE : Hid (rbs ctl (l.length + 1) l cl = none) := hide (by rw [(unhide hbk).eq, rbs, if_neg (unhide HDS), if_neg (by rw [unhide HF]; omega), unhide HF, hrs])
                  simp only [Option.isSome_none]
                  clear hrs
                  go_wp2_with fail
                  go_ret2
                  exact ⟨_, cl' ++ [⟨o1, o2, o3, o4, o5, o6⟩], false, rfl, own_cast (unhide HO3) (by simp) (by rw [insCells_snoc]; rfl), (unhide HR).1, by simp; omega, by simp; omega, Or.inl ⟨rfl, unhide HE⟩⟩
                | some i =>
                  have hio : (⟨o1, o2, o3, o4, o5, o6⟩ : Ins) = i := unhide HINS i hrs
                  have HE : Hid (rbs ctl (l.length + 1) l cl = rbs ctl m ((x :: r).drop (k + 1)) (cl' ++ [⟨o1, o2, o3, o4, o5, o6⟩])) := hide (by rw [(unhide hbk).eq, rbs, if_neg (unhide HDS), if_neg (by rw [unhide HF]; omega), unhide HF, hrs, hio])
                  have HST3 := hide ((unhide HST).below (unhide HR).2)
                  simp only [Option.isSome_some]
                  clear hrs hio
                  by_cases hck : cap = k + 1
                  · obtain ⟨rfl, rfl⟩ : n = k + 1 ∧ cap = k + 1 := ⟨by omega, by omega⟩
                    go_wp2_with fail
                    go_roundg m
                    case measure => omega
                    case rel => exact ⟨(x :: r).drop (k + 1), cl' ++ [⟨o1, o2, o3, o4, o5, o6⟩], ⟨by simp only [List.length_drop, ← unhide HN]; omega, (unhide HST3).rest (k + 1) (by rw [← unhide HN]; omega) _ (fun h => absurd h (by omega)) _ _ (by rw [← unhide HN]; omega) (by omega), own_cast (unhide HO3) (by simp) (by rw [insCells_snoc]; rfl), (unhide HR).1, by simp; omega, by simp only [List.length_drop, List.length_append, List.length_singleton, ← unhide HN]; omega, unhide HE⟩⟩
                  · go_wp2_with fail
                    go_roundg m
                    case measure => omega
                    case rel => exact ⟨(x :: r).drop (k + 1), cl' ++ [⟨o1, o2, o3, o4, o5, o6⟩], ⟨by simp only [List.length_drop, ← unhide HN]; omega, (unhide HST3).rest (k + 1) (by rw [← unhide HN]; omega) _ (fun _ => rfl) _ _ (by rw [← unhide HN]) rfl, own_cast (unhide HO3) (by simp) (by rw [insCells_snoc]; rfl), (unhide HR).1, by simp; omega, by simp only [List.length_drop, List.length_append, List.length_singleton, ← unhide HN]; omega, unhide HE⟩⟩
              · have HF : Hid (fndL (x :: r) seW = (x :: r).length) := hide (fndL_miss _ _ (fun j hj => hall.out j hj (by rw [← unhide HN] at hj; omega)))
                have hd : decide ((k : Int) < (n : Int)) = false := by simp; omega
                have heq : (((k : Int)) == (n : Int)) = true := by simp; omega
                have HE : Hid (rbs ctl (l.length + 1) l cl = none) := hide (by rw [(unhide hbk).eq, rbs, if_neg (unhide HDS), if_pos (unhide HF)])
                clear hgo hall
                go_wp2_with fail
                go_ret2
                exact ⟨_, cl', false, rfl, (unhide hbk).own, (unhide hbk).stp, hge', by omega, Or.inl ⟨rfl, unhide HE⟩⟩
end Go.Proofs.YtciihepbeacppaaGreat
