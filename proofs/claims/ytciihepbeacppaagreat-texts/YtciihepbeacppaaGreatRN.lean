import Derived.Test.YtciihepbeacppaaGreatRM
namespace Go.Proofs.YtciihepbeacppaaGreat
open Go.RowKit

/-- where a bracket is shut, its word asked for -/
theorem shut_at {w : World} {v : Value} {l : List ByteArray} (i : Nat) (h : Strs w v l) (hl : l.length ≤ 20000) (hi : i < l.length) (hb : eqW (l[i]?.getD em) lbW = true) :
    Calls Tryz.prog 49 #[v, .int .i64 (i : Int)] w fun e w' => e = .returned (.int .i64 (shI l i)) ∧ w' = w := by
  have : l[i]?.getD em = l[i] := by simp [hi]
  rw [this] at hb
  exact shut_any i h hl hi hb

theorem own_form {w : World} {B : Nat} {e : TypeId} {sz n : Nat} {v : Value} {xs : List Value} (h : w.ownsRow B e sz v n xs) (hn : 0 < n) : ∃ g cap, v = .slice (some ⟨g, 0, none⟩) n cap := by
  rcases h.2 with ⟨_, h0⟩ | ⟨g, cap, cur, hv, _⟩
  · omega
  · exact ⟨g, cap, hv⟩
theorem ins_len (l : List Ins) : (insCells l).length = l.length * 6 := by
  induction l with
  | nil => rfl
  | cons a r ih => simp only [insCells, List.flatMap_cons, List.length_append, List.length_cons] at *; rw [ih]; simp [Ins.cells]; omega
theorem setTo_len (k n : Nat) (l : List Ins) : (setTo k n l).length = l.length := by simp [setTo]
theorem ins_setTo (k n : Nat) (l : List Ins) : insCells (setTo k n l) = (insCells l).set (k * 6 + 4) (.int .i64 n) := by
  induction l generalizing k with
  | nil => simp [insCells, setTo]
  | cons a r ih =>
    cases k with
    | zero => simp [insCells, setTo, Ins.cells]
    | succ k =>
      have := ih k
      simp only [insCells, setTo, List.modify_succ_cons, List.flatMap_cons] at *
      rw [this, show (k + 1) * 6 + 4 = (k * 6 + 4) + a.cells.length by simp [Ins.cells]; omega, List.set_append_right _ _ (by omega)]
      simp
theorem ins_to (k : Nat) (l : List Ins) (hk : k < l.length) : ∃ m : Nat, (insCells l)[k * 6 + 4]? = some (.int .i64 m) := by
  induction l generalizing k with
  | nil => simp at hk
  | cons a r ih =>
    cases k with
    | zero => exact ⟨a.to, by simp [insCells, Ins.cells]⟩
    | succ k =>
      obtain ⟨m, hm⟩ := ih k (by simpa using hk)
      refine ⟨m, ?_⟩
      simp only [insCells, List.flatMap_cons] at *
      rw [show (k + 1) * 6 + 4 = (k * 6 + 4) + a.cells.length by simp [Ins.cells]; omega, List.getElem?_append_right (by omega), Nat.add_sub_cancel]
      exact hm
theorem own_to {w : World} {B : Nat} {e : TypeId} {n g cap k : Nat} {l : List Ins} (h : w.ownsRow B e 6 (.slice (some ⟨g, 0, none⟩) n cap) n (insCells l)) (hk : k < l.length) : (∃ m : Nat, w.cell? ⟨g, k * 6 + 4, none⟩ = some (.int .i64 m)) ∧ w.frozen? ⟨g, k * 6 + 4, none⟩ = false := by
  constructor
  · obtain ⟨m, hm⟩ := ins_to k l hk
    have := h.cells (g := g) rfl (k * 6 + 4) _ hm
    rw [show (⟨g, 0, none⟩ : Addr).add (k * 6 + 4) = ⟨g, k * 6 + 4, none⟩ by unfold Addr.add; split <;> simp_all] at this
    exact ⟨m, this⟩
  · rcases h.2 with ⟨h0, _⟩ | ⟨g', cap', cur, hv, hB, hg, hn, hm, hs, ht⟩
    · cases h0
    · simp only [Value.slice.injEq, Option.some.injEq, Addr.mk.injEq] at hv
      obtain ⟨⟨rfl, _⟩, _, rfl⟩ := hv
      simp [World.frozen?, hg]
theorem own_setTo {w : World} {B : Nat} {e : TypeId} {n g cap : Nat} {l : List Ins} (h : w.ownsRow B e 6 (.slice (some ⟨g, 0, none⟩) n cap) n (insCells l)) (hl : l.length = n) (k m : Nat) :
    (w.setCell ⟨g, k * 6 + 4, none⟩ (.int .i64 (m : Int))).ownsRow B e 6 (.slice (some ⟨g, 0, none⟩) n cap) (setTo k m l).length (insCells (setTo k m l)) := by
  rw [setTo_len, hl, ins_setTo]; exact rown_set h _
/-- an append behind two new blocks -/
theorem ct_step {B : Nat} {w w1 w2 : World} {F : List Nat} {v : Value} {n : Nat} {xs : List Value} {e : TypeId} {sz : Nat} {o o' : Obj} {g2 : Nat} (stp : Stp F w v.ownBlock.toList w1) (own : w1.ownsRow B e sz v n xs) (hB : B ≤ w1.heap.size) (hg : ((w1.alloc o).alloc o').grownBy w2 v.ownBlock) (hblk : some g2 = v.ownBlock ∨ g2 = w1.heap.size + 1 + 1) :
    Stp F w [g2] w2 ∧ Below B w1 w2 ∧ w2.heap[w1.heap.size]? = some o ∧ g2 ≠ w1.heap.size ∧ w1.heap.size < w2.heap.size := by
  have hrow : ∀ k, v.ownBlock = some k → k ∈ F ∨ w.heap.size ≤ k := fun k hk => stp.foot k (by rw [hk]; simp)
  have hsz := hg.size
  have hs0 := stp.size
  simp only [World.size_alloc] at hsz
  refine ⟨(((stp.alloc o).alloc o').grown hg hrow).refoot (fun k hk => ?_), ?_, ?_, ?_, by omega⟩
  · simp only [List.mem_singleton] at hk
    subst hk
    rcases hblk with h | h
    · exact hrow k h.symm
    · right; omega
  · exact (((Below.refl B w1).alloc hB o).alloc (by simp; omega) o').grown hg (by simp; omega) (fun k hk => (own.lt k hk).1)
  · rw [hg.block _ (by simp; omega) (fun h => by have := (own.lt _ h.symm).2; omega), Below.heap_alloc _ _ _ (by simp)]
    exact heap_alloc_new w1 o
  · rintro rfl
    rcases hblk with h | h
    · have := (own.lt _ h.symm).2; omega
    · omega
/-- an append behind one new block -/
theorem ct_step1 {B : Nat} {w w1 w2 : World} {F : List Nat} {v : Value} {n : Nat} {xs : List Value} {e : TypeId} {sz : Nat} {o : Obj} {g2 : Nat} (stp : Stp F w v.ownBlock.toList w1) (own : w1.ownsRow B e sz v n xs) (hB : B ≤ w1.heap.size) (hg : (w1.alloc o).grownBy w2 v.ownBlock) (hblk : some g2 = v.ownBlock ∨ g2 = w1.heap.size + 1) :
    Stp F w [g2] w2 ∧ Below B w1 w2 ∧ ∀ k, k < w1.heap.size → v.ownBlock ≠ some k → w2.heap[k]? = w1.heap[k]? := by
  have hrow : ∀ k, v.ownBlock = some k → k ∈ F ∨ w.heap.size ≤ k := fun k hk => stp.foot k (by rw [hk]; simp)
  have hsz := hg.size
  have hs0 := stp.size
  simp only [World.size_alloc] at hsz
  refine ⟨((stp.alloc o).grown hg hrow).refoot (fun k hk => ?_), ?_, ?_⟩
  · simp only [List.mem_singleton] at hk
    subst hk
    rcases hblk with h | h
    · exact hrow k h.symm
    · right; omega
  · exact ((Below.refl B w1).alloc hB o).grown hg (by simp; omega) (fun k hk => (own.lt k hk).1)
  · intro k hk hne
    rw [hg.block k (by simp; omega) (fun h => hne h.symm), Below.heap_alloc _ _ _ hk]

section
variable {blk : List ByteArray → List Ins → Option (List Ins)} {l : List ByteArray} {c c2 c7 : List Ins} {b e f : Nat} {i1 : Ins} {hd : Bool}
theorem rct_none (h : rcH l = some (b, e)) (h0 : eqW (l[0]?.getD em) whW = hd) (hi : { rcI ((l.drop 2).take (b - 2)) with head := hd } = i1) (hb : blk ((l.drop (b + 2)).take (e - (b + 2))) (c ++ [i1]) = none) : rct blk l c = none := by
  unfold rct; rw [h]; dsimp only; rw [h0, hi, hb]
theorem rct_while (h : rcH l = some (b, e)) (h0 : eqW (l[0]?.getD em) whW = true) (hi : { rcI ((l.drop 2).take (b - 2)) with head := true } = i1) (hb : blk ((l.drop (b + 2)).take (e - (b + 2))) (c ++ [i1]) = some c2) : rct blk l c = some (setTo c.length (c2.length + 1) (c2 ++ [gt c.length]), e + 1) := by
  unfold rct; rw [h]; dsimp only; rw [h0, hi, hb]; rfl
theorem rct_if (h : rcH l = some (b, e)) (h0 : eqW (l[0]?.getD em) whW = false) (hi : { rcI ((l.drop 2).take (b - 2)) with head := false } = i1) (hb : blk ((l.drop (b + 2)).take (e - (b + 2))) (c ++ [i1]) = some c2) (he : (decide (e + 1 < l.length) && eqW (l[e + 1]?.getD em) elW) = false) : rct blk l c = some (setTo c.length c2.length c2, e + 1) := by
  unfold rct; rw [h]; dsimp only; rw [h0, hi, hb]; dsimp only; rw [he]; rfl
theorem rct_el1 (h : rcH l = some (b, e)) (h0 : eqW (l[0]?.getD em) whW = false) (hi : { rcI ((l.drop 2).take (b - 2)) with head := false } = i1) (hb : blk ((l.drop (b + 2)).take (e - (b + 2))) (c ++ [i1]) = some c2) (he : (decide (e + 1 < l.length) && eqW (l[e + 1]?.getD em) elW) = true) (h1 : l.length ≤ e + 2 ∨ eqW (l[e + 2]?.getD em) lbW = false) : rct blk l c = none := by
  unfold rct; rw [h]; dsimp only; rw [h0, hi, hb]; dsimp only; rw [he, if_pos h1]; rfl
theorem rct_el2 (h : rcH l = some (b, e)) (h0 : eqW (l[0]?.getD em) whW = false) (hi : { rcI ((l.drop 2).take (b - 2)) with head := false } = i1) (hb : blk ((l.drop (b + 2)).take (e - (b + 2))) (c ++ [i1]) = some c2) (he : (decide (e + 1 < l.length) && eqW (l[e + 1]?.getD em) elW) = true) (h1 : ¬ (l.length ≤ e + 2 ∨ eqW (l[e + 2]?.getD em) lbW = false)) (h2 : shI l (e + 2) < 0) : rct blk l c = none := by
  unfold rct; rw [h]; dsimp only; rw [h0, hi, hb]; dsimp only; rw [he, if_neg h1, if_pos h2]; rfl
theorem rct_el3 (h : rcH l = some (b, e)) (h0 : eqW (l[0]?.getD em) whW = false) (hi : { rcI ((l.drop 2).take (b - 2)) with head := false } = i1) (hb : blk ((l.drop (b + 2)).take (e - (b + 2))) (c ++ [i1]) = some c2) (he : (decide (e + 1 < l.length) && eqW (l[e + 1]?.getD em) elW) = true) (h1 : ¬ (l.length ≤ e + 2 ∨ eqW (l[e + 2]?.getD em) lbW = false)) (h2 : shI l (e + 2) = (f : Int)) :
    rct blk l c = (blk ((l.drop (e + 3)).take (f - (e + 3))) (setTo c.length (c2.length + 1) (c2 ++ [gt 0]))).map (fun c7 => (setTo c2.length c7.length c7, f + 1)) := by
  unfold rct; rw [h]; dsimp only; rw [h0, hi, hb]; simp only [he, Bool.false_eq_true, if_false, if_true]
  rw [if_neg h1, if_neg (show ¬ shI l (e + 2) < 0 by rw [h2]; omega), h2]
  simp only [Int.toNat_natCast]
  cases blk ((l.drop (e + 3)).take (f - (e + 3))) (setTo c.length (c2.length + 1) (c2 ++ [gt 0])) <;> rfl
end

set_option maxRecDepth 100000 in
set_option maxHeartbeats 1000000 in
/-- control with a good head, from what block keeps -/
theorem rcontrol_good {B f : Nat} {blk : List ByteArray → List Ins → Option (List Ins)} (hblk : RblOK B blk f) {w : World} {c : Value} {l : List ByteArray} {cl : List Ins} {g off n cap b : Nat} {x y z : ByteArray} {hd : Bool} (hstr : StrB B w (.slice (some ⟨g, off, none⟩) n cap) l) (hn : n = l.length) (hB : B ≤ w.heap.size) (hown : w.ownsRow B 100 6 c cl.length (insCells cl)) (hlf : n ≤ f) (hbd : cl.length + 2 * n ≤ 2000)
    (hncap : n ≤ cap) (hm : cap ≤ 9223372036854775807) (hg : g < B) (hb : fndL l clW = b) (hcell : ∀ j, (h : j < l.length) → w.cell? ⟨g, off + j, none⟩ = some (.string l[j]))
    (h2 : 2 ≤ b) (hbn : b + 1 < n) (c0 : w.cell? ⟨g, off, none⟩ = some (.string x)) (c1 : w.cell? ⟨g, off + 1, none⟩ = some (.string y)) (cb : w.cell? ⟨g, off + (b + 1), none⟩ = some (.string z))
    (hx : (x.toList == [119, 104, 105, 108, 101]) = hd) (hy : (y.toList == [40]) = true) (hz : (z.toList == [123]) = true) (hl0 : eqW (l[0]?.getD em) whW = hd) (hlz : eqW (l[b + 1]?.getD em) lbW = true) (hg1 : ¬ (l.length < 2 ∨ eqW (l[1]?.getD em) opP = false ∨ l.length ≤ fndL l clW + 1 ∨ eqW (l[fndL l clW + 1]?.getD em) lbW = false)) :
    Calls Tryz.prog 73 #[.slice (some ⟨g, off, none⟩) n cap, c] w fun e w' => CtPost B w c cl l.length (rct blk l cl) e w' := by
  obtain ⟨i0, hi, hz0, hz1, hz2⟩ := info_parts Tryz.infoIns
  obtain ⟨ao, ccap, rfl⟩ := slice_of_own hown
  have HF := hide (find_cl hstr.str (by omega) b hb)
  have HST2 := hide (hstr.part rfl 2 b h2 (by omega) (some ⟨g, off + 2, none⟩) (fun g' off' e _ => by simp only [Option.some.injEq, Addr.mk.injEq] at e; obtain ⟨rfl, rfl, _⟩ := e; rfl))
  have HC := hide (rcond_any (unhide HST2).str)
  have HBLK := hide hblk
  have HST := hide hstr
  have HOWN := hide hown
  have HB := hide hb
  have HN := hide hn
  have HCELL := hide hcell
  have HL0 := hide hl0
  have HLZ := hide hlz
  have HG1 := hide hg1
  have hc2 : ¬ cap = 2 := by omega
  clear hblk hstr hown hb hn hcell hl0 hlz hg1 HST2
  go_enter Tryz.func73, Tryz.ntmps73
  go_wp2_with (go_at_call 48; refine (unhide HF).mono ?_; rintro e w' ⟨rfl, rfl⟩)
  refine (unhide HC).mono ?_
  rintro e w1 ⟨⟨⟨o1, o2, o3, o4, o5, o6⟩, rfl, hins⟩, hb1⟩
  have HINS := hide hins
  have hs1 := hb1.size
  have hB1 : B ≤ w1.heap.size := Nat.le_trans hB hs1
  have HB1 := hide (hb1.mono hB)
  have HS1 := hide ((Stp.refl (Value.slice ao cl.length ccap).ownBlock.toList w').onBelow hb1)
  have c01 : w1.cell? ⟨g, off, none⟩ = some (.string x) := by rw [(hb1.mono hB).cell (p := ⟨g, off, none⟩) hg]; exact c0
  have HOWN1 := hide (rowBelow2 (unhide HOWN) hb1)
  obtain ⟨s, hs⟩ : ∃ s, s = shI l (b + 1) := ⟨_, rfl⟩
  have HSH : Hid (∀ w2, Below B w' w2 → Calls Tryz.prog 49 #[.slice (some ⟨g, off, none⟩) n cap, .int .i64 ((b : Int) + 1)] w2 fun e w3 => e = .returned (.int .i64 s) ∧ w3 = w2) := hide (fun w2 h => by
    rw [hs]
    exact shut_at (b + 1) ((unhide HST).below h).str (by rw [← unhide HN]; omega) (by rw [← unhide HN]; omega) (unhide HLZ))
  have HS := hide hs
  clear hins hb1 hs HC HF c0 c1 cb hy hz
  simp only [Ins.cells]
  by_cases hbad : rcB ((l.drop 2).take (b - 2)) = false ∨ s < 0
  · have HNONE : Hid (rct blk l cl = none) := hide (by
      have : rcH l = none := rcH_none2 (by rw [unhide HB, ← unhide HS]; exact hbad)
      unfold rct; rw [this])
    have HPOST : Hid (∀ o, CtPost B w' (.slice ao cl.length ccap) cl l.length (rct blk l cl) (.returned (.tuple #[.slice ao cl.length ccap, .int .i64 0, .bool false])) (w1.alloc o)) := hide (fun o =>
      ⟨_, cl, 0, false, rfl, (unhide HOWN1).alloc _, (unhide HS1).alloc _, Nat.le_refl _, Or.inl ⟨rfl, unhide HNONE, by omega⟩⟩)
    cases hr : rcB ((l.drop 2).take (b - 2)) with
    | false =>
      clear hbad hr
      go_wp2_with (go_at_call 49; refine (unhide HSH _ ((unhide HB1).alloc hB1 _)).mono ?_; rintro e w' ⟨rfl, rfl⟩)
      go_ret3
      exact unhide HPOST _
    | true =>
      have hsn : s < 0 := by rcases hbad with h | h; exact absurd h (by simp [hr]); exact h
      clear hbad hr
      go_wp2_with (go_at_call 49; refine (unhide HSH _ ((unhide HB1).alloc hB1 _)).mono ?_; rintro e w' ⟨rfl, rfl⟩)
      go_ret3
      exact unhide HPOST _
  · have hr : rcB ((l.drop 2).take (b - 2)) = true := by
      cases h : rcB ((l.drop 2).take (b - 2)) with
      | true => rfl
      | false => exact absurd (Or.inl h) hbad
    obtain ⟨e, he, heb, hen⟩ : ∃ e : Nat, shI l (b + 1) = (e : Int) ∧ b + 1 + 1 ≤ e ∧ e < l.length := shI_bd (by rw [← unhide HS]; exact fun h => hbad (Or.inr h))
    have HH : Hid (rcH l = some (b, e)) := hide (by
      rw [rcH_some (unhide HG1) (by rw [unhide HB, ← unhide HS]; exact hbad), unhide HB, he]; rfl)
    obtain rfl : s = (e : Int) := (unhide HS).trans he
    rw [← unhide HN] at hen
    have HINS' := hide (unhide HINS hr)
    rw [hr]
    have c02 : (w1.alloc (.cells #[.string o1, .string o2, .string o3, .string o4, .int .i64 o5, .bool o6] 100)).cell? ⟨g, off, none⟩ = some (.string x) := by
      rw [((Below.refl B w1).alloc hB1 _).cell (p := ⟨g, off, none⟩) hg]; exact c01
    clear hbad hr he HS HINS HG1 c01
    go_wp2_with first | (go_at_call 49; refine (unhide HSH _ ((unhide HB1).alloc hB1 _)).mono ?_; rintro e w' ⟨rfl, rfl⟩) | (at_builtin; refine wpList_app1 _ rfl (.tmp 67) (.tmp 69) 52 rfl B 100 i0 _ 6 80 Tryz.underlying52 hi hz0 hz1 hz2 rfl (by decide) _ cl.length (insCells cl) rfl (rowAlloc2 (unhide HOWN1) _ _) ⟨_, 0, none⟩ 1 [.string o1, .string o2, .string o3, .string o4, .int .i64 o5, .bool hd] rfl rfl (new_cells _ _ (by simp) [.string o1, .string o2, .string o3, .string o4, .int .i64 o5, .bool hd] _) (Ins.one ⟨o1, o2, o3, o4, o5, hd⟩) (by omega) (by omega) (by simp; omega) ?_)
    intro g2 cap2 w2 hown2 hgrow2 hblk2
    have R := ct_step (unhide HS1) (unhide HOWN1) hB1 hgrow2 (by simpa using hblk2)
    obtain ⟨i1, hi1⟩ : ∃ i1 : Ins, i1 = ⟨o1, o2, o3, o4, o5, hd⟩ := ⟨_, rfl⟩
    have HO2 : Hid (w2.ownsRow B 100 6 (.slice (some ⟨g2, 0, none⟩) (cl.length + 1) cap2) (cl ++ [i1]).length (insCells (cl ++ [i1]))) := hide (own_cast hown2 (by simp) (by rw [insCells_snoc, hi1]; rfl))
    have HRI : Hid ({ rcI ((l.drop 2).take (b - 2)) with head := hd } = i1) := hide (by rw [← unhide HINS', hi1])
    have HSW2 := hide R.1
    have HBW2 := hide ((unhide HB1).trans R.2.1)
    have HR8 := hide R.2.2.1
    have hg2 := R.2.2.2.1
    have hz12 := R.2.2.2.2
    have HST3 := hide (((unhide HST).below (unhide HBW2)).part rfl (b + 2) e (by omega) (by rw [← unhide HN]; omega) (some ⟨g, off + (b + 2), none⟩) (fun g' off' e _ => by simp only [Option.some.injEq, Addr.mk.injEq] at e; obtain ⟨rfl, rfl, _⟩ := e; rfl))
    have HBC := hide (unhide HBLK w2 _ _ _ (cl ++ [i1]) (unhide HST3) (by omega) (unhide HO2) (by simp only [List.length_take, List.length_drop]; omega) (by simp only [List.length_take, List.length_drop, List.length_append, List.length_singleton]; omega))
    have hc3 : ¬ cap = b + 2 := by omega
    clear R hown2 hgrow2 hblk2 hi1 c02 HST3 HSH HLZ
    go_wp2_with fail
    refine (unhide HBC).mono ?_
    rintro _ w3 ⟨c3, cl3, ok, rfl, hown3, hstp3, hge3, hle3, hres⟩
    simp only [List.length_take, List.length_drop, List.length_append, List.length_singleton] at hge3 hle3
    rw [← unhide HN] at hle3
    have hL3 : cl3.length ≤ cl.length + 1 + 2 * (e - (b + 2)) := by omega
    obtain ⟨g3, cap3, rfl⟩ := own_form hown3 (by omega)
    have hstp3' : Stp [g2] w2 [g3] w3 := hstp3
    have hzs3 := hstp3'.size
    have hr83 : w3.heap[w1.heap.size]? = some (.cells #[.string o1, .string o2, .string o3, .string o4, .int .i64 o5, .bool hd] 100 (0, 0)) := by
      rw [hstp3'.block _ hz12 (by simpa using Ne.symm hg2)]; exact unhide HR8
    have hg3 : g3 ≠ w1.heap.size := by
      rcases hstp3'.foot g3 (by simp) with h | h
      · simp only [List.mem_singleton] at h; rw [h]; exact hg2
      · omega
    have HSW3 := hide ((unhide HSW2).trans hstp3')
    have HBW3 := hide ((unhide HBW2).trans (hstp3'.below (by omega) (fun k hk => by simp only [List.mem_singleton] at hk; subst hk; exact ((unhide HO2).lt k rfl).1)))
    have HO3 := hide hown3
    have HR83 := hide hr83
    obtain ⟨⟨q0, q1, q2, q3, q4, q5⟩, -⟩ := cellsR hr83
    clear hown3 hstp3 hstp3' hle3 hr83 HBC HSW2 HBW2 HR8 hg2 HO2 q0 q1 q2 q3 q4
    rcases hres with ⟨rfl, hrb⟩ | ⟨rfl, hrb⟩
    · have HNONE := hide (rct_none (unhide HH) (unhide HL0) (unhide HRI) hrb)
      clear hrb
      go_wp2_with fail
      go_ret3
      exact ⟨_, cl3, 0, false, rfl, unhide HO3, unhide HSW3, by omega, Or.inl ⟨rfl, unhide HNONE, by rw [← unhide HN]; omega⟩⟩
    · have HRB := hide hrb
      clear hrb
      cases hd with
      | true =>
        have HE := hide (rct_while (unhide HH) (unhide HL0) (unhide HRI) (unhide HRB))
        go_wp2_with (at_builtin; refine wpList_app1 _ rfl (.tmp 86) (.tmp 89) 52 rfl B 100 i0 _ 6 80 Tryz.underlying52 hi hz0 hz1 hz2 rfl (by decide) _ cl3.length (insCells cl3) rfl ((unhide HO3).alloc _) ⟨_, 0, none⟩ 1 [.string ⟨#[103, 111, 116, 111]⟩, .string ⟨#[]⟩, .string ⟨#[]⟩, .string ⟨#[]⟩, .int .i64 cl.length, .bool false] rfl rfl (new_cells _ _ (by simp) [.string ⟨#[103, 111, 116, 111]⟩, .string ⟨#[]⟩, .string ⟨#[]⟩, .string ⟨#[]⟩, .int .i64 cl.length, .bool false] _) (Ins.one (gt cl.length)) (by omega) (by omega) (by simp; omega) ?_)
        intro g4 cap4 w4 hown4 hgrow4 hblk4
        have R := ct_step1 (v := .slice (some ⟨g3, 0, none⟩) cl3.length cap3) (unhide HSW3) (unhide HO3) (by omega) hgrow4 (by simpa using hblk4)
        have hown4' : w4.ownsRow B 100 6 (.slice (some ⟨g4, 0, none⟩) (cl3.length + 1) cap4) (cl3.length + 1) (insCells (cl3 ++ [gt cl.length])) := by rw [insCells_snoc]; exact hown4
        obtain ⟨⟨m4, hm4⟩, hf4⟩ := own_to (k := cl.length) hown4' (by simp; omega)
        have hr84 : w4.heap[w1.heap.size]? = some (.cells #[.string o1, .string o2, .string o3, .string o4, .int .i64 o5, .bool true] 100 (0, 0)) := by
          rw [R.2.2 _ (by omega) (by simpa [Value.ownBlock] using hg3)]; exact unhide HR83
        obtain ⟨⟨q0, q1, q2, q3, q4, q6⟩, -⟩ := cellsR hr84
        have HO4 := hide hown4'
        have HSW4 := hide R.1
        clear hown4 hgrow4 hblk4 hown4' R hr84 q0 q1 q2 q3 q4 q5 HR83 HSW3 HO3 HBW3
        go_wp2_with fail
        go_ret3
        exact ⟨_, setTo cl.length (cl3.length + 1) (cl3 ++ [gt cl.length]), e + 1, true, rfl, own_setTo (unhide HO4) (by simp) _ _, (unhide HSW4).setCell (p := ⟨g4, cl.length * 6 + 4, none⟩) ((unhide HSW4).foot g4 (by simp)) _, by simp [setTo_len]; omega, Or.inr ⟨rfl, unhide HE, by omega, by rw [← unhide HN]; omega, by simp [setTo_len]; omega⟩⟩
      | false =>
        have CELLAT : Hid (∀ j, j < n → ∃ y, w3.cell? ⟨g, off + j, none⟩ = some (.string y) ∧ l[j]?.getD em = y) := hide (fun j hj => by
          have hj' : j < l.length := by rw [← unhide HN]; exact hj
          exact ⟨l[j], by rw [(unhide HBW3).cell (p := ⟨g, off + j, none⟩) hg]; exact unhide HCELL j hj', by simp [hj']⟩)
        have HEL : Hid (elW.toList = [101, 108, 115, 101]) := hide (ByteArray.toList_eq _)
        have HLB : Hid (lbW.toList = [123]) := hide (ByteArray.toList_eq _)
        cases hel : (decide (e + 1 < l.length) && eqW (l[e + 1]?.getD em) elW) with
        | false =>
          have HE := hide (rct_if (unhide HH) (unhide HL0) (unhide HRI) (unhide HRB) hel)
          obtain ⟨⟨m4, hm4⟩, hf4⟩ := own_to (k := cl.length) (unhide HO3) (by omega)
          have HP : Hid (CtPost B w' (.slice ao cl.length ccap) cl l.length (rct blk l cl) (.returned (.tuple #[.slice (some ⟨g3, 0, none⟩) cl3.length cap3, .int .i64 ((e : Int) + 1), .bool true])) (w3.setCell ⟨g3, cl.length * 6 + 4, none⟩ (.int .i64 (cl3.length : Int)))) := hide
            ⟨_, setTo cl.length cl3.length cl3, e + 1, true, rfl, own_setTo (unhide HO3) rfl _ _, (unhide HSW3).setCell (p := ⟨g3, cl.length * 6 + 4, none⟩) ((unhide HSW3).foot g3 (by simp)) _, by simp [setTo_len]; omega, Or.inr ⟨rfl, unhide HE, by omega, by rw [← unhide HN]; omega, by simp [setTo_len]; omega⟩⟩
          by_cases hen1 : e + 1 < n
          · obtain ⟨y1, hy1, hl1⟩ := unhide CELLAT (e + 1) hen1
            have hy1' : (y1.toList == [101, 108, 115, 101]) = false := by
              rw [hl1, ← unhide HN] at hel
              simp only [hen1, decide_true, Bool.true_and] at hel
              rw [← unhide HEL]; exact hel
            clear hel hl1
            go_wp2_with fail
            go_ret3
            exact unhide HP
          · clear hel
            go_wp2_with fail
            go_ret3
            exact unhide HP
        | true =>
          have hen1 : e + 1 < n := by
            rw [unhide HN]
            simp only [Bool.and_eq_true, decide_eq_true_eq] at hel
            exact hel.1
          obtain ⟨y1, hy1, hl1⟩ := unhide CELLAT (e + 1) hen1
          have hy1' : (y1.toList == [101, 108, 115, 101]) = true := by
            simp only [Bool.and_eq_true] at hel
            rw [hl1] at hel
            rw [← unhide HEL]; exact hel.2
          have HELS := hide hel
          have HPN : Hid (rct blk l cl = none → CtPost B w' (.slice ao cl.length ccap) cl l.length (rct blk l cl) (.returned (.tuple #[.slice (some ⟨g3, 0, none⟩) cl3.length cap3, .int .i64 0, .bool false])) w3) := hide (fun h =>
            ⟨_, cl3, 0, false, rfl, unhide HO3, unhide HSW3, by omega, Or.inl ⟨rfl, h, by rw [← unhide HN]; omega⟩⟩)
          clear hel hl1
          by_cases hen2 : e + 2 < n
          · obtain ⟨y2, hy2, hl2⟩ := unhide CELLAT (e + 2) hen2
            cases hy2' : (y2.toList == [123]) with
            | false =>
              have HE := hide (rct_el1 (unhide HH) (unhide HL0) (unhide HRI) (unhide HRB) (unhide HELS) (Or.inr (by rw [hl2]; unfold eqW; rw [unhide HLB]; exact hy2')))
              clear hl2
              go_wp2_with fail
              go_ret3
              exact unhide HPN (unhide HE)
            | true =>
              have HL2 : Hid (eqW (l[e + 2]?.getD em) lbW = true) := hide (by rw [hl2]; unfold eqW; rw [unhide HLB]; exact hy2')
              have HN1 : Hid (¬ (l.length ≤ e + 2 ∨ eqW (l[e + 2]?.getD em) lbW = false)) := hide (by rw [unhide HL2, ← unhide HN]; simp; omega)
              obtain ⟨s, hs⟩ : ∃ s, s = shI l (e + 2) := ⟨_, rfl⟩
              have HSH : Hid (Calls Tryz.prog 49 #[.slice (some ⟨g, off, none⟩) n cap, .int .i64 ((e : Int) + 2)] w3 fun e w5 => e = .returned (.int .i64 s) ∧ w5 = w3) := hide (by
                rw [hs]
                exact shut_at (e + 2) ((unhide HST).below (unhide HBW3)).str (by rw [← unhide HN]; omega) (by rw [← unhide HN]; omega) (unhide HL2))
              have HS := hide hs
              clear hs hl2
              by_cases hs0 : s < 0
              · have HE := hide (rct_el2 (unhide HH) (unhide HL0) (unhide HRI) (unhide HRB) (unhide HELS) (unhide HN1) (by rw [← unhide HS]; exact hs0))
                go_wp2_with (go_at_call 49; refine (unhide HSH).mono ?_; rintro _ wx ⟨rfl, hwx⟩; have hwy := hwx.symm; clear hwx; subst hwy)
                go_ret3
                exact unhide HPN (unhide HE)
              · obtain ⟨f2, he2, heb2, hen3⟩ : ∃ f2 : Nat, shI l (e + 2) = (f2 : Int) ∧ e + 2 + 1 ≤ f2 ∧ f2 < l.length := shI_bd (by rw [← unhide HS]; exact hs0)
                have HE := hide (rct_el3 (unhide HH) (unhide HL0) (unhide HRI) (unhide HRB) (unhide HELS) (unhide HN1) he2)
                obtain rfl : s = (f2 : Int) := (unhide HS).trans he2
                rw [← unhide HN] at hen3
                clear he2 hs0 HS
                go_wp2_with first | (go_at_call 49; refine (unhide HSH).mono ?_; rintro _ wx ⟨rfl, hwx⟩; have hwy := hwx.symm; clear hwx; subst hwy) | (at_builtin; refine wpList_app1 _ rfl (.tmp 143) (.tmp 145) 52 rfl B 100 i0 _ 6 80 Tryz.underlying52 hi hz0 hz1 hz2 rfl (by decide) _ cl3.length (insCells cl3) rfl ((unhide HO3).alloc _) ⟨_, 0, none⟩ 1 [.string ⟨#[103, 111, 116, 111]⟩, .string ⟨#[]⟩, .string ⟨#[]⟩, .string ⟨#[]⟩, .int .i64 0, .bool false] rfl rfl (new_cells _ _ (by simp) [.string ⟨#[103, 111, 116, 111]⟩, .string ⟨#[]⟩, .string ⟨#[]⟩, .string ⟨#[]⟩, .int .i64 0, .bool false] _) (Ins.one (gt 0)) (by omega) (by omega) (by simp; omega) ?_)
                intro g4 cap4 w4 hown4 hgrow4 hblk4
                have R := ct_step1 (v := .slice (some ⟨g3, 0, none⟩) cl3.length cap3) (unhide HSW3) (unhide HO3) (by omega) hgrow4 (by simpa using hblk4)
                have hown4' : w4.ownsRow B 100 6 (.slice (some ⟨g4, 0, none⟩) (cl3.length + 1) cap4) (cl3.length + 1) (insCells (cl3 ++ [gt 0])) := by rw [insCells_snoc]; exact hown4
                obtain ⟨⟨m4, hm4⟩, hf4⟩ := own_to (k := cl.length) hown4' (by simp; omega)
                have hB4 := R.2.1.size
                obtain ⟨w5, hw5⟩ : ∃ w5, w5 = w4.setCell ⟨g4, cl.length * 6 + 4, none⟩ (.int .i64 ((cl3.length : Int) + 1)) := ⟨_, rfl⟩
                obtain ⟨cl5, hcl5⟩ : ∃ cl5, cl5 = setTo cl.length (cl3.length + 1) (cl3 ++ [gt 0]) := ⟨_, rfl⟩
                have hlen5 : cl5.length = cl3.length + 1 := by rw [hcl5, setTo_len]; simp
                have hown5 : w5.ownsRow B 100 6 (.slice (some ⟨g4, 0, none⟩) (cl3.length + 1) cap4) cl5.length (insCells cl5) := by rw [hw5, hcl5]; exact own_setTo hown4' (by simp) _ _
                have hsw5 : Stp (Value.slice ao cl.length ccap).ownBlock.toList w' [g4] w5 := by rw [hw5]; exact R.1.setCell (p := ⟨g4, cl.length * 6 + 4, none⟩) (R.1.foot g4 (by simp)) _
                have hbw5 : Below B w' w5 := by rw [hw5]; exact ((unhide HBW3).trans R.2.1).setCell (p := ⟨g4, cl.length * 6 + 4, none⟩) (hown4'.lt g4 rfl).1 _
                have hB5 : B ≤ w5.heap.size := Nat.le_trans hB hbw5.size
                have HST5 := hide (((unhide HST).below hbw5).part rfl (e + 3) f2 (by omega) (by rw [← unhide HN]; omega) (some ⟨g, off + (e + 3), none⟩) (fun g' off' e _ => by simp only [Option.some.injEq, Addr.mk.injEq] at e; obtain ⟨rfl, rfl, _⟩ := e; rfl))
                have HBC := hide (unhide HBLK w5 _ _ _ cl5 (unhide HST5) hB5 hown5 (by simp only [List.length_take, List.length_drop]; omega) (by simp only [List.length_take, List.length_drop]; omega))
                rw [← hcl5] at HE
                have HO5 := hide hown5
                have HSW5 := hide hsw5
                rw [hw5] at HBC
                have HW5 := hide hw5
                have hc5 : ¬ cap = e + 3 := by omega
                clear hown4 hgrow4 hblk4 hown4' R hown5 hsw5 hbw5 hw5 HSH HST5 HSW3 HO3 HBW3 HR83 hcl5 q5
                go_wp2_with fail
                refine (unhide HBC).mono ?_
                rintro _ w7 ⟨c7, cl7, ok, rfl, hown7, hstp7, hge7, hle7, hres7⟩
                simp only [List.length_take, List.length_drop] at hle7
                rw [← unhide HN] at hle7
                obtain ⟨g7, cap7, rfl⟩ := own_form hown7 (by omega)
                rw [← unhide HW5] at hstp7
                have hstp7' : Stp [g4] w5 [g7] w7 := hstp7
                obtain ⟨⟨m7, hm7⟩, hf7⟩ := own_to (k := cl3.length) hown7 (by omega)
                have HP : Hid (CtPost B w' (.slice ao cl.length ccap) cl l.length (rct blk l cl) (.returned (.tuple #[.slice (some ⟨g7, 0, none⟩) cl7.length cap7, .int .i64 ((f2 : Int) + 1), .bool ok])) (w7.setCell ⟨g7, cl3.length * 6 + 4, none⟩ (.int .i64 (cl7.length : Int)))) := hide (by
                  have hst := (unhide HSW5).trans hstp7'
                  refine ⟨_, setTo cl3.length cl7.length cl7, f2 + 1, ok, rfl, own_setTo hown7 rfl _ _, hst.setCell (p := ⟨g7, cl3.length * 6 + 4, none⟩) (hst.foot g7 (by simp)) _, by simp only [setTo_len]; omega, ?_⟩
                  simp only [setTo_len, ← unhide HN]
                  rcases hres7 with ⟨rfl, h⟩ | ⟨rfl, h⟩
                  · exact Or.inl ⟨rfl, by rw [unhide HE, h]; rfl, by omega⟩
                  · exact Or.inr ⟨rfl, by rw [unhide HE, h]; rfl, by omega, by omega, by omega⟩)
                clear hown7 hstp7 hstp7' hres7 HBC HO5 HSW5 HW5 hm4 hf4 hle7
                go_wp2_with fail
                go_ret3
                exact unhide HP
          · have HE := hide (rct_el1 (unhide HH) (unhide HL0) (unhide HRI) (unhide HRB) (unhide HELS) (Or.inl (by rw [← unhide HN]; omega)))
            go_wp2_with fail
            go_ret3
            exact unhide HPN (unhide HE)
end Go.Proofs.YtciihepbeacppaaGreat
