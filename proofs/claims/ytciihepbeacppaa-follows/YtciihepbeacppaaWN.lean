import Derived.Test.YtciihepbeacppaaWM
namespace Go.Proofs.Ytciihepbeacppaa
open Go.RowKit

section
variable {P : Program} (w : World)
theorem wpList_app1 {ops : Array Oper} {rest : List Oper} {o : Oper} {a : Act} {Q : Exit → Act → World → Prop}
    (hg : o.guard = none) (s x : Operand) (t : TypeId) (hop : o.op = Op.call { callee := Callee.builtin Builtin.append, args := #[s, x], argTypes := #[t, t] })
    (base : Nat) (e : TypeId) (i : TypeInfo) (z : Value) (size bytes : Nat) (ht : P.underlying t = some (.slice e)) (hi : P.info? e = some i) (hz : i.zero = some z)
    (hsize : i.size = size) (hby : i.bytes = bytes) (hzs : z.cells.size = size) (hsz : 0 < size)
    (v : Value) (n : Nat) (xs : List Value) (hs : a.eval s = v) (hown : w.ownsRow base e size v n xs)
    (ad : Addr) (c : Nat) (news : List Value) (hx : a.eval x = .slice (some ad) 1 c) (hl : news.length = size) (hnews : ∀ j u, news[j]? = some u → w.cell? (ad.add j) = some u) (h1 : ∀ u ∈ news, u.oneCell' = true)
    (h63 : n + 1 ≤ 1000000) (hb : bytes ≤ 1000) (hbase : base ≤ w.heap.size)
    (hK : ∀ g cap w', w'.ownsRow base e size (.slice (some ⟨g, 0, none⟩) (n + 1) cap) (n + 1) (xs ++ news) → w.grownBy w' v.ownBlock → (some g = v.ownBlock ∨ g = w.heap.size) → wpList P ops Q rest (a.put o.dst (.slice (some ⟨g, 0, none⟩) (n + 1) cap)) w') :
    wpList P ops Q (o :: rest) a w := by
  refine wpList_plain hg fun K hK' => ?_
  obtain ⟨v', w', hrun, r1, r2, r3, g, cap, rfl⟩ := run_app1 (P := P) w base t o.type e i z size bytes ht hi hz hsize hby hzs hsz v n xs hown ad c news hl hnews h1 h63 hb hbase
  unfold Oper.wp
  simp [execOp, hop, resolve, invoke, builtin, hs, hx, hrun, Result.andThen]
  exact hK' _ _ (hK g cap w' r1 r2 (by simpa [Value.ownBlock] using r3))
end

/-- the cells that an append first lays in a block of its own -/
theorem new_cells (w : World) (b : Nat) (hb : b = w.heap.size) (xs : List Value) (T : TypeId) : ∀ (j : Nat) (u : Value), xs[j]? = some u → (w.alloc (.cells xs.toArray T)).cell? ((⟨b, 0, none⟩ : Addr).add j) = some u := by
  intro j u hj
  subst hb
  rw [show (⟨w.heap.size, 0, none⟩ : Addr).add j = ⟨w.heap.size, j, none⟩ by unfold Addr.add; split <;> simp_all]
  rw [World.cell?_alloc_mark]
  simpa using hj
theorem Atm.one (a : Atm) : ∀ u ∈ a.cells, u.oneCell' = true := by
  intro u hu; simp [Atm.cells] at hu; rcases hu with rfl | rfl | rfl | rfl | rfl <;> rfl
theorem atCells_snoc (l : List Atm) (a : Atm) : atCells (l ++ [a]) = atCells l ++ a.cells := by simp [atCells]

theorem Try.infoAtom : (Try.prog.info? 86).map (fun i => (i.zero, i.size, i.bytes)) = some (some (.agg #[.int .i64 0, .int .i64 0, .int .i64 0, .int .i64 0, .int .i64 0]), 5, 40) := by kernel_rfl

/-- a new row of one element -/
theorem own_one (w : World) (b B : Nat) (hb : b = w.heap.size) (hB : B ≤ w.heap.size) (T : TypeId) (sz : Nat) (xs : List Value) (hx : xs.length = sz) : (w.alloc (.cells xs.toArray T)).ownsRow B T sz (.slice (some ⟨b, 0, none⟩) 1 1) 1 xs := by
  subst hb; subst hx
  exact ⟨by simp, .inr ⟨w.heap.size, 1, xs.toArray, rfl, hB, heap_alloc_new w _, Nat.le_refl _, by decide, by simp, by simp⟩⟩

section
variable {B : Nat} {WV : Value} {w : World} {P : Nat} {ws : List ByteArray} {s : PS} {F : List Nat} {wv vv hv nv : Value}

theorem rowStep {w w' : World} {B : Nat} {e : TypeId} {sz n : Nat} {v : Value} {xs : List Value} {F F' : List Nat} (h : w.ownsRow B e sz v n xs) (hS : Stp F w F' w') (ho : ∀ k, v.ownBlock = some k → k ∉ F) : w'.ownsRow B e sz v n xs :=
  ownsRow_of_eq h (fun k hk => hS.block k (h.lt k hk).2 (ho k hk))
theorem rowAlloc2 {w : World} {B : Nat} {e : TypeId} {sz n : Nat} {v : Value} {xs : List Value} (h : w.ownsRow B e sz v n xs) (o o' : Obj) : ((w.alloc o).alloc o').ownsRow B e sz v n xs := (h.alloc o).alloc o'

/-- a round of 'formula': what is known behind the append -/
theorem form_step {wr w3 w4 : World} {F2 F3 : List Nat} {st' : PS} {v : Value} {al : List Atm} {o o' : Obj} {g n cap : Nat} (hS : Stp F w F2 wr) (hown : wr.ownsRow w.heap.size 86 5 v al.length (atCells al)) (hout : ∀ k, v.ownBlock = some k → k ∉ F2)
    (hI3 : IsQ B WV w3 P ws st' F3) (hS3 : Stp F2 wr F3 w3) (hg : ((w3.alloc o).alloc o').grownBy w4 v.ownBlock) (hb : some g = v.ownBlock ∨ g = w3.heap.size + 1 + 1) :
    IsQ B WV w4 P ws st' F3 ∧ Stp F w F3 w4 ∧ ∀ k, (Value.slice (some ⟨g, 0, none⟩) n cap).ownBlock = some k → k ∉ F3 := by
  have hnot : ∀ k, v.ownBlock = some k → k ∉ F3 := by
    intro k hk hm
    rcases hS3.foot k hm with h | h
    · exact hout k hk h
    · have := (hown.lt k hk).2; omega
  have hS3' := ((hS.trans hS3).alloc o).alloc o'
  refine ⟨⟨((hI3.m.alloc o).alloc o').of_eq (fun k hk => hg.block k (by have := (hI3.m.mem k hk).2; simp; omega) (fun e => hnot k e.symm hk)), hI3.f⟩, hS3'.grown hg (fun k hk => Or.inr (hown.lt k hk).1), ?_⟩
  intro k hk hm
  simp [Value.ownBlock] at hk
  subst hk
  rcases hb with hb | hb
  · exact hnot g hb.symm hm
  · have := (hI3.m.mem g hm).2; omega

theorem foG_stop (n : Nat) (h : acB ws kStar s = false) : foG ws n s = ([], s) := by
  cases n with
  | zero => rfl
  | succ n => simp [foG, h]
theorem foG_go (n : Nat) (h : acB ws kStar s = true) : foG ws (n + 1) s = (atA ws s.adv :: (foG ws n (atS ws s.adv)).1, (foG ws n (atS ws s.adv)).2) := by simp [foG, h]

set_option maxRecDepth 100000 in
set_option maxHeartbeats 2000000 in
theorem formula_any (h : IsQ B WV w P ws s F) :
    Calls Try.prog 28 #[.pointer (some ⟨P, 0, none⟩)] w fun e w' => ∃ v F', e = .returned v ∧ IsQ B WV w' P ws (foS ws s) F' ∧ Stp F w F' w' ∧
      w'.ownsRow w.heap.size 86 5 v (foA ws s).length (atCells (foA ws s)) ∧ (∀ k, v.ownBlock = some k → k ∉ F') := by
  obtain ⟨i0, hi, hz0, hz1, hz2⟩ := info_parts Try.infoAtom
  have HQ := hide h
  obtain ⟨hl, _, _, _⟩ := h.f
  clear h
  go_enter Try.func28, Try.ntmps28
  go_wp2_with fail
  refine (atom_any (unhide HQ)).mono ?_
  rintro e w1 ⟨rfl, F1, hI1, hS1⟩
  have HI1 := hide hI1
  have HS1 := hide hS1
  clear hI1 hS1
  obtain ⟨A0, hA0⟩ : ∃ A0, A0 = atA ws s := ⟨_, rfl⟩
  have HA0 := hide hA0
  rw [← hA0]
  clear hA0
  obtain ⟨k0, k1, k2, k3, k4⟩ := A0
  simp only [Atm.cells]
  go_wp2_with fail
  go_loopg [4] (ws.length + 1) (fun m v wr => ∃ (st : PS) (al : List Atm) (F2 : List Nat), IsQ B WV wr P ws st F2 ∧ Stp F w F2 wr ∧ wr.ownsRow w.heap.size 86 5 v al.length (atCells al) ∧ (∀ k, v.ownBlock = some k → k ∉ F2) ∧ al.length ≤ st.pos + 1 ∧
    Hid (ws.length < m + st.pos ∧ foA ws s = al ++ (foG ws m st).1 ∧ foS ws s = (foG ws m st).2))
  case atStart =>
    refine ⟨atS ws s, [⟨k0, k1, k2, k3, k4⟩], F1, ((unhide HI1).alloc _).alloc _, ((unhide HS1).alloc _).alloc _, ?_, ?_, by simp, ?_⟩
    · have hsz1 := (unhide HS1).size
      exact own_cast (own_one (w1.alloc _) (w1.heap.size + 1) w.heap.size (by simp) (by simp; omega) _ 5 [.int .i64 k0, .int .i64 k1, .int .i64 k2, .int .i64 k3, .int .i64 k4] rfl) rfl (by simp [atCells, Atm.cells])
    · intro k hk hm
      simp [Value.ownBlock] at hk
      have := ((unhide HI1).m.mem k hm).2
      omega
    · exact ⟨by omega, by rw [foA, ← unhide HA0]; rfl, rfl⟩
  case round =>
    obtain ⟨st, al, F2, hI, hS, hown, hout, hlen, hhid⟩ := hrel
    obtain ⟨_, hpos, _, _⟩ := hI.f
    have HI := hide hI
    have HS := hide hS
    have HOWN := hide hown
    have HOUT := hide hout
    have HA := accept_any kStar (by decide) hI
    clear hI hS hown hout
    cases hb : acB ws kStar st with
    | false =>
      have HS0 : Hid (acS ws kStar st = st) := hide (if_neg (by simp [hb]))
      rw [hb, unhide HS0] at HA
      replace HA := hide HA
      have HB := hide hb
      clear hb
      go_wp2_with fail
      refine (unhide HA).mono ?_
      rintro e w2 ⟨rfl, hI2, hS2⟩
      have HI2 := hide hI2
      have HS2 := hide hS2
      clear hI2 hS2
      go_wp2_with fail
      go_ret
      obtain ⟨_, hfa, hfs⟩ := unhide hhid
      rw [foG_stop _ (unhide HB)] at hfa hfs
      refine ⟨_, F2, rfl, by rw [hfs]; exact unhide HI2, (unhide HS).trans (unhide HS2), ?_, unhide HOUT⟩
      rw [hfa, List.append_nil]
      exact ownsRow_of_eq (unhide HOWN) (fun k hk => (unhide HS2).block k ((unhide HOWN).lt k hk).2 (unhide HOUT k hk))
    | true =>
      have HS0 : Hid (acS ws kStar st = st.adv) := hide (if_pos hb)
      rw [hb, unhide HS0] at HA
      replace HA := hide HA
      have HB := hide hb
      have hplt : st.pos < ws.length := acB_lt (by decide) hb
      clear hb
      go_wp2_with fail
      refine (unhide HA).mono ?_
      rintro e w2 ⟨rfl, hI2, hS2⟩
      have HI2 := hide hI2
      have HS2 := hide hS2
      clear hI2 hS2
      go_wp2_with fail
      refine (atom_any (unhide HI2)).mono ?_
      rintro e w3 ⟨rfl, F3, hI3, hS3⟩
      have HI3 := hide hI3
      have HS3 := hide ((unhide HS2).trans hS3)
      clear hI3 hS3
      obtain ⟨A1, hA1⟩ : ∃ A1, A1 = atA ws st.adv := ⟨_, rfl⟩
      have HA1 := hide hA1
      rw [← hA1]
      clear hA1
      obtain ⟨j0, j1, j2, j3, j4⟩ := A1
      simp only [Atm.cells]
      go_wp2_with (at_builtin; refine wpList_app1 _ rfl (.tmp 14) (.tmp 16) 35 rfl w.heap.size 86 i0 _ 5 40 Try.underlying35 hi hz0 hz1 hz2 rfl (by decide) _ al.length (atCells al) rfl (rowAlloc2 (rowStep (unhide HOWN) (unhide HS3) (unhide HOUT)) _ _) ⟨_, 0, none⟩ 1 [.int .i64 j0, .int .i64 j1, .int .i64 j2, .int .i64 j3, .int .i64 j4] rfl rfl ?c1 ?c2 ?c3 ?c4 ?c5 ?_)
      case c1 => exact new_cells (w3.alloc _) _ (by simp) [.int .i64 j0, .int .i64 j1, .int .i64 j2, .int .i64 j3, .int .i64 j4] _
      case c2 => exact Atm.one ⟨j0, j1, j2, j3, j4⟩
      case c3 => omega
      case c4 => omega
      case c5 => have := (unhide HS).size; have := (unhide HS3).size; simp; omega
      intro g cap w4 hown4 hgrow4 hblk4
      have R := form_step (n := al.length + 1) (cap := cap) (unhide HS) (unhide HOWN) (unhide HOUT) (unhide HI3) (unhide HS3) hgrow4 hblk4
      have HR := hide R
      have HO4 := hide hown4
      clear R hown4 hgrow4 hblk4
      go_wp2_with fail
      obtain ⟨hfm, hfa, hfs⟩ := unhide hhid
      obtain ⟨m, rfl⟩ : ∃ m, gk = m + 1 := ⟨gk - 1, by omega⟩
      rw [foG_go _ (unhide HB), ← unhide HA1] at hfa hfs
      go_roundg m
      case measure => omega
      case rel =>
        have hp2 := atS_pos (ws := ws) (s := st.adv)
        have hpa : st.adv.pos = st.pos + 1 := rfl
        refine ⟨atS ws st.adv, al ++ [⟨j0, j1, j2, j3, j4⟩], F3, (unhide HR).1, (unhide HR).2.1, ?_, (unhide HR).2.2, by simp; omega, ⟨by omega, ?_, hfs⟩⟩
        · exact own_cast (unhide HO4) (by simp) (by rw [atCells_snoc]; rfl)
        · rw [hfa]; simp
end
end Go.Proofs.Ytciihepbeacppaa
