import Derived.Test.YtciihepbeacppaaGreatWC
import Derived.Lib.AppendStr
import Derived.Laws.IdiomStrings
import Derived.Laws.BytesArg
namespace Go.Proofs.YtciihepbeacppaaGreat
open Go.RowKit

/-- the value is a list of these texts -/
def Strs (w : World) (v : Value) (ws : List ByteArray) : Prop :=
  ∃ ao cap, v = .slice ao ws.length cap ∧ ws.length ≤ cap ∧ cap ≤ maxLen ∧ (ws ≠ [] → ∃ g off, ao = some ⟨g, off, none⟩ ∧ ∀ j, (h : j < ws.length) → w.cell? ⟨g, off + j, none⟩ = some (.string ws[j]))

theorem Strs.of_own {w : World} {B : Nat} {v : Value} {ws : List ByteArray} (h : w.ownsRow B 9 1 v ws.length (ws.map Value.string)) : Strs w v ws := by
  have hcs := fun g hg => h.cells (g := g) hg
  rcases h.2 with ⟨rfl, h0⟩ | ⟨g, cap, cur, rfl, _, _, hn, hm, _, _⟩
  · have : ws = [] := List.eq_nil_of_length_eq_zero h0
    subst this
    exact ⟨_, _, rfl, Nat.le_refl _, by simp, fun h => absurd rfl h⟩
  · refine ⟨_, _, rfl, hn, hm, fun _ => ⟨g, 0, rfl, fun j hj => ?_⟩⟩
    have := hcs g rfl j (.string ws[j]) (by simp [hj])
    rw [show (⟨g, 0, none⟩ : Addr).add j = ⟨g, 0 + j, none⟩ by unfold Addr.add; split <;> simp_all] at this
    exact this

/-- Below: what was there is still there. -/
theorem Strs.below {w w' : World} {v : Value} {ws : List ByteArray} (h : Strs w v ws) (hb : Below w.heap.size w w') : Strs w' v ws := by
  obtain ⟨ao, cap, hv, hn, hm, hc⟩ := h
  refine ⟨ao, cap, hv, hn, hm, fun hne => ?_⟩
  obtain ⟨g, off, hao, hcell⟩ := hc hne
  exact ⟨g, off, hao, fun j hj => by rw [hb.cell (World.block_lt_of_cell? w _ (hcell j hj))]; exact hcell j hj⟩

/-- words with one blank between -/
def jn : List ByteArray → List UInt8
  | [] => []
  | x :: r => x.data.toList ++ r.flatMap (fun y => 32 :: y.data.toList)
theorem jn_one (x : ByteArray) : jn ([] ++ [x]) = x.data.toList := by simp [jn]
theorem jn_snoc (l : List ByteArray) (x : ByteArray) (h : l ≠ []) : jn (l ++ [x]) = jn l ++ [32] ++ x.data.toList := by
  match l, h with
  | y :: r, _ => simp [jn]
theorem jn_take_le (ws : List ByteArray) (k : Nat) : (jn (ws.take k)).length ≤ (jn ws).length := by
  match ws, k with
  | [], _ => simp [jn]
  | _ :: _, 0 => simp [jn]
  | x :: r, k + 1 =>
    simp only [List.take_succ_cons, jn, List.length_append, List.length_flatMap]
    have : ∀ (r : List ByteArray) k, ((r.take k).map fun y => (32 :: y.data.toList).length).sum ≤ (r.map fun y => (32 :: y.data.toList).length).sum := by
      intro r
      induction r with
      | nil => simp
      | cons y r ih =>
        intro k
        cases k with
        | zero => simp
        | succ k => simp only [List.take_succ_cons, List.map_cons, List.sum_cons]; have := ih k; omega
    have := this r k
    omega
theorem jn_step (ws : List ByteArray) (k : Nat) (hk : k < ws.length) (h0 : 0 < k) : jn (ws.take (k + 1)) = jn (ws.take k) ++ [32] ++ ws[k].data.toList := by
  rw [List.take_succ_eq_append_getElem hk, jn_snoc _ _ (List.ne_nil_of_length_pos (by rw [List.length_take]; omega))]
theorem jn_first (ws : List ByteArray) (k : Nat) (hk : k < ws.length) (h0 : ¬ 0 < k) : jn (ws.take (k + 1)) = jn (ws.take k) ++ ws[k].data.toList := by
  obtain rfl : k = 0 := by omega
  rw [List.take_succ_eq_append_getElem hk]; simp [jn]
theorem size_toList (s : ByteArray) : s.data.toList.length = s.size := (Lib.size_eq s).symm

/-- bytes as cells -/
def bc (l : List UInt8) : List Value := l.map fun b => Value.int .u8 b.toNat
theorem bc_append (a b : List UInt8) : bc (a ++ b) = bc a ++ bc b := by simp [bc]
theorem bc_length (a : List UInt8) : (bc a).length = a.length := by simp [bc]
theorem strCells_bc (s : ByteArray) : Lib.strCells s = bc s.data.toList := rfl

theorem app_str {W w' w1 : World} {e : TypeId} {v v' : Value} {n m : Nat} {xs ys : List Value} (hown : w'.ownsRow W.heap.size e 1 v n xs) (hbl : Below W.heap.size W w')
    (hown' : w1.ownsRow W.heap.size e 1 v' m ys) (hg : w'.grownBy w1 v.ownBlock) : w1.ownsRow W.heap.size e 1 v' m ys ∧ Below W.heap.size W w1 :=
  ⟨hown', hbl.grown hg hbl.size (fun k hk => (hown.lt k hk).1)⟩
theorem own_cast {w : World} {B : Nat} {e : TypeId} {s n m : Nat} {v : Value} {xs ys : List Value} (h : w.ownsRow B e s v n xs) (hn : m = n) (hx : ys = xs) : w.ownsRow B e s v m ys := by
  rw [hn, hx]; exact h
theorem own_slice {w : World} {B : Nat} {e : TypeId} {s n : Nat} {v : Value} {xs : List Value} (h : w.ownsRow B e s v n xs) : ∃ a l c, v = .slice a l c := by
  rcases h.2 with ⟨rfl, _⟩ | ⟨g, cap, cur, rfl, _⟩ <;> exact ⟨_, _, _, rfl⟩
/-- 'string(b)' of a row of the call's own -/
theorem conv_own {P : Program} (src dst e : TypeId) (hs : P.underlying src = some (.slice e)) (he : P.underlying e = some (.int .u8)) (hd : P.underlying dst = some .string)
    {w : World} {B : Nat} {v : Value} {l : List UInt8} (h : w.ownsRow B e 1 v l.length (bc l)) : (convert src dst v).run P w = .ok (.string ⟨l.toArray⟩) w := by
  have hcs := fun g hg => h.cells (g := g) hg
  rcases h.2 with ⟨rfl, h0⟩ | ⟨g, cap, cur, rfl, _, _, hn, hm, _, _⟩
  · have : l = [] := List.eq_nil_of_length_eq_zero h0
    subst this
    exact run_convert_bytes_nil w src e hs he 0 0 dst hd
  · exact run_convert_bytes_back w src dst e ⟨g, 0, none⟩ cap l hs he hd (fun j hj => hcs g rfl j _ (by simp [bc, hj]))

theorem Tryz.infoByte : (Tryz.prog.info? 5).map (fun i => (i.zero, i.size, i.bytes)) = some (some (.int .u8 0), 1, 1) := by kernel_rfl

set_option maxRecDepth 100000 in
set_option maxHeartbeats 1000000 in
theorem join_any (ws : List ByteArray) (v : Value) (w : World) (hv : Strs w v ws) (hl : ws.length ≤ 20000) (hj : (jn ws).length ≤ 20000) :
    Calls Tryz.prog 70 #[v] w fun e w' => Below w.heap.size w w' ∧ e = .returned (.string ⟨(jn ws).toArray⟩) := by
  obtain ⟨i0, hi, hz0, hz1, hz2⟩ := info_parts Tryz.infoByte
  obtain ⟨ao, cap, rfl, hn, hm, hc⟩ := hv
  have HC := hide hc
  clear hc
  unfold maxLen at hm
  go_enter Tryz.func70, Tryz.ntmps70
  go_wp2_with fail
  go_loopw [3, 4] (fun t i wr => ∃ k : Nat, k ≤ ws.length ∧ i = .int .i64 k ∧ wr.ownsRow w.heap.size 5 1 t (jn (ws.take k)).length (bc (jn (ws.take k))) ∧ Below w.heap.size w wr) (fun _ i _ => ws.length - (intOf i).toNat)
  case atStart => exact ⟨0, Nat.zero_le _, rfl, World.ownsRow_nil _ _ _ _, Below.refl _ _⟩
  case round =>
    obtain ⟨k, hk, rfl, hown, hbl⟩ := hrel
    have hsz := hbl.size
    by_cases hlt : k < ws.length
    · obtain ⟨g, off, hao, hcell⟩ := unhide HC (by intro h; rw [h] at hlt; simp at hlt)
      have hcx : wr.cell? ⟨g, off + k, none⟩ = some (.string ws[k]) := by
        rw [hbl.cell (World.block_lt_of_cell? w _ (hcell k hlt))]; exact hcell k hlt
      have hcw := hcell
      have HCW := hide hcw
      clear hcell hcw
      rw [hao]
      have hjk := jn_take_le ws (k + 1)
      by_cases h0 : 0 < k
      · have HJ := hide (jn_step ws k hlt h0)
        have hle : (jn (ws.take k)).length + 1 + ws[k].size ≤ 20000 := by
          rw [unhide HJ] at hjk; simp only [List.length_append, size_toList, List.length_singleton] at hjk; omega
        go_wp2_with (first | (at_builtin; refine wpList_append_own _ rfl (.tmp 13) (.tmp 14) 101 rfl w.heap.size 5 i0 (.int .u8 0) 1 1 Tryz.underlying101 hi hz0 hz1 hz2 rfl (by decide) _ _ _ rfl (hown.alloc _) ⟨_, 0, none⟩ 1 1 [.int .u8 32] rfl rfl ?c1 ?c2 ?c3 ?c4 ?c5 ?_))
        case c1 => exact one_new _ _ _
        case c2 => intro u hu; simp at hu; subst hu; rfl
        case c3 => unfold maxLen; omega
        case c4 => omega
        case c5 => simp; omega
        intro v1 w1 hown1 hgrow1 _
        have R1 := app_one hown hbl hown1 hgrow1
        have hcx1 : w1.cell? ⟨g, off + k, none⟩ = some (.string ws[k]) := by
          rw [R1.2.cell (World.block_lt_of_cell? w _ (unhide HCW k hlt))]; exact unhide HCW k hlt
        have hsz1 := R1.2.size
        clear hown1 hgrow1 hcx hsz
        go_wp2_with (at_builtin; refine Lib.wpList_append_own_string _ rfl (.tmp 16) (.tmp 20) 101 9 rfl w.heap.size 5 i0 Tryz.underlying101 Tryz.underlying9 hi hz0 hz1 hz2 _ _ _ rfl R1.1 ws[k] rfl ?d1 ?d2 ?d3 ?_)
        case d1 => unfold maxLen; omega
        case d2 => omega
        case d3 => omega
        intro v2 w2 hown2 hgrow2 _
        have R2 := app_str R1.1 R1.2 hown2 hgrow2
        clear hown2 hgrow2 R1 hown hbl hcx1
        go_wp2_with fail
        go_roundw
        case rel => exact ⟨k + 1, by omega, by go_num, by rw [unhide HJ]; exact own_cast R2.1 (by simp only [List.length_append, size_toList, List.length_singleton]) (by simp only [strCells_bc, bc_append, List.append_assoc]; rfl), R2.2⟩
        case measure => simp [intOf]; omega
      · have HJ := hide (jn_first ws k hlt h0)
        have hle : (jn (ws.take k)).length + ws[k].size ≤ 20000 := by
          rw [unhide HJ] at hjk; simp only [List.length_append, size_toList] at hjk; omega
        go_wp2_with (at_builtin; refine Lib.wpList_append_own_string _ rfl _ _ 101 9 rfl w.heap.size 5 i0 Tryz.underlying101 Tryz.underlying9 hi hz0 hz1 hz2 _ _ _ rfl hown ws[k] rfl ?d1 ?d2 ?d3 ?_)
        case d1 => unfold maxLen; omega
        case d2 => omega
        case d3 => omega
        intro v2 w2 hown2 hgrow2 _
        have R2 := app_str hown hbl hown2 hgrow2
        clear hown2 hgrow2 hown hbl hcx
        go_wp2_with fail
        go_roundw
        case rel => exact ⟨k + 1, by omega, by go_num, by rw [unhide HJ]; exact own_cast R2.1 (by simp only [List.length_append, size_toList]) (by simp only [strCells_bc, bc_append]), R2.2⟩
        case measure => simp [intOf]; omega
    · have hd : decide ((k : Int) < (ws.length : Int)) = false := by simp; omega
      have hke : ws.take k = ws := List.take_of_length_le (by omega)
      rw [hke] at hown
      clear hke
      have hcv := conv_own (P := Tryz.prog) 101 9 5 Tryz.underlying101 Tryz.underlying5 Tryz.underlying9 hown
      obtain ⟨a1, l1, c1, hu⟩ := own_slice hown
      rw [hu] at hcv ⊢
      go_wp2_with fail
      go_ret
      exact ⟨hbl, rfl⟩

end Go.Proofs.YtciihepbeacppaaGreat
