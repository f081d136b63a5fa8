import Derived.Test.YtciihepbeacppaaWC
import Derived.Lib.AppendStr
import Derived.Laws.IdiomStrings
import Derived.Laws.BytesArg
namespace Go.Proofs.Ytciihepbeacppaa
open Go.RowKit

/-- the value is a list of these texts -/
def Strs (w : World) (v : Value) (ws : List ByteArray) : Prop :=
  ∃ ao cap, v = .slice ao ws.length cap ∧ ws.length ≤ cap ∧ cap ≤ maxLen ∧ (ws ≠ [] → ∃ g off, ao = some ⟨g, off, none⟩ ∧ ∀ j, (h : j < ws.length) → w.cell? ⟨g, off + j, none⟩ = some (.string ws[j]))

theorem Strs.of_own {w : World} {B : Nat} {v : Value} {ws : List ByteArray} (h : w.ownsRow B 9 1 v ws.length (ws.map Value.string)) : Strs w v ws := by
  have hcs := fun g hg => h.cells (g := g) hg
  rcases h.2 with ⟨rfl, h0⟩ | ⟨g, cap, cur, rfl, _, _, hn, hm, _, _⟩
  · have : ws = [] := List.eq_nil_of_length_eq_zero h0
    subst this
    exact ⟨_, _, rfl, Nat.le_refl _, by simp, fun h => absurd rfl h⟩
  · refine ⟨_, _, rfl, hn, hm, fun _ => ⟨g, 0, rfl, fun j hj => ?_⟩⟩
    have := hcs g rfl j (.string ws[j]) (by simp [hj])
    rw [show (⟨g, 0, none⟩ : Addr).add j = ⟨g, 0 + j, none⟩ by unfold Addr.add; split <;> simp_all] at this
    exact this

/-- Below: what was there is still there. -/
theorem Strs.below {w w' : World} {v : Value} {ws : List ByteArray} (h : Strs w v ws) (hb : Below w.heap.size w w') : Strs w' v ws := by
  obtain ⟨ao, cap, hv, hn, hm, hc⟩ := h
  refine ⟨ao, cap, hv, hn, hm, fun hne => ?_⟩
  obtain ⟨g, off, hao, hcell⟩ := hc hne
  exact ⟨g, off, hao, fun j hj => by rw [hb.cell (World.block_lt_of_cell? w _ (hcell j hj))]; exact hcell j hj⟩

/-- words with one blank between -/
def jn : List ByteArray → List UInt8
  | [] => []
  | x :: r => x.data.toList ++ r.flatMap (fun y => 32 :: y.data.toList)
theorem jn_one (x : ByteArray) : jn ([] ++ [x]) = x.data.toList := by simp [jn]
theorem jn_snoc (l : List ByteArray) (x : ByteArray) (h : l ≠ []) : jn (l ++ [x]) = jn l ++ [32] ++ x.data.toList := by
  match l, h with
  | y :: r, _ => simp [jn]
theorem jn_take_le (ws : List ByteArray) (k : Nat) : (jn (ws.take k)).length ≤ (jn ws).length := by
  match ws, k with
  | [], _ => simp [jn]
  | _ :: _, 0 => simp [jn]
  | x :: r, k + 1 =>
    simp only [List.take_succ_cons, jn, List.length_append, List.length_flatMap]
    have : ∀ (r : List ByteArray) k, ((r.take k).map fun y => (32 :: y.data.toList).length).sum ≤ (r.map fun y => (32 :: y.data.toList).length).sum := by
      intro r
      induction r with
      | nil => simp
      | cons y r ih =>
        intro k
        cases k with
        | zero => simp
        | succ k => simp only [List.take_succ_cons, List.map_cons, List.sum_cons]; have := ih k; omega
    have := this r k
    omega
theorem jn_step (ws : List ByteArray) (k : Nat) (hk : k < ws.length) (h0 : 0 < k) : jn (ws.take (k + 1)) = jn (ws.take k) ++ [32] ++ ws[k].data.toList := by
  rw [List.take_succ_eq_append_getElem hk, jn_snoc _ _ (List.ne_nil_of_length_pos (by rw [List.length_take]; omega))]
theorem jn_first (ws : List ByteArray) (k : Nat) (hk : k < ws.length) (h0 : ¬ 0 < k) : jn (ws.take (k + 1)) = jn (ws.take k) ++ ws[k].data.toList := by
  obtain rfl : k = 0 := by omega
  rw [List.take_succ_eq_append_getElem hk]; simp [jn]
theorem size_toList (s : ByteArray) : s.data.toList.length = s.size := (Lib.size_eq s).symm

/-- bytes as cells -/
def bc (l : List UInt8) : List Value := l.map fun b => Value.int .u8 b.toNat
theorem bc_append (a b : List UInt8) : bc (a ++ b) = bc a ++ bc b := by simp [bc]
theorem bc_length (a : List UInt8) : (bc a).length = a.length := by simp [bc]
theorem strCells_bc (s : ByteArray) : Lib.strCells s = bc s.data.toList := rfl

theorem app_str {W w' w1 : World} {e : TypeId} {v v' : Value} {n m : Nat} {xs ys : List Value} (hown : w'.ownsRow W.heap.size e 1 v n xs) (hbl : Below W.heap.size W w')
    (hown' : w1.ownsRow W.heap.size e 1 v' m ys) (hg : w'.grownBy w1 v.ownBlock) : w1.ownsRow W.heap.size e 1 v' m ys ∧ Below W.heap.size W w1 :=
  ⟨hown', hbl.grown hg hbl.size (fun k hk => (hown.lt k hk).1)⟩
theorem own_cast {w : World} {B : Nat} {e : TypeId} {s n m : Nat} {v : Value} {xs ys : List Value} (h : w.ownsRow B e s v n xs) (hn : m = n) (hx : ys = xs) : w.ownsRow B e s v m ys := by
  rw [hn, hx]; exact h
theorem own_slice {w : World} {B : Nat} {e : TypeId} {s n : Nat} {v : Value} {xs : List Value} (h : w.ownsRow B e s v n xs) : ∃ a l c, v = .slice a l c := by
  rcases h.2 with ⟨rfl, _⟩ | ⟨g, cap, cur, rfl, _⟩ <;> exact ⟨_, _, _, rfl⟩
/-- 'string(b)' of a row of the call's own -/
theorem conv_own {P : Program} (src dst e : TypeId) (hs : P.underlying src = some (.slice e)) (he : P.underlying e = some (.int .u8)) (hd : P.underlying dst = some .string)
    {w : World} {B : Nat} {v : Value} {l : List UInt8} (h : w.ownsRow B e 1 v l.length (bc l)) : (convert src dst v).run P w = .ok (.string ⟨l.toArray⟩) w := by
  have hcs := fun g hg => h.cells (g := g) hg
  rcases h.2 with ⟨rfl, h0⟩ | ⟨g, cap, cur, rfl, _, _, hn, hm, _, _⟩
  · have : l = [] := List.eq_nil_of_length_eq_zero h0
    subst this
    exact run_convert_bytes_nil w src e hs he 0 0 dst hd
  · exact run_convert_bytes_back w src dst e ⟨g, 0, none⟩ cap l hs he hd (fun j hj => hcs g rfl j _ (by simp [bc, hj]))

theorem Try.infoByte : (Try.prog.info? 5).map (fun i => (i.zero, i.size, i.bytes)) = some (some (.int .u8 0), 1, 1) := by kernel_rfl

end Go.Proofs.Ytciihepbeacppaa
