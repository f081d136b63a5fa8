import Derived.Test.YtciihepbeacppaaWF
import Derived.Deep.RegionLaw
namespace Go.Proofs.Ytciihepbeacppaa
open Go.RowKit

/-! ### place -/
/-- where a letter stands in a list: behind it, if it does not -/
def plc : List UInt8 → UInt8 → Nat
  | [], _ => 0
  | x :: r, c => if x = c then 0 else plc r c + 1
theorem plc_le (l : List UInt8) (c : UInt8) : plc l c ≤ l.length := by
  induction l with
  | nil => simp [plc]
  | cons x r ih => simp only [plc]; split <;> simp <;> omega
theorem plc_hit (l : List UInt8) (c : UInt8) (k : Nat) (hk : k < l.length) (hn : ∀ j, (hj : j < l.length) → j < k → l[j] ≠ c) (h : l[k] = c) : plc l c = k := by
  induction l generalizing k with
  | nil => simp at hk
  | cons x r ih =>
    cases k with
    | zero => simp only [List.getElem_cons_zero] at h; simp [plc, h]
    | succ k =>
      have h0 : x ≠ c := hn 0 (by simp) (by omega)
      simp only [plc, if_neg h0]
      rw [ih k (by simpa using hk) (fun j hj hjk => hn (j + 1) (by simpa using hj) (by omega)) (by simpa using h)]
theorem plc_miss (l : List UInt8) (c : UInt8) (hn : ∀ j, (hj : j < l.length) → l[j] ≠ c) : plc l c = l.length := by
  induction l with
  | nil => rfl
  | cons x r ih =>
    have h0 : x ≠ c := hn 0 (by simp)
    simp only [plc, if_neg h0, List.length_cons]
    rw [ih (fun j hj => hn (j + 1) (by simpa using hj))]

theorem bytes_of_own {w : World} {B : Nat} {v : Value} {l : List UInt8} (h : w.ownsRow B 5 1 v l.length (bc l)) :
    ∃ ao cap, v = .slice ao l.length cap ∧ cap ≤ maxLen ∧ (l ≠ [] → ∃ g, ao = some ⟨g, 0, none⟩ ∧ ∀ j, (h : j < l.length) → w.cell? ⟨g, j, none⟩ = some (.int .u8 (l[j].toNat : Int))) := by
  have hcs := fun g hg => h.cells (g := g) hg
  rcases h.2 with ⟨rfl, h0⟩ | ⟨g, cap, cur, rfl, _, _, hn, hm, _, _⟩
  · have : l = [] := List.eq_nil_of_length_eq_zero h0
    subst this
    exact ⟨_, _, rfl, by simp, fun h => absurd rfl h⟩
  · refine ⟨_, _, rfl, hm, fun _ => ⟨g, rfl, fun j hj => ?_⟩⟩
    have := hcs g rfl j (.int .u8 (l[j].toNat : Int)) (by simp [bc, hj])
    rw [show (⟨g, 0, none⟩ : Addr).add j = ⟨g, j, none⟩ by unfold Addr.add; split <;> simp_all] at this
    exact this

theorem u8_eq2 (a c : UInt8) : ((a.toNat : Int) == (c.toNat : Int)) = true ↔ a = c := by
  rw [beq_iff_eq]
  constructor
  · intro h; apply UInt8.toNat.inj; omega
  · rintro rfl; rfl

set_option maxRecDepth 100000 in
set_option maxHeartbeats 1000000 in
theorem place_any {B : Nat} {w : World} {v : Value} {l : List UInt8} (c : UInt8) (h : w.ownsRow B 5 1 v l.length (bc l)) (hl : l.length ≤ 20000) :
    Calls Try.prog 62 #[v, .int .u8 (c.toNat : Int)] w fun e w' => e = .returned (.int .i64 (plc l c)) ∧ w' = w := by
  obtain ⟨ao, cap, rfl, hm, hc⟩ := bytes_of_own h
  have HC := hide hc
  clear hc h
  unfold maxLen at hm
  go_enter Try.func62, Try.ntmps62
  go_wp2_with fail
  go_loop [5] (fun i => ∃ k : Nat, k ≤ l.length ∧ i = .int .i64 k ∧ Hid (∀ j, (hj : j < l.length) → j < k → l[j] ≠ c)) (fun i => l.length - (intOf i).toNat)
  case atStart => exact ⟨0, Nat.zero_le _, rfl, fun _ _ h => absurd h (by omega)⟩
  case round =>
    obtain ⟨k, hk, rfl, hall⟩ := hrel
    by_cases hlt : k < l.length
    · obtain ⟨g, hao, hcell⟩ := unhide HC (by intro h; rw [h] at hlt; simp at hlt)
      have hcx := hcell k hlt
      clear hcell
      rw [hao]
      cases he : ((l[k].toNat : Int) == (c.toNat : Int)) with
      | true =>
        go_wp2_with fail
        go_ret
        exact ⟨ret_int (by rw [plc_hit l c k hlt hall.out ((u8_eq2 _ _).1 he)]), rfl⟩
      | false =>
        go_wp2_with fail
        go_round
        case rel =>
          refine ⟨k + 1, by omega, by go_num, fun j hj hjk => ?_⟩
          by_cases hjk' : j = k
          · subst hjk'; intro e; rw [(u8_eq2 _ _).2 e] at he; cases he
          · exact hall.out j hj (by omega)
        case measure => simp [intOf]; omega
    · have hd : decide ((k : Int) < (l.length : Int)) = false := by simp; omega
      go_wp2_with fail
      go_ret
      exact ⟨ret_int (by rw [plc_miss l c (fun j hj => hall.out j hj (by omega))]), rfl⟩

/-! ### append of one element, and where the row then lies -/
section
variable {P : Program} (w : World)
theorem run_app1 (base : Nat) (t ty e : TypeId) (i : TypeInfo) (z : Value) (size bytes : Nat) (ht : P.underlying t = some (.slice e)) (hi : P.info? e = some i) (hz : i.zero = some z)
    (hsize : i.size = size) (hby : i.bytes = bytes) (hzs : z.cells.size = size) (hsz : 0 < size)
    (v : Value) (n : Nat) (xs : List Value) (hown : w.ownsRow base e size v n xs)
    (a : Addr) (c : Nat) (news : List Value) (hl : news.length = size) (hnews : ∀ j u, news[j]? = some u → w.cell? (a.add j) = some u) (h1 : ∀ u ∈ news, u.oneCell' = true)
    (h63 : n + 1 ≤ 1000000) (hb : bytes ≤ 1000) (hbase : base ≤ w.heap.size) :
    ∃ v' w', (Builtin.append_ #[t, t] ty #[v, .slice (some a) 1 c]).run P w = .ok v' w' ∧ w'.ownsRow base e size v' (n + 1) (xs ++ news) ∧ w.grownBy w' v.ownBlock ∧
      (v'.ownBlock = v.ownBlock ∨ v'.ownBlock = some w.heap.size) ∧ ∃ g cap, v' = .slice (some ⟨g, 0, none⟩) (n + 1) cap := by
  have hbytes : (n + 1) * bytes ≤ 140737488355328 := Nat.le_trans (Nat.mul_le_mul h63 hb) (by decide)
  obtain ⟨v', w', hr, ho, hg, _⟩ := run_append_own (P := P) w base t ty e i z size bytes ht hi hz hsize hby hzs hsz v n xs hown a 1 c news (by omega) hnews h1 (by unfold maxLen; omega) hbytes hbase
  refine ⟨v', w', hr, ho, hg, ?_, ?_⟩
  · subst hsize
    subst hby
    rcases hown.2 with ⟨rfl, rfl⟩ | ⟨g, cap, cur, rfl, hbg, hgg, hnc, hcm, hcs, htake⟩
    · have hr2 := run_append_nil (P := P) w t ty e i z ht hi hz a 1 c news (by omega) hnews (by omega) (by omega) (by omega)
      rw [hr] at hr2
      injection hr2 with e1 e2
      subst e1
      exact Or.inr rfl
    · by_cases hroom : n + 1 ≤ cap
      · have hfit : n * i.size + news.length ≤ cur.size := by
          rw [hl, hcs]
          have := Nat.mul_le_mul_right i.size hroom
          rw [Nat.add_mul] at this
          omega
        have hr2 := run_append_room (P := P) w t ty e i ht hi g n cap cur hgg a 1 c news (by omega) hnews h1 hroom hfit
        rw [hr] at hr2
        injection hr2 with e1 e2
        subst e1
        exact Or.inl rfl
      · have holds : ∀ j u, xs[j]? = some u → w.cell? ((⟨g, 0, none⟩ : Addr).add j) = some u := hown.cells (g := g) rfl
        have hr2 := run_append_grow (P := P) w t ty e i z ht hi hz ⟨g, 0, none⟩ n cap xs hown.1 holds a 1 c news (by omega) hnews (by omega) (by omega) (growslice_fits (by omega) hbytes)
        rw [hr] at hr2
        injection hr2 with e1 e2
        subst e1
        exact Or.inr rfl
  · rcases ho.2 with ⟨_, h⟩ | ⟨g, cap, _, h, _⟩
    · omega
    · exact ⟨g, cap, h⟩

/-- as one step of a region that draws its order -/
theorem step_app1 {ops : Array Oper} {o : Oper} {a : Act} {K : Act → World → Prop} {Q : Exit → Act → World → Prop} {E : Prop}
    (hg : o.guard = none) (s x : Operand) (t : TypeId) (hop : o.op = Op.call { callee := Callee.builtin Builtin.append, args := #[s, x], argTypes := #[t, t] })
    (base : Nat) (e : TypeId) (i : TypeInfo) (z : Value) (size bytes : Nat) (ht : P.underlying t = some (.slice e)) (hi : P.info? e = some i) (hz : i.zero = some z)
    (hsize : i.size = size) (hby : i.bytes = bytes) (hzs : z.cells.size = size) (hsz : 0 < size)
    (v : Value) (n : Nat) (xs : List Value) (hs : a.eval s = v) (hown : w.ownsRow base e size v n xs)
    (ad : Addr) (c : Nat) (news : List Value) (hx : a.eval x = .slice (some ad) 1 c) (hl : news.length = size) (hnews : ∀ j u, news[j]? = some u → w.cell? (ad.add j) = some u) (h1 : ∀ u ∈ news, u.oneCell' = true)
    (h63 : n + 1 ≤ 1000000) (hb : bytes ≤ 1000) (hbase : base ≤ w.heap.size)
    (hK : ∀ g cap w', w'.ownsRow base e size (.slice (some ⟨g, 0, none⟩) (n + 1) cap) (n + 1) (xs ++ news) → w.grownBy w' v.ownBlock → (some g = v.ownBlock ∨ g = w.heap.size) → K (a.put o.dst (.slice (some ⟨g, 0, none⟩) (n + 1) cap)) w') :
    if Region.wanted o (yielded ops a.tmps) = true then Oper.wp P o a w K Q else E := by
  have hw : Region.wanted o (yielded ops a.tmps) = true := by simp [Region.wanted, hg]
  rw [if_pos hw]
  obtain ⟨v', w', hrun, r1, r2, r3, g, cap, rfl⟩ := run_app1 (P := P) w base t o.type e i z size bytes ht hi hz hsize hby hzs hsz v n xs hown ad c news hl hnews h1 h63 hb hbase
  unfold Oper.wp
  simp [execOp, hop, resolve, invoke, builtin, hs, hx, hrun, Result.andThen]
  exact hK g cap w' r1 r2 (by simpa [Value.ownBlock] using r3)
end

end Go.Proofs.Ytciihepbeacppaa
