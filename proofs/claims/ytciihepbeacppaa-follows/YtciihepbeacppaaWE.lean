import Derived.Test.YtciihepbeacppaaWD
import Derived.BigQuiet
import Derived.Deep.QuietTactic
namespace Go.Proofs.Ytciihepbeacppaa
open Go.RowKit

/-! ### The parser as it is in memory -/
/-- a node: Op, Var, Arg (kind, index), Next, Other -/
structure Nd where
  op : Nat
  v : Nat
  ak : Nat
  ai : Nat
  nx : Nat
  ot : Nat

def Nd.cells (n : Nd) : List Value := [.int .i64 n.op, .int .i64 n.v, .int .i64 n.ak, .int .i64 n.ai, .int .i64 n.nx, .int .i64 n.ot]
def ndCells (l : List Nd) : List Value := l.flatMap Nd.cells

/-- how a parser stands -/
structure PS where
  pos : Nat
  failed : Bool
  vars : List UInt8
  hid : List UInt8
  nodes : List Nd

/-- What a callee may have done to the world: the blocks of the footprint F may have turned, and there may be new ones; the footprint has gone on to F'. -/
structure Stp (F : List Nat) (w : World) (F' : List Nat) (w' : World) : Prop where
  os : w'.os = w.os
  tape : w'.tape = w.tape
  output : w'.output = w.output
  size : w.heap.size ≤ w'.heap.size
  block : ∀ k, k < w.heap.size → k ∉ F → w'.heap[k]? = w.heap[k]?
  foot : ∀ k, k ∈ F' → k ∈ F ∨ w.heap.size ≤ k

theorem Stp.refl (F : List Nat) (w : World) : Stp F w F w := ⟨rfl, rfl, rfl, Nat.le_refl _, fun _ _ _ => rfl, fun _ h => Or.inl h⟩
theorem Stp.trans {F F' F'' : List Nat} {a b c : World} (h : Stp F a F' b) (k : Stp F' b F'' c) : Stp F a F'' c :=
  ⟨k.os.trans h.os, k.tape.trans h.tape, k.output.trans h.output, Nat.le_trans h.size k.size,
   fun i hi hF => (k.block i (Nat.lt_of_lt_of_le hi h.size) (fun hm => by rcases h.foot i hm with h1 | h1; exact hF h1; omega)).trans (h.block i hi hF),
   fun i hm => by rcases k.foot i hm with h1 | h1; exact h.foot i h1; exact Or.inr (Nat.le_trans h.size h1)⟩
theorem Stp.drew {F F' : List Nat} {a w : World} (h : Stp F a F' w) : Stp F a F' w.drew := ⟨h.os, h.tape, h.output, h.size, h.block, h.foot⟩
theorem Stp.drewN {F F' : List Nat} {a w : World} (h : Stp F a F' w) (n : Nat) : Stp F a F' (w.drewN n) := ⟨h.os, h.tape, h.output, h.size, h.block, h.foot⟩
theorem Stp.alloc {F F' : List Nat} {a w : World} (h : Stp F a F' w) (o : Obj) : Stp F a F' (w.alloc o) :=
  ⟨h.os, h.tape, h.output, by have := h.size; simp; omega, fun k hk hF => by rw [Below.heap_alloc _ _ _ (Nat.lt_of_lt_of_le hk h.size)]; exact h.block k hk hF, h.foot⟩
/-- a store into the footprint, or into a block that is new -/
theorem Stp.setCell {F F' : List Nat} {a w : World} (h : Stp F a F' w) {p : Addr} (hp : p.block ∈ F ∨ a.heap.size ≤ p.block) (u : Value) : Stp F a F' (w.setCell p u) :=
  ⟨h.os, h.tape, h.output, by simpa [World.setCell] using h.size, fun k hk hF => by
    rw [Below.heap_setCell _ _ _ _ (by rintro rfl; rcases hp with hp | hp; exact hF hp; omega)]; exact h.block k hk hF, h.foot⟩
theorem Stp.grown {F F' : List Nat} {a w w' : World} {row : Option Nat} (h : Stp F a F' w) (hg : w.grownBy w' row) (hr : ∀ k, row = some k → k ∈ F ∨ a.heap.size ≤ k) : Stp F a F' w' :=
  ⟨hg.os.trans h.os, hg.tape.trans h.tape, hg.output.trans h.output, Nat.le_trans h.size hg.size, fun k hk hF => by
    rw [hg.block k (Nat.lt_of_lt_of_le hk h.size) (fun e => by rcases hr k e.symm with h1 | h1; exact hF h1; omega)]; exact h.block k hk hF, h.foot⟩
theorem Stp.below {F F' : List Nat} {w w' : World} {B : Nat} (h : Stp F w F' w') (hB : B ≤ w.heap.size) (hF : ∀ k ∈ F, B ≤ k) : Below B w w' :=
  ⟨h.os, h.tape, h.output, h.size, fun k hk => h.block k (Nat.lt_of_lt_of_le hk hB) (fun hm => by have := hF k hm; omega)⟩
theorem Stp.cell {F F' : List Nat} {w w' : World} (h : Stp F w F' w') {p : Addr} (hp : p.block < w.heap.size) (hF : p.block ∉ F) : w'.cell? p = w.cell? p :=
  World.cell?_of_block (h.block _ hp hF)
theorem Stp.frozen {F F' : List Nat} {w w' : World} (h : Stp F w F' w') {p : Addr} (hp : p.block < w.heap.size) (hF : p.block ∉ F) : w'.frozen? p = w.frozen? p :=
  World.frozen?_of_block (h.block _ hp hF)

/-- The parser's struct lies in block P; its lists are rows of its own; F: all these blocks. -/
def IsP (B : Nat) (WV : Value) (w : World) (P : Nat) (ws : List ByteArray) (s : PS) (F : List Nat) : Prop :=
  ∃ wv vv hv nv : Value,
    w.heap[P]? = some (.cells #[wv, .int .i64 s.pos, .bool s.failed, vv, hv, nv] 53 (0, 0)) ∧ (B ≤ P ∧ wv = WV) ∧
    w.ownsRow B 9 1 wv ws.length (ws.map Value.string) ∧
    w.ownsRow B 5 1 vv s.vars.length (bc s.vars) ∧
    w.ownsRow B 5 1 hv s.hid.length (bc s.hid) ∧
    w.ownsRow B 130 6 nv s.nodes.length (ndCells s.nodes) ∧
    F = P :: (wv.ownBlock.toList ++ (vv.ownBlock.toList ++ (hv.ownBlock.toList ++ nv.ownBlock.toList))) ∧ F.Nodup

theorem ownsRow_of_eq {w w' : World} {B : Nat} {e : TypeId} {sz n : Nat} {v : Value} {xs : List Value} (h : w.ownsRow B e sz v n xs) (hb : ∀ k, v.ownBlock = some k → w'.heap[k]? = w.heap[k]?) : w'.ownsRow B e sz v n xs := by
  refine ⟨h.1, ?_⟩
  rcases h.2 with hn | ⟨g, cap, cur, rfl, hB, hg, rest⟩
  · exact .inl hn
  · exact .inr ⟨g, cap, cur, rfl, hB, by rw [hb g rfl]; exact hg, rest⟩

theorem IsP.mem {B : Nat} {WV : Value} {w : World} {P : Nat} {ws : List ByteArray} {s : PS} {F : List Nat} (h : IsP B WV w P ws s F) : ∀ k ∈ F, B ≤ k ∧ k < w.heap.size := by
  obtain ⟨wv, vv, hv, nv, hP, hB, h1, h2, h3, h4, rfl, _⟩ := h
  intro k hk
  simp only [List.mem_cons, List.mem_append, Option.mem_toList] at hk
  rcases hk with rfl | hk | hk | hk | hk
  · exact ⟨hB.1, (Array.getElem?_eq_some_iff.1 hP).1⟩
  · exact h1.lt k hk
  · exact h2.lt k hk
  · exact h3.lt k hk
  · exact h4.lt k hk
theorem IsP.memP {B : Nat} {WV : Value} {w : World} {P : Nat} {ws : List ByteArray} {s : PS} {F : List Nat} (h : IsP B WV w P ws s F) : P ∈ F := by
  obtain ⟨wv, vv, hv, nv, hP, hB, h1, h2, h3, h4, rfl, _⟩ := h
  simp
/-- it hangs on the footprint's blocks alone -/
theorem IsP.of_eq {B : Nat} {WV : Value} {w w' : World} {P : Nat} {ws : List ByteArray} {s : PS} {F : List Nat} (h : IsP B WV w P ws s F) (he : ∀ k ∈ F, w'.heap[k]? = w.heap[k]?) : IsP B WV w' P ws s F := by
  obtain ⟨wv, vv, hv, nv, hP, hB, h1, h2, h3, h4, hF, hN⟩ := h
  have hm : ∀ k, k = P ∨ wv.ownBlock = some k ∨ vv.ownBlock = some k ∨ hv.ownBlock = some k ∨ nv.ownBlock = some k → k ∈ F := by
    intro k hk; rw [hF]; simpa using hk
  exact ⟨wv, vv, hv, nv, by rw [he P (hm P (by simp))]; exact hP, hB, ownsRow_of_eq h1 (fun k hk => he k (hm k (by simp [hk]))), ownsRow_of_eq h2 (fun k hk => he k (hm k (by simp [hk]))),
    ownsRow_of_eq h3 (fun k hk => he k (hm k (by simp [hk]))), ownsRow_of_eq h4 (fun k hk => he k (hm k (by simp [hk]))), hF, hN⟩
theorem IsP.drewN {B : Nat} {WV : Value} {w : World} {P : Nat} {ws : List ByteArray} {s : PS} {F : List Nat} (h : IsP B WV w P ws s F) (n : Nat) : IsP B WV (w.drewN n) P ws s F :=
  h.of_eq (fun _ _ => by simp)
theorem IsP.drew {B : Nat} {WV : Value} {w : World} {P : Nat} {ws : List ByteArray} {s : PS} {F : List Nat} (h : IsP B WV w P ws s F) : IsP B WV w.drew P ws s F := h.of_eq (fun _ _ => rfl)
theorem IsP.alloc {B : Nat} {WV : Value} {w : World} {P : Nat} {ws : List ByteArray} {s : PS} {F : List Nat} (h : IsP B WV w P ws s F) (o : Obj) : IsP B WV (w.alloc o) P ws s F :=
  h.of_eq (fun k hk => Below.heap_alloc _ _ _ (h.mem k hk).2)
theorem IsP.setOther {B : Nat} {WV : Value} {w : World} {P : Nat} {ws : List ByteArray} {s : PS} {F : List Nat} (h : IsP B WV w P ws s F) {p : Addr} (hp : p.block ∉ F) (u : Value) : IsP B WV (w.setCell p u) P ws s F :=
  h.of_eq (fun k hk => Below.heap_setCell _ _ _ _ (by rintro rfl; exact hp hk))

/-- the cells of the struct -/
theorem cells6 {w : World} {P : Nat} {a b c d e f : Value} {t : TypeId} (h : w.heap[P]? = some (.cells #[a, b, c, d, e, f] t (0, 0))) :
    (w.cell? ⟨P, 0, none⟩ = some a ∧ w.cell? ⟨P, 1, none⟩ = some b ∧ w.cell? ⟨P, 2, none⟩ = some c ∧ w.cell? ⟨P, 3, none⟩ = some d ∧ w.cell? ⟨P, 4, none⟩ = some e ∧ w.cell? ⟨P, 5, none⟩ = some f) ∧
    ∀ j, w.frozen? ⟨P, j, none⟩ = false := by
  refine ⟨⟨?_, ?_, ?_, ?_, ?_, ?_⟩, fun j => ?_⟩
  all_goals simp [World.cell?, World.frozen?, h]

end Go.Proofs.Ytciihepbeacppaa
