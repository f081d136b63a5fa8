import Derived.Test.YtciihepbeacppaaHD
namespace Go.Proofs.Ytciihepbeacppaa
open Go.RowKit

/-! ### way: an atom takes its cells -/
def wayM (ad nx : List Int) (C : List ByteArray → List Int → List Bool → Bool) (a : RAt) (ns : List ByteArray) (vs : List Int) : Nat → Int → List Bool → Bool
  | 0, _, _ => false
  | m + 1, v, fr =>
    if hCl ad fr v < ad.length then
      let ok := match evA ns vs a.b with
        | none => C (ns ++ [a.b]) (vs ++ [nx.getD (hCl ad fr v) 0]) (fr.set (hCl ad fr v) false)
        | some e => (e == nx.getD (hCl ad fr v) 0) && C ns vs (fr.set (hCl ad fr v) false)
      ok || (!eqW a.k toW && wayM ad nx C a ns vs m (nx.getD (hCl ad fr v) 0) (fr.set (hCl ad fr v) false))
    else false
def BV (vs : List Int) : Prop := ∀ v ∈ vs, -100000000000 ≤ v ∧ v ≤ 100000000000
/-- what the reference is given -/
structure HIn (w : World) (X : Nat) (ad nx : List Int) (pl pu : List RAt) (ns : List ByteArray) (vs : List Int) (fr : List Bool) (rv pv nv vv fv : Value) : Prop where
  hp : HpA w X ad nx
  pl : Lst w rv 3 pl.length (raCells pl)
  pu : Lst w pv 3 pu.length (raCells pu)
  ns : Lst w nv 1 ns.length (ns.map Value.string)
  vs : Lst w vv 1 vs.length (ints vs)
  fr : Lst w fv 1 fr.length (bools fr)
theorem HIn.below {w w' : World} {X : Nat} {ad nx : List Int} {pl pu : List RAt} {ns : List ByteArray} {vs : List Int} {fr : List Bool} {rv pv nv vv fv : Value} (h : HIn w X ad nx pl pu ns vs fr rv pv nv vv fv) (hb : Below w.heap.size w w') : HIn w' X ad nx pl pu ns vs fr rv pv nv vv fv :=
  ⟨h.hp.below hb, h.pl.below hb, h.pu.below hb, h.ns.below hb, h.vs.below hb, h.fr.below hb⟩
/-- the bounds -/
structure HBd (ad nx : List Int) (pl pu : List RAt) (ns : List ByteArray) (vs : List Int) (fr : List Bool) : Prop where
  l1 : ns.length = vs.length
  l2 : fr.length = ad.length
  l3 : nx.length = ad.length
  l4 : ns.length + 2 * pl.length + 2 * pu.length < 16000
  bv : BV vs
  ba : BV ad
  bn : BV nx
/-- what cells is to keep, for the atoms pl -/
def CelOK (X : Nat) (ad nx : List Int) (pu pl : List RAt) (C : List ByteArray → List Int → List Bool → Bool) : Prop :=
  ∀ (w : World) (rv pv nv vv fv : Value) (ns : List ByteArray) (vs : List Int) (fr : List Bool), HIn w X ad nx pl pu ns vs fr rv pv nv vv fv → HBd ad nx pl pu ns vs fr →
    Calls Try.prog 12 #[.pointer (some ⟨X, 0, none⟩), rv, pv, .agg #[nv, vv], fv] w fun e w' => e = .returned (.bool (C ns vs fr)) ∧ Below w.heap.size w w'
/-- what way is to keep -/
def WayOK (X : Nat) (ad nx : List Int) (pu pl : List RAt) (C : List ByteArray → List Int → List Bool → Bool) (m : Nat) : Prop :=
  ∀ (w : World) (rv pv nv vv fv : Value) (ns : List ByteArray) (vs : List Int) (fr : List Bool) (a : RAt) (v : Int), HIn w X ad nx pl pu ns vs fr rv pv nv vv fv → HBd ad nx pl pu (em :: ns) (0 :: vs) fr → fr.count true < m →
    Calls Try.prog 25 #[.pointer (some ⟨X, 0, none⟩), .agg #[.string a.k, .string a.a, .string a.b], .int .i64 v, rv, pv, .agg #[nv, vv], fv] w fun e w' => e = .returned (.bool (wayM ad nx C a ns vs m v fr)) ∧ Below w.heap.size w w'
theorem below_box2 (w : World) (a b : Obj) : Below w.heap.size w ((w.alloc a).alloc b) := ((Below.refl _ _).alloc (Nat.le_refl _) a).alloc (by simp) b
theorem cells3H {w : World} {r : Nat} {a b c : Value} {T : TypeId} (h : w.heap[r]? = some (.cells #[a, b, c] T (0, 0))) : w.cell? ⟨r, 0, none⟩ = some a ∧ w.cell? ⟨r, 1, none⟩ = some b ∧ w.cell? ⟨r, 2, none⟩ = some c := by
  refine ⟨?_, ?_, ?_⟩ <;> simp [World.cell?, h]
theorem count_set {fr : List Bool} {k : Nat} (hk : k < fr.length) (h : fr.getD k false = true) : (fr.set k false).count true < fr.count true := by
  induction fr generalizing k with
  | nil => simp at hk
  | cons x r ih =>
    cases k with
    | zero => simp at h; subst h; simp
    | succ k =>
      have := ih (k := k) (by simpa using hk) (by simpa using h)
      simp only [List.set_cons_succ, List.count_cons]
      omega
theorem hCl_free {ad : List Int} {fr : List Bool} {a : Int} (h : hCl ad fr a < ad.length) : fr.getD (hCl ad fr a) false = true ∧ ad.getD (hCl ad fr a) 0 = a := by
  unfold hCl at h ⊢
  cases hf : (List.range ad.length).find? (clP ad fr a) with
  | none => rw [hf] at h; simp at h
  | some k =>
    have := List.find?_some hf
    unfold clP at this
    simp only [Bool.and_eq_true, beq_iff_eq] at this
    exact this
end Go.Proofs.Ytciihepbeacppaa
