import Derived.Test.YtciihepbeacppaaRF
import Derived.Deep.LoopGhost
namespace Go.Proofs.Ytciihepbeacppaa
open Go.RowKit

/-- a part of a list of texts -/
theorem Strs.part {w : World} {v : Value} {l : List ByteArray} (h : Strs w v l) {ao : Option Addr} {n cap : Nat} (hv : v = .slice ao n cap) (i j : Nat) (hij : i ≤ j) (hj : j ≤ l.length) (a : Option Addr)
    (ha : ∀ g off, ao = some ⟨g, off, none⟩ → i < cap → a = some ⟨g, off + i, none⟩) : Strs w (.slice a (j - i) (cap - i)) ((l.drop i).take (j - i)) := by
  obtain ⟨ao', cap', hv', hn, hm, hc⟩ := h
  rw [hv] at hv'
  simp only [Value.slice.injEq] at hv'
  obtain ⟨rfl, rfl, rfl⟩ := hv'
  have hlen : ((l.drop i).take (j - i)).length = j - i := by simp; omega
  refine ⟨a, cap - i, by rw [hlen], by rw [hlen]; omega, by omega, fun hne => ?_⟩
  have hij' : i < j := by
    rcases Nat.lt_or_ge i j with h | h
    · exact h
    · exact absurd (List.eq_nil_of_length_eq_zero (by rw [hlen]; omega)) hne
  obtain ⟨g, off, hao, hcell⟩ := hc (by intro e; rw [e] at hj; simp at hj; omega)
  refine ⟨g, off + i, ha g off hao (by omega), fun k hk => ?_⟩
  rw [hlen] at hk
  have := hcell (i + k) (by omega)
  rw [Nat.add_assoc, this]
  simp

def raCells (l : List RAt) : List Value := l.flatMap RAt.cells
theorem raCells_snoc (l : List RAt) (a : RAt) : raCells (l ++ [a]) = raCells l ++ a.cells := by simp [raCells]
theorem RAt.one (a : RAt) : ∀ u ∈ a.cells, u.oneCell' = true := by
  intro u hu; simp [RAt.cells] at hu; rcases hu with rfl | rfl | rfl <;> rfl
theorem Try.infoRAt : (Try.prog.info? 46).map (fun i => (i.zero, i.size, i.bytes)) = some (some (.agg #[.string ⟨#[]⟩, .string ⟨#[]⟩, .string ⟨#[]⟩]), 3, 48) := by kernel_rfl
/-- what an atom's words give to a formula -/
def pce (l : List ByteArray) : List RAt := if raE l then [] else [raA l]
/-- Formula: the words of the atom that is being read; those that are left -/
def rfo : List ByteArray → List ByteArray → Option (List RAt)
  | cur, [] => if raB cur then some (pce cur) else none
  | cur, x :: r => if eqW x starW then (if raB cur then (rfo [] r).map (pce cur ++ ·) else none) else rfo (cur ++ [x]) r
theorem new_cellsR (w : World) (b : Nat) (hb : b = w.heap.size) (xs : List Value) (T : TypeId) : ∀ (j : Nat) (u : Value), xs[j]? = some u → (w.alloc (.cells xs.toArray T)).cell? ((⟨b, 0, none⟩ : Addr).add j) = some u := by
  intro j u hj
  subst hb
  rw [show (⟨w.heap.size, 0, none⟩ : Addr).add j = ⟨w.heap.size, j, none⟩ by unfold Addr.add; split <;> simp_all]
  rw [World.cell?_alloc_mark]
  simpa using hj

/-- the state of Formula's loop -/
def FoAt (l : List ByteArray) (k f : Nat) (al : List RAt) : Prop :=
  (k ≤ l.length ∧ f ≤ k ∧ rfo [] l = (rfo ((l.drop f).take (k - f)) (l.drop k)).map (al ++ ·)) ∨ (k = l.length + 1 ∧ rfo [] l = some al)
theorem FoAt.start (l : List ByteArray) : FoAt l 0 0 [] := Or.inl ⟨Nat.zero_le _, Nat.le_refl _, by simp⟩
theorem FoAt.word {l : List ByteArray} {k f : Nat} {al : List RAt} (h : FoAt l k f al) (hk : k < l.length) (hx : eqW l[k] starW = false) : FoAt l (k + 1) f al := by
  rcases h with ⟨h1, h2, h3⟩ | ⟨h1, _⟩
  · refine Or.inl ⟨by omega, by omega, ?_⟩
    rw [h3, List.drop_eq_getElem_cons hk, rfo, if_neg (by simp [hx])]
    congr 2
    rw [show k + 1 - f = (k - f) + 1 by omega, List.take_succ_eq_append_getElem (by simp; omega)]
    congr 2
    simp only [List.getElem_drop]
    congr 1
    omega
  · omega
theorem FoAt.bad {l : List ByteArray} {k f : Nat} {al : List RAt} (h : FoAt l k f al) (hk : k ≤ l.length) (hx : (hk : k < l.length) → eqW l[k] starW = true) (hb : raB ((l.drop f).take (k - f)) = false) : rfo [] l = none := by
  rcases h with ⟨h1, h2, h3⟩ | ⟨h1, _⟩
  · rw [h3]
    by_cases hlt : k < l.length
    · rw [List.drop_eq_getElem_cons hlt, rfo, if_pos (hx hlt), if_neg (by simp [hb])]; rfl
    · have hdk : l.drop k = [] := List.drop_eq_nil_of_le (by omega)
      rw [hdk, rfo, if_neg (by simp [hb])]; rfl
  · omega
theorem FoAt.good {l : List ByteArray} {k f : Nat} {al : List RAt} (h : FoAt l k f al) (hk : k ≤ l.length) (hx : (hk : k < l.length) → eqW l[k] starW = true) (hb : raB ((l.drop f).take (k - f)) = true) : FoAt l (k + 1) (k + 1) (al ++ pce ((l.drop f).take (k - f))) := by
  rcases h with ⟨h1, h2, h3⟩ | ⟨h1, _⟩
  · by_cases hlt : k < l.length
    · refine Or.inl ⟨by omega, by omega, ?_⟩
      rw [h3, List.drop_eq_getElem_cons hlt, rfo, if_pos (hx hlt), if_pos hb, Option.map_map]
      simp only [Nat.sub_self, List.take_zero]
      congr 1
      funext x
      simp
    · refine Or.inr ⟨by omega, ?_⟩
      have hdk : l.drop k = [] := List.drop_eq_nil_of_le (by omega)
      rw [h3, hdk, rfo, if_pos hb]; rfl
  · omega
theorem FoAt.stop {l : List ByteArray} {k f : Nat} {al : List RAt} (h : FoAt l k f al) (hk : ¬ k ≤ l.length) : rfo [] l = some al := by
  rcases h with ⟨h1, h2, h3⟩ | ⟨_, h⟩
  · omega
  · exact h

end Go.Proofs.Ytciihepbeacppaa
