import Derived.Test.YtciihepbeacppaaWO
namespace Go.Proofs.Ytciihepbeacppaa
open Go.RowKit

def kNew : ByteArray := ⟨#[110, 101, 119]⟩
def kDot : ByteArray := ⟨#[46]⟩
def kN : ByteArray := ⟨#[110]⟩
def kSkip : ByteArray := ⟨#[115, 107, 105, 112]⟩
def kFree : ByteArray := ⟨#[102, 114, 101, 101]⟩

/-- condition: the sign -/
def coT (ws : List ByteArray) (s : PS) : PS := if acB ws kNe s then s.adv else exS ws kEq s
def coO (ws : List ByteArray) (s : PS) : Nat := if acB ws kNe s then 9 else 8
def coS (ws : List ByteArray) (s : PS) : PS := if acB ws kStar s then s.adv else valS ws (coT ws (vaS ws s))
def coN (ws : List ByteArray) (s : PS) : Nd :=
  if acB ws kStar s then ⟨7, 0, 0, 0, 0, 0⟩ else ⟨coO ws (vaS ws s), vaI ws s, valK ws (coT ws (vaS ws s)), valI ws (coT ws (vaS ws s)), 0, 0⟩
/-- test -/
def tsP (ws : List ByteArray) (s : PS) : PS := exS ws kClose (coS ws (exS ws kOpen s))
def tsS (ws : List ByteArray) (s : PS) : PS := addS (coN ws (exS ws kOpen s)) (tsP ws s)
/-- assignment -/
def asD (ws : List ByteArray) (s : PS) : Bool := valK ws s == 1 && acB ws kDot (valS ws s)
def asS (ws : List ByteArray) (s : PS) : PS := if acB ws kNew s then s.adv else if asD ws s then exS ws kN (valS ws s).adv else valS ws s
def asN (ws : List ByteArray) (v : Nat) (s : PS) : Nd := if acB ws kNew s then ⟨4, v, 0, 0, 0, 0⟩ else if asD ws s then ⟨2, v, valK ws s, valI ws s, 0, 0⟩ else ⟨1, v, valK ws s, valI ws s, 0, 0⟩
/-- simple -/
def siL (ws : List ByteArray) (s : PS) : PS := exS ws kEq (exS ws kN s.adv)
def siS (ws : List ByteArray) (s : PS) : PS :=
  if acB ws kSkip s then s.adv else if acB ws kFree s then vaS ws s.adv else if acB ws kDot (vaS ws s) then valS ws (siL ws (vaS ws s)) else asS ws (exS ws kEq (vaS ws s))
def siN (ws : List ByteArray) (s : PS) : Nd :=
  if acB ws kSkip s then ⟨6, 0, 0, 0, 0, 0⟩ else if acB ws kFree s then ⟨5, vaI ws s.adv, 0, 0, 0, 0⟩ else
  if acB ws kDot (vaS ws s) then ⟨3, vaI ws s, valK ws (siL ws (vaS ws s)), valI ws (siL ws (vaS ws s)), 0, 0⟩ else asN ws (vaI ws s) (exS ws kEq (vaS ws s))

section
variable {B : Nat} {WV : Value} {w : World} {P : Nat} {ws : List ByteArray} {s : PS} {F : List Nat}


end
end Go.Proofs.Ytciihepbeacppaa

namespace Go.Proofs.Ytciihepbeacppaa
open Go.RowKit

section
variable {ws : List ByteArray} {s : PS}
theorem exS_nodes (k : ByteArray) : (exS ws k s).nodes = s.nodes := by unfold exS; split <;> rfl
theorem vaS_nodes : (vaS ws s).nodes = s.nodes := by unfold vaS; split <;> rfl
theorem valS_nodes : (valS ws s).nodes = s.nodes := by unfold valS; split; rfl; exact vaS_nodes
theorem teS_nodes : (teS ws s).nodes = s.nodes := by unfold teS; split; rfl; exact valS_nodes
theorem coT_nodes : (coT ws s).nodes = s.nodes := by unfold coT; split; rfl; exact exS_nodes _
theorem coS_nodes : (coS ws s).nodes = s.nodes := by unfold coS; split; rfl; rw [valS_nodes, coT_nodes, vaS_nodes]
theorem tsP_nodes : (tsP ws s).nodes = s.nodes := by unfold tsP; rw [exS_nodes, coS_nodes, exS_nodes]
theorem asS_nodes : (asS ws s).nodes = s.nodes := by unfold asS; split; rfl; split; rw [exS_nodes]; exact valS_nodes; exact valS_nodes
theorem siS_nodes : (siS ws s).nodes = s.nodes := by
  unfold siS; split; rfl; split; rw [vaS_nodes]; rfl; split
  · rw [valS_nodes]; unfold siL; rw [exS_nodes, exS_nodes]; exact vaS_nodes
  · rw [asS_nodes, exS_nodes, vaS_nodes]
end

section
variable {B : Nat} {WV : Value} {w : World} {P : Nat} {ws : List ByteArray} {s : PS} {F : List Nat}


end
end Go.Proofs.Ytciihepbeacppaa

namespace Go.Proofs.Ytciihepbeacppaa
open Go.RowKit

def kLB : ByteArray := ⟨#[123]⟩
def kRB : ByteArray := ⟨#[125]⟩
def kSemi : ByteArray := ⟨#[59]⟩
def kIf : ByteArray := ⟨#[105, 102]⟩
def kWhile : ByteArray := ⟨#[119, 104, 105, 108, 101]⟩
def kElse : ByteArray := ⟨#[101, 108, 115, 101]⟩

def setOt (k n : Nat) (l : List Nd) : List Nd := l.modify k (fun x => { x with ot := n })
def setNx (k n : Nat) (l : List Nd) : List Nd := l.modify k (fun x => { x with nx := n })
def jmp : Nd := ⟨10, 0, 0, 0, 0, 0⟩

/-- the command of a simple kind -/
def scS (ws : List ByteArray) (s : PS) : PS := addS (siN ws s) (exS ws kSemi (siS ws s))
/-- if: up to and with its first block -/
def brA (blk : PS → PS) (ws : List ByteArray) (s : PS) : PS := blk (tsS ws (exS ws kIf s))
/-- if: the node ahead of the second block -/
def brB (t : Nat) (s : PS) : PS := { addS jmp s.adv with nodes := setOt t (addS jmp s.adv).nodes.length (addS jmp s.adv).nodes }
def brC (j : Nat) (s : PS) : PS := { s with nodes := setNx j s.nodes.length s.nodes }
def brS (blk : PS → PS) (ws : List ByteArray) (s : PS) : PS :=
  if acB ws kElse (brA blk ws s) then brC (brA blk ws s).nodes.length (blk (brB s.nodes.length (brA blk ws s)))
  else { brA blk ws s with nodes := setOt s.nodes.length (brA blk ws s).nodes.length (brA blk ws s).nodes }
def loA (blk : PS → PS) (ws : List ByteArray) (s : PS) : PS := blk (tsS ws (exS ws kWhile s))
def loS (blk : PS → PS) (ws : List ByteArray) (s : PS) : PS :=
  { addS jmp (loA blk ws s) with nodes := setOt s.nodes.length (addS jmp (loA blk ws s)).nodes.length (setNx (loA blk ws s).nodes.length s.nodes.length (addS jmp (loA blk ws s)).nodes) }
def cmB (blk : PS → PS) (ws : List ByteArray) (s : PS) : PS := if acB ws kIf s then brS blk ws s else if acB ws kWhile s then loS blk ws s else scS ws s
def cmS (c : PS → PS) (ws : List ByteArray) : Nat → PS → PS
  | 0, s => s
  | n + 1, s => if s.failed || acB ws kRB s then s else cmS c ws n (c s)
def blS (ws : List ByteArray) : Nat → PS → PS
  | 0, s => s
  | f + 1, s => exS ws kRB (cmS (cmB (blS ws f) ws) ws (ws.length + 2) (exS ws kLB s))

theorem setOt_length (k n : Nat) (l : List Nd) : (setOt k n l).length = l.length := by simp [setOt]
theorem setNx_length (k n : Nat) (l : List Nd) : (setNx k n l).length = l.length := by simp [setNx]

/-- a fault counts one -/
def fb (s : PS) : Nat := if s.failed then 1 else 0

section
variable {ws : List ByteArray} {s : PS}
theorem acB_failed (k : ByteArray) (hk : k.size ≠ 0) (h : s.failed = true) : acB ws k s = false := by
  cases hb : acB ws k s with
  | false => rfl
  | true => have := (pk_lt (ws := ws) (s := s) (by rw [eq_of_toList hb]; exact hk)).1; rw [h] at this; cases this
theorem exS_ok (k : ByteArray) (h : (exS ws k s).failed = false) : acB ws k s = true ∧ s.failed = false ∧ (exS ws k s).pos = s.pos + 1 := by
  unfold exS at *
  split at h
  · rename_i hb; rw [if_pos hb]; exact ⟨hb, h, rfl⟩
  · cases h
theorem exS_stick (k : ByteArray) (hk : k.size ≠ 0) (h : s.failed = true) : (exS ws k s).failed = true := by
  unfold exS; rw [acB_failed k hk h]; rfl
theorem vaS_ok (h : (vaS ws s).failed = false) : lowB (pk ws s) = true ∧ s.failed = false ∧ (vaS ws s).pos = s.pos + 1 := by
  unfold vaS at *
  split at h
  · rename_i hb; rw [if_pos hb]; exact ⟨hb, h, rfl⟩
  · cases h
theorem vaS_stick (h : s.failed = true) : (vaS ws s).failed = true := by
  cases hf : (vaS ws s).failed with
  | true => rfl
  | false => have := (vaS_ok hf).2.1; rw [h] at this; cases this
theorem valS_ok (h : (valS ws s).failed = false) : s.failed = false ∧ (valS ws s).pos = s.pos + 1 := by
  unfold valS at *
  split at h
  · rename_i hb; rw [if_pos hb]; exact ⟨h, rfl⟩
  · rename_i hb; rw [if_neg hb]; exact (vaS_ok h).2
theorem coS_ok (h : (coS ws s).failed = false) : s.failed = false := by
  unfold coS at h
  split at h
  · exact h
  · have h1 := (valS_ok h).1
    unfold coT at h1
    split at h1
    · exact (vaS_ok h1).2.1
    · exact (vaS_ok (exS_ok _ h1).2.1).2.1
theorem tsS_ok (h : (tsS ws s).failed = false) : s.failed = false := (exS_ok _ (coS_ok (exS_ok _ h).2.1)).2.1
theorem asS_ok (h : (asS ws s).failed = false) : s.failed = false := by
  unfold asS at h
  split at h
  · exact h
  · split at h
    · exact (valS_ok (exS_ok _ h).2.1).1
    · exact (valS_ok h).1
theorem siS_ok (h : (siS ws s).failed = false) : s.failed = false ∧ s.pos < (siS ws s).pos := by
  unfold siS at *
  split at h
  · rename_i hb; rw [if_pos hb]; exact ⟨h, Nat.lt_succ_self _⟩
  · rename_i hb
    rw [if_neg hb]
    split at h
    · rename_i hb2; rw [if_pos hb2]; exact ⟨(vaS_ok h).2.1, by rw [(vaS_ok h).2.2]; show s.pos < s.pos + 1 + 1; omega⟩
    · rename_i hb2
      rw [if_neg hb2]
      split at h
      · rename_i hb3
        rw [if_pos hb3]
        have h1 := valS_ok h
        unfold siL at h1
        have h2 := (vaS_ok (exS_ok _ (exS_ok _ h1.1).2.1).2.1).2
        refine ⟨h2.1, ?_⟩
        have e1 := valS_pos (ws := ws) (s := siL ws (vaS ws s))
        have e2 : (vaS ws s).adv.pos ≤ (siL ws (vaS ws s)).pos := Nat.le_trans (exS_pos kN) (exS_pos kEq)
        have e3 := adv_pos (s := vaS ws s)
        omega
      · rename_i hb3
        rw [if_neg hb3]
        have h1 := exS_ok _ (asS_ok h)
        have h2 := (vaS_ok h1.2.1).2
        refine ⟨h2.1, ?_⟩
        have e1 : (exS ws kEq (vaS ws s)).pos ≤ (asS ws (exS ws kEq (vaS ws s))).pos := by
          unfold asS; split
          · exact adv_pos
          · split
            · exact Nat.le_trans (Nat.le_trans valS_pos adv_pos) (exS_pos _)
            · exact valS_pos
        omega
theorem coS_pos : s.pos ≤ (coS ws s).pos := by
  unfold coS; split
  · exact adv_pos
  · refine Nat.le_trans (Nat.le_trans (vaS_pos (ws := ws)) ?_) valS_pos
    unfold coT; split
    · exact adv_pos
    · exact exS_pos _
theorem tsS_pos : s.pos ≤ (tsS ws s).pos := Nat.le_trans (Nat.le_trans (exS_pos kOpen) coS_pos) (exS_pos kClose)
theorem tsS_nodes : (tsS ws s).nodes.length = s.nodes.length + 1 := by
  unfold tsS addS; simp [tsP_nodes]
theorem siS_pos : s.pos ≤ (siS ws s).pos := by
  unfold siS; split
  · exact adv_pos
  · split
    · exact Nat.le_trans adv_pos vaS_pos
    · split
      · exact Nat.le_trans (Nat.le_trans (Nat.le_trans (Nat.le_trans vaS_pos adv_pos) (exS_pos kN)) (exS_pos kEq)) valS_pos
      · refine Nat.le_trans (Nat.le_trans (vaS_pos (ws := ws)) (exS_pos (ws := ws) kEq)) ?_
        unfold asS; split
        · exact adv_pos
        · split
          · exact Nat.le_trans (Nat.le_trans valS_pos adv_pos) (exS_pos _)
          · exact valS_pos

/-- what is known of a block's reader -/
structure Good (blk : PS → PS) : Prop where
  pos : ∀ s, s.pos ≤ (blk s).pos
  nodes : ∀ s, s.nodes.length ≤ (blk s).nodes.length
  ok : ∀ s, (blk s).failed = false → s.failed = false
  phi : ∀ s, (blk s).nodes.length + 2 * s.pos ≤ s.nodes.length + 2 * (blk s).pos + fb (blk s)

theorem fb_le (s : PS) : fb s ≤ 1 := by unfold fb; split <;> omega
theorem fb_ok {s : PS} (h : s.failed = false) : fb s = 0 := by unfold fb; rw [h]; rfl
theorem fb_bad {s : PS} (h : s.failed = true) : fb s = 1 := by unfold fb; rw [h]; rfl

/-- a command: it goes on or fails; its nodes -/
theorem cmB_good {blk : PS → PS} (g : Good blk) : s.pos ≤ (cmB blk ws s).pos ∧ s.nodes.length ≤ (cmB blk ws s).nodes.length ∧
    ((cmB blk ws s).failed = false → s.failed = false ∧ s.pos < (cmB blk ws s).pos) ∧ (cmB blk ws s).nodes.length + 2 * s.pos ≤ s.nodes.length + 2 * (cmB blk ws s).pos + fb (cmB blk ws s) := by
  unfold cmB
  split
  · rename_i hb
    have e1 : (exS ws kIf s) = s.adv := if_pos hb
    have a1 : s.adv.pos = s.pos + 1 := rfl
    have a2 := tsS_pos (ws := ws) (s := s.adv)
    have a3 := tsS_nodes (ws := ws) (s := s.adv)
    have a4 : s.adv.nodes = s.nodes := rfl
    rw [a4] at a3
    have eA : brA blk ws s = blk (tsS ws s.adv) := by unfold brA; rw [e1]
    have p1 := g.pos (tsS ws s.adv)
    have p2 := g.nodes (tsS ws s.adv)
    have p3 := g.ok (tsS ws s.adv)
    have p4 := g.phi (tsS ws s.adv)
    rw [← eA] at p1 p2 p3 p4
    have ok1 : (brA blk ws s).failed = false → s.failed = false := fun h => tsS_ok (s := s.adv) (p3 h)
    unfold brS
    split
    · rename_i hb2
      have okA : (brA blk ws s).failed = false := (pk_lt (by rw [eq_of_toList hb2]; decide)).1
      have f0 := fb_ok okA
      have b1 : (brB s.nodes.length (brA blk ws s)).pos = (brA blk ws s).pos + 1 := rfl
      have b2 : (brB s.nodes.length (brA blk ws s)).nodes.length = (brA blk ws s).nodes.length + 1 := by simp [brB, setOt_length, addS, PS.adv]
      have q1 := g.pos (brB s.nodes.length (brA blk ws s))
      have q2 := g.nodes (brB s.nodes.length (brA blk ws s))
      have q4 := g.phi (brB s.nodes.length (brA blk ws s))
      generalize blk (brB s.nodes.length (brA blk ws s)) = z at q1 q2 q4
      have c1 : (brC (brA blk ws s).nodes.length z).pos = z.pos := rfl
      have c2 : (brC (brA blk ws s).nodes.length z).nodes.length = z.nodes.length := by simp [brC, setNx_length]
      have c3 : fb (brC (brA blk ws s).nodes.length z) = fb z := rfl
      rw [c1, c2, c3]
      exact ⟨by omega, by omega, fun _ => ⟨ok1 okA, by omega⟩, by omega⟩
    · simp only [setOt_length]
      have c3 : fb { brA blk ws s with nodes := setOt s.nodes.length (brA blk ws s).nodes.length (brA blk ws s).nodes } = fb (brA blk ws s) := rfl
      rw [c3]
      have := fb_le (brA blk ws s)
      exact ⟨by omega, by omega, fun h => ⟨ok1 h, by omega⟩, by omega⟩
  · split
    · rename_i _ hb
      have e1 : (exS ws kWhile s) = s.adv := if_pos hb
      have a1 : s.adv.pos = s.pos + 1 := rfl
      have a2 := tsS_pos (ws := ws) (s := s.adv)
      have a3 := tsS_nodes (ws := ws) (s := s.adv)
      have a4 : s.adv.nodes = s.nodes := rfl
      rw [a4] at a3
      have eA : loA blk ws s = blk (tsS ws s.adv) := by unfold loA; rw [e1]
      have p1 := g.pos (tsS ws s.adv)
      have p2 := g.nodes (tsS ws s.adv)
      have p3 := g.ok (tsS ws s.adv)
      have p4 := g.phi (tsS ws s.adv)
      rw [← eA] at p1 p2 p3 p4
      have ok1 : (loA blk ws s).failed = false → s.failed = false := fun h => tsS_ok (s := s.adv) (p3 h)
      have c1 : (loS blk ws s).pos = (loA blk ws s).pos := rfl
      have c2 : (loS blk ws s).nodes.length = (loA blk ws s).nodes.length + 1 := by simp [loS, setOt_length, setNx_length, addS]
      have c3 : fb (loS blk ws s) = fb (loA blk ws s) := rfl
      have c4 : (loS blk ws s).failed = (loA blk ws s).failed := rfl
      rw [c1, c2, c3, c4]
      exact ⟨by omega, by omega, fun h => ⟨ok1 h, by omega⟩, by omega⟩
    · have a1 := siS_pos (ws := ws) (s := s)
      have a2 := exS_pos (ws := ws) (s := siS ws s) kSemi
      have c1 : (scS ws s).pos = (exS ws kSemi (siS ws s)).pos := rfl
      have c2 : (scS ws s).nodes.length = s.nodes.length + 1 := by simp [scS, addS, exS_nodes, siS_nodes]
      have c4 : (scS ws s).failed = (exS ws kSemi (siS ws s)).failed := rfl
      cases hf : (scS ws s).failed with
      | true =>
        rw [c1, c2, fb_bad hf]
        exact ⟨by omega, by omega, (fun h => absurd h (by simp)), by omega⟩
      | false =>
        rw [c4] at hf
        have h1 := exS_ok _ hf
        have h2 := siS_ok h1.2.1
        rw [c1, c2]
        exact ⟨by omega, by omega, fun _ => ⟨h2.1, by omega⟩, by omega⟩

theorem cmS_good {c : PS → PS} (hc : ∀ s, s.pos ≤ (c s).pos ∧ s.nodes.length ≤ (c s).nodes.length ∧ ((c s).failed = false → s.failed = false) ∧ (c s).nodes.length + 2 * s.pos ≤ s.nodes.length + 2 * (c s).pos + fb (c s)) (n : Nat) :
    ∀ s, s.pos ≤ (cmS c ws n s).pos ∧ s.nodes.length ≤ (cmS c ws n s).nodes.length ∧ ((cmS c ws n s).failed = false → s.failed = false) ∧ (cmS c ws n s).nodes.length + 2 * s.pos ≤ s.nodes.length + 2 * (cmS c ws n s).pos + fb (cmS c ws n s) := by
  induction n with
  | zero => intro s; exact ⟨Nat.le_refl _, Nat.le_refl _, id, by simp only [cmS]; omega⟩
  | succ n ih =>
    intro s
    simp only [cmS]
    split
    · exact ⟨Nat.le_refl _, Nat.le_refl _, id, by omega⟩
    · obtain ⟨a, b, d, e⟩ := ih (c s)
      obtain ⟨a', b', d', e'⟩ := hc s
      refine ⟨by omega, by omega, fun h => d' (d h), ?_⟩
      cases hf : (c s).failed with
      | false => rw [fb_ok hf] at e'; omega
      | true =>
        have : fb (cmS c ws n (c s)) = 1 := by
          cases hg : (cmS c ws n (c s)).failed with
          | true => exact fb_bad hg
          | false => rw [d hg] at hf; cases hf
        have hn : cmS c ws n (c s) = c s := by
          cases n with
          | zero => rfl
          | succ n => simp [cmS, hf]
        rw [hn] at e ⊢
        omega
theorem blS_good (f : Nat) : Good (blS ws f) := by
  induction f with
  | zero => exact ⟨fun _ => Nat.le_refl _, fun _ => Nat.le_refl _, fun _ => id, fun _ => by simp only [blS]; omega⟩
  | succ f ih =>
    have hc := fun n s => cmS_good (ws := ws) (c := cmB (blS ws f) ws) (fun s => ⟨(cmB_good ih).1, (cmB_good ih).2.1, fun h => ((cmB_good ih).2.2.1 h).1, (cmB_good ih).2.2.2⟩) n s
    refine ⟨fun s => ?_, fun s => ?_, fun s h => ?_, fun s => ?_⟩
    · exact Nat.le_trans (Nat.le_trans (exS_pos kLB) (hc _ _).1) (exS_pos kRB)
    · simp only [blS, exS_nodes]
      have := (hc (ws.length + 2) (exS ws kLB s)).2.1
      rw [exS_nodes] at this; exact this
    · exact (exS_ok _ ((hc _ _).2.2.1 (exS_ok _ h).2.1)).2.1
    · simp only [blS, exS_nodes]
      have h1 := (hc (ws.length + 2) (exS ws kLB s)).2.2.2
      have h2 := exS_pos (ws := ws) (s := s) kLB
      rw [exS_nodes] at h1
      generalize cmS (cmB (blS ws f) ws) ws (ws.length + 2) (exS ws kLB s) = z at h1 ⊢
      have h3 := exS_pos (ws := ws) (s := z) kRB
      cases hf : z.failed with
      | false => rw [fb_ok hf] at h1; omega
      | true =>
        have h4 : fb (exS ws kRB z) = 1 := fb_bad (exS_stick kRB (by decide) hf)
        have h5 := fb_le z
        omega
end
end Go.Proofs.Ytciihepbeacppaa

namespace Go.Proofs.Ytciihepbeacppaa
open Go.RowKit

theorem nd_len (l : List Nd) : (ndCells l).length = l.length * 6 := by
  induction l with
  | nil => rfl
  | cons a r ih => simp only [ndCells, List.flatMap_cons, List.length_append, List.length_cons] at *; rw [ih]; simp [Nd.cells]; omega
theorem nd_setOt (k n : Nat) (l : List Nd) : ndCells (setOt k n l) = (ndCells l).set (k * 6 + 5) (.int .i64 n) := by
  induction l generalizing k with
  | nil => simp [ndCells, setOt]
  | cons a r ih =>
    cases k with
    | zero => simp [ndCells, setOt, Nd.cells]
    | succ k =>
      have := ih k
      simp only [ndCells, setOt, List.modify_succ_cons, List.flatMap_cons] at *
      rw [this, show (k + 1) * 6 + 5 = (k * 6 + 5) + a.cells.length by simp [Nd.cells]; omega, List.set_append_right _ _ (by omega)]
      simp
theorem nd_setNx (k n : Nat) (l : List Nd) : ndCells (setNx k n l) = (ndCells l).set (k * 6 + 4) (.int .i64 n) := by
  induction l generalizing k with
  | nil => simp [ndCells, setNx]
  | cons a r ih =>
    cases k with
    | zero => simp [ndCells, setNx, Nd.cells]
    | succ k =>
      have := ih k
      simp only [ndCells, setNx, List.modify_succ_cons, List.flatMap_cons] at *
      rw [this, show (k + 1) * 6 + 4 = (k * 6 + 4) + a.cells.length by simp [Nd.cells]; omega, List.set_append_right _ _ (by omega)]
      simp

theorem own_set {w : World} {B : Nat} {e : TypeId} {sz n g cap j : Nat} {xs : List Value} (h : w.ownsRow B e sz (.slice (some ⟨g, 0, none⟩) n cap) n xs) (u : Value) :
    (w.setCell ⟨g, j, none⟩ u).ownsRow B e sz (.slice (some ⟨g, 0, none⟩) n cap) n (xs.set j u) := by
  refine ⟨by simpa using h.1, ?_⟩
  rcases h.2 with ⟨h0, _⟩ | ⟨g', cap', cur, hv, hB, hg, hn, hm, hs, ht⟩
  · cases h0
  · simp only [Value.slice.injEq, Option.some.injEq, Addr.mk.injEq] at hv
    obtain ⟨⟨rfl, _⟩, _, rfl⟩ := hv
    refine .inr ⟨g, cap, cur.setIfInBounds j u, rfl, hB, set6 hg u, hn, hm, by simpa using hs, ?_⟩
    rw [Array.toList_setIfInBounds, List.take_set, ht]

section
variable {B : Nat} {WV : Value} {w : World} {P : Nat} {ws : List ByteArray} {s : PS} {F : List Nat} {wv vv hv : Value} {g cap : Nat}

/-- a store into a node -/
theorem IsPv.setNode (h : IsPv B WV w P ws s F wv vv hv (.slice (some ⟨g, 0, none⟩) s.nodes.length cap)) (j : Nat) (u : Value) (l : List Nd) (hl : ndCells l = (ndCells s.nodes).set j u) (hll : l.length = s.nodes.length) :
    IsPv B WV (w.setCell ⟨g, j, none⟩ u) P ws { s with nodes := l } F wv vv hv (.slice (some ⟨g, 0, none⟩) s.nodes.length cap) := by
  have hap := h.apart
  obtain ⟨hP, hB, h1, h2, h3, h4, hF, hN⟩ := h
  have hg : (Value.slice (some ⟨g, 0, none⟩) s.nodes.length cap).ownBlock = some g := rfl
  have hne : ∀ k, k ≠ g → (w.setCell ⟨g, j, none⟩ u).heap[k]? = w.heap[k]? := fun k hk => Below.heap_setCell _ _ _ _ hk
  have ho := hap.2.2.2 g hg
  refine ⟨by rw [hne P (fun e => hap.1 g (by simp [hg]) e.symm)]; exact hP, hB, ownsRow_of_eq h1 (fun k hk => hne k (fun e => ho.1 (by rw [← e]; exact hk))), ownsRow_of_eq h2 (fun k hk => hne k (fun e => ho.2.1 (by rw [← e]; exact hk))),
    ownsRow_of_eq h3 (fun k hk => hne k (fun e => ho.2.2 (by rw [← e]; exact hk))), ?_, hF, hN⟩
  exact own_cast (w := w.setCell ⟨g, j, none⟩ u) (by have := own_set h4 (j := j) u; exact this) hll hl
theorem IsPv.nodeCell (h : IsPv B WV w P ws s F wv vv hv (.slice (some ⟨g, 0, none⟩) s.nodes.length cap)) (j : Nat) (hj : j < s.nodes.length * 6) : (∃ v, w.cell? ⟨g, j, none⟩ = some v ∧ v ∈ ndCells s.nodes) ∧ w.frozen? ⟨g, j, none⟩ = false := by
  obtain ⟨hP, hB, h1, h2, h3, h4, hF, hN⟩ := h
  have hl : j < (ndCells s.nodes).length := by rw [nd_len]; exact hj
  constructor
  · have := h4.cells (g := g) rfl j _ (List.getElem?_eq_getElem hl)
    rw [show (⟨g, 0, none⟩ : Addr).add j = ⟨g, j, none⟩ by unfold Addr.add; split <;> simp_all] at this
    exact ⟨_, this, List.getElem_mem _⟩
  · rcases h4.2 with ⟨h0, _⟩ | ⟨g', cap', cur, hv, hB, hg, hn, hm, hs, ht⟩
    · cases h0
    · simp only [Value.slice.injEq, Option.some.injEq, Addr.mk.injEq] at hv
      obtain ⟨⟨rfl, _⟩, _, rfl⟩ := hv
      simp [World.frozen?, hg]
theorem nd_mem_int {l : List Nd} {v : Value} (h : v ∈ ndCells l) : ∃ n : Int, v = .int .i64 n := by
  simp only [ndCells, List.mem_flatMap, Nd.cells] at h
  obtain ⟨a, _, h⟩ := h
  simp at h
  rcases h with h | h | h | h | h | h <;> exact ⟨_, h⟩
end
end Go.Proofs.Ytciihepbeacppaa

namespace Go.Proofs.Ytciihepbeacppaa
open Go.RowKit

section
variable {B : Nat} {WV : Value} {w : World} {P : Nat} {ws : List ByteArray} {s : PS} {F : List Nat} {wv vv hv : Value} {g cap : Nat}

theorem IsPv.inF {w0 : World} {F0 : List Nat} {n : Nat} {j : Nat} (h : IsPv B WV w P ws s F wv vv hv (.slice (some ⟨g, 0, none⟩) n cap)) (hS : Stp F0 w0 F w) : (⟨g, j, none⟩ : Addr).block ∈ F0 ∨ w0.heap.size ≤ (⟨g, j, none⟩ : Addr).block :=
  hS.foot g (by rw [h.2.2.2.2.2.2.1]; simp [Value.ownBlock])
theorem IsQ.nodesAt (h : IsQ B WV w P ws s F) (hn : 0 < s.nodes.length) : ∃ wv vv hv g cap, IsPv B WV w P ws s F wv vv hv (.slice (some ⟨g, 0, none⟩) s.nodes.length cap) := by
  obtain ⟨wv, vv, hv, nv, hpv⟩ := h.m.named
  rcases hpv.2.2.2.2.2.1.2 with ⟨_, h0⟩ | ⟨g, cap, cur, rfl, _⟩
  · omega
  · exact ⟨wv, vv, hv, g, cap, hpv⟩


end
end Go.Proofs.Ytciihepbeacppaa

namespace Go.Proofs.Ytciihepbeacppaa
open Go.RowKit

section
variable {B : Nat} {WV : Value} {w : World} {P : Nat} {ws : List ByteArray} {s : PS} {F : List Nat} {wv vv hv : Value} {g cap : Nat}


end
end Go.Proofs.Ytciihepbeacppaa

namespace Go.Proofs.Ytciihepbeacppaa
open Go.RowKit

theorem cmS_stop {ws : List ByteArray} {c : PS → PS} (n : Nat) {s : PS} (h : (s.failed || acB ws kRB s) = true) : cmS c ws n s = s := by
  cases n with
  | zero => rfl
  | succ n => simp only [cmS]; rw [if_pos h]
theorem cmS_go {ws : List ByteArray} {c : PS → PS} (n : Nat) {s : PS} (h : (s.failed || acB ws kRB s) = false) : cmS c ws (n + 1) s = cmS c ws n (c s) := by
  simp only [cmS]; rw [if_neg (by simp [h])]
theorem exS_failed {ws : List ByteArray} {k : ByteArray} {s : PS} (hk : k.size ≠ 0) (h : s.failed = true) : exS ws k s = s := by
  unfold exS; rw [acB_failed k hk h]
  obtain ⟨a, b, c, d, e⟩ := s
  simp only at h
  subst h
  rfl

section
variable {B : Nat} {WV : Value} {w : World} {P : Nat} {ws : List ByteArray} {s : PS} {F : List Nat} {wv vv hv : Value} {g cap : Nat}

end
end Go.Proofs.Ytciihepbeacppaa

namespace Go.Proofs.Ytciihepbeacppaa
open Go.RowKit

def kPre : ByteArray := ⟨#[112, 114, 101]⟩
def ndEnd : Nd := ⟨0, 0, 0, 0, 0, 0⟩
/-- finish -/
def finS (ws : List ByteArray) (s : PS) : PS := if s.pos = ws.length then s else s.fail
/-- program -/
def prT (ws : List ByteArray) (s : PS) : PS := addS ndEnd (blS ws (ws.length + 1) (foS ws (exS ws kPre s)))
def prS (ws : List ByteArray) (s : PS) : PS := if (prT ws s).pos = ws.length then prT ws s else (prT ws s).fail
def prA (ws : List ByteArray) (s : PS) : List Atm := foA ws (exS ws kPre s)

section
variable {B : Nat} {WV : Value} {w : World} {P : Nat} {ws : List ByteArray} {s : PS} {F : List Nat} {wv vv hv nv : Value} {g cap : Nat}

theorem liS_nodes : (liS ws s).nodes = s.nodes := by unfold liS liS2 liS1; rw [exS_nodes, teS_nodes, exS_nodes, teS_nodes, exS_nodes]
theorem relS_nodes : (relS ws s).nodes = s.nodes := by unfold relS; split; rfl; split; rfl; exact exS_nodes _
theorem atS_nodes : (atS ws s).nodes = s.nodes := by
  unfold atS; split; rfl; split
  · rw [liS_nodes]; rfl
  · rw [teS_nodes, relS_nodes, teS_nodes]
theorem foG_nodes (n : Nat) : ∀ s, (foG ws n s).2.nodes = s.nodes := by
  induction n with
  | zero => intro s; rfl
  | succ n ih =>
    intro s
    simp only [foG]
    split
    · show (foG ws n (atS ws s.adv)).2.nodes = s.nodes
      rw [ih, atS_nodes]; rfl
    · rfl
theorem foS_nodes : (foS ws s).nodes = s.nodes := by unfold foS; rw [foG_nodes, atS_nodes]

theorem IsPv.read0 (h : IsPv B WV w P ws s F wv vv hv nv) : w.cell? ⟨P, 0, none⟩ = some wv ∧ ∃ ao cap, wv = .slice ao ws.length cap :=
  ⟨(cells6 h.1).1.1, slice_of_own h.2.2.1⟩

theorem rowBase {w : World} {B B' : Nat} {e : TypeId} {sz n : Nat} {v : Value} {xs : List Value} (h : w.ownsRow B e sz v n xs) (hB : B' ≤ B) : w.ownsRow B' e sz v n xs := by
  refine ⟨h.1, ?_⟩
  rcases h.2 with hn | ⟨g, cap, cur, rfl, hb, rest⟩
  · exact .inl hn
  · exact .inr ⟨g, cap, cur, rfl, by omega, rest⟩

set_option maxRecDepth 100000 in
set_option maxHeartbeats 1000000 in
theorem finish_any (h : IsQ B WV w P ws s F) :
    Calls Try.prog 29 #[.pointer (some ⟨P, 0, none⟩)] w fun e w' => e = .returned (.tuple #[]) ∧ IsQ B WV w' P ws (finS ws s) F ∧ Stp F w F w' := by
  have HI := hide h
  have hp := h.f.2.1
  have hl := h.f.1
  obtain ⟨wv, vv, hv, nv, hpv⟩ := h.m.named
  obtain ⟨c0, ao, cap, rfl⟩ := hpv.read0
  obtain ⟨c1, _, _, _, _, fz⟩ := hpv.readsV
  have f2 := fz 2
  have c2 := h.m.reads.2.1
  clear hpv fz h
  by_cases hpe : s.pos = ws.length
  · have HS : Hid (finS ws s = s) := hide (if_pos hpe)
    have hd : ((s.pos : Int) != (ws.length : Int)) = false := by simp [hpe]
    clear hpe
    go_enter Try.func29, Try.ntmps29
    go_wp2_with fail
    go_quiet (fail)
    go_wp2_with fail
    go_end0
    exact ⟨rfl, by rw [unhide HS]; exact ⟨(unhide HI).m.drewN _, (unhide HI).f⟩, (Stp.refl F w).drewN _⟩
  · have HS : Hid (finS ws s = s.fail) := hide (if_neg hpe)
    have hd : ((s.pos : Int) != (ws.length : Int)) = true := by rw [bne_iff_ne]; omega
    clear hpe
    go_enter Try.func29, Try.ntmps29
    go_wp2_with fail
    go_quiet (fail)
    go_wp2_with fail
    go_end0
    exact ⟨rfl, by rw [unhide HS]; exact ⟨((unhide HI).m.drewN _).setFailed true, (unhide HI).f⟩, ((Stp.refl F w).drewN _).setCell (Or.inl (unhide HI).m.memP) _⟩

end
end Go.Proofs.Ytciihepbeacppaa

namespace Go.Proofs.Ytciihepbeacppaa
open Go.RowKit

theorem splitF_len (f : Nat) : ∀ (l : List UInt8) (L : List (List UInt8)), splitF f l = some L → (L.map List.length).sum ≤ l.length ∧ L.length ≤ l.length := by
  induction f with
  | zero =>
    intro l L h
    match l, h with
    | [], h => simp [splitF] at h; subst h; simp
    | _ :: _, h => simp [splitF] at h
  | succ f ih =>
    intro l L h
    match l, h with
    | [], h => simp [splitF] at h; subst h; simp
    | c :: r, h =>
      simp only [splitF] at h
      split at h
      · have := ih r L h; simp; omega
      · split at h
        · cases h
        · rename_i hn
          obtain ⟨L', hL', rfl⟩ := Option.map_eq_some_iff.1 h
          have := ih _ L' hL'
          have hw := wordLen_le (c :: r)
          generalize hwl : wordLen (c :: r) = n at *
          simp only [List.length_drop, List.length_cons, List.map_cons, List.sum_cons, List.length_take] at *
          omega
theorem jn_len (ws : List ByteArray) : (jn ws).length ≤ (ws.map (fun x => x.data.toList.length)).sum + ws.length := by
  match ws with
  | [] => simp [jn]
  | x :: r =>
    have : ∀ r : List ByteArray, (r.flatMap (fun y => 32 :: y.data.toList)).length ≤ (r.map (fun x => x.data.toList.length)).sum + r.length := by
      intro r
      induction r with
      | nil => simp
      | cons y r ih => simp only [List.flatMap_cons, List.length_append, List.length_cons, List.map_cons, List.sum_cons]; omega
    have := this r
    simp only [jn, List.length_append, List.map_cons, List.sum_cons, List.length_cons]
    omega

/-- the words of a text -/
def rdW (l : List UInt8) : List ByteArray := ((spl l).getD []).map (fun x => ⟨x.toArray⟩)
theorem rdW_of {l : List UInt8} {ws : List ByteArray} (h : spl l = some (ws.map (·.data.toList))) : rdW l = ws := by
  unfold rdW; rw [h]
  simp only [Option.getD_some, List.map_map]
  conv => rhs; rw [← List.map_id ws]
  apply List.map_congr_left
  intro x _
  simp
theorem rdW_len {l : List UInt8} {ws : List ByteArray} (h : spl l = some (ws.map (·.data.toList))) : ws.length ≤ l.length ∧ (jn ws).length ≤ 2 * l.length := by
  have h1 := splitF_len _ _ _ h
  have h2 := jn_len ws
  simp only [List.map_map, List.length_map] at h1
  have h3 : (List.map (List.length ∘ fun x : ByteArray => x.data.toList) ws) = ws.map (fun x => x.data.toList.length) := rfl
  rw [h3] at h1
  omega

def ini : PS := ⟨0, false, [], [], []⟩
/-- the reader's end -/
def rdS (l : List UInt8) : PS := prS (rdW l) ini
/-- the error of a text; 0: it is a program -/
def rdE (l : List UInt8) : Nat :=
  if 240 < l.length then 1 else if spl l = none then 2 else if (rdS l).failed = true then 3 else if 4 < (rdS l).vars.length ∨ 8 < (rdS l).hid.length then 4 else 0

/-- a new parser -/
def ini0 : Obj := .cells #[.slice none 0 0, .int .i64 0, .bool false, .slice none 0 0, .slice none 0 0, .slice none 0 0] 53
theorem isP_new (w : World) (B : Nat) (hB : B ≤ w.heap.size) : IsQ B (.slice none 0 0) (w.alloc ini0) w.heap.size [] ini [w.heap.size] :=
  ⟨⟨.slice none 0 0, .slice none 0 0, .slice none 0 0, .slice none 0 0, heap_alloc_new w _, ⟨hB, rfl⟩, World.ownsRow_nil _ _ _ _, World.ownsRow_nil _ _ _ _, World.ownsRow_nil _ _ _ _, World.ownsRow_nil _ _ _ _, rfl, by simp⟩, by simp [Fit, ini]⟩

theorem rowBelow {w w' : World} {B : Nat} {e : TypeId} {sz n : Nat} {v : Value} {xs : List Value} (h : w.ownsRow B e sz v n xs) (hb : Below w.heap.size w w') : w'.ownsRow B e sz v n xs :=
  ownsRow_of_eq h (fun k hk => hb.block k (h.lt k hk).2)

theorem below_undrew {w w' : World} {n : Nat} (h : Below (w.drewN n).heap.size (w.drewN n) w') : Below w.heap.size w w' := ⟨h.os, h.tape, h.output, h.size, h.block⟩
theorem rdE_long {l : List UInt8} (h : 240 < l.length) : rdE l = 1 := by unfold rdE; rw [if_pos h]
theorem rdE_lex {l : List UInt8} (h : ¬ 240 < l.length) (h2 : spl l = none) : rdE l = 2 := by unfold rdE; rw [if_neg h, if_pos h2]
theorem rdE_syn {l : List UInt8} (h : ¬ 240 < l.length) (h2 : spl l ≠ none) (h3 : (rdS l).failed = true) : rdE l = 3 := by unfold rdE; rw [if_neg h, if_neg h2, if_pos h3]
theorem rdE_names {l : List UInt8} (h : ¬ 240 < l.length) (h2 : spl l ≠ none) (h3 : (rdS l).failed = false) (h4 : 4 < (rdS l).vars.length ∨ 8 < (rdS l).hid.length) : rdE l = 4 := by
  unfold rdE; rw [if_neg h, if_neg h2, if_neg (by simp [h3]), if_pos h4]
theorem rdE_ok {l : List UInt8} (h : ¬ 240 < l.length) (h2 : spl l ≠ none) (h3 : (rdS l).failed = false) (h4 : ¬ (4 < (rdS l).vars.length ∨ 8 < (rdS l).hid.length)) : rdE l = 0 := by
  unfold rdE; rw [if_neg h, if_neg h2, if_neg (by simp [h3]), if_neg h4]

theorem Stp.ofBelow {F : List Nat} {w w' : World} (h : Below w.heap.size w w') : Stp F w F w' :=
  ⟨h.os, h.tape, h.output, h.size, fun k hk _ => h.block k hk, fun _ hk => Or.inl hk⟩
theorem IsP.belowP {B : Nat} {WV : Value} {w w' : World} {P : Nat} {ws : List ByteArray} {s : PS} {F : List Nat} (h : IsP B WV w P ws s F) (hb : Below w.heap.size w w') : IsP B WV w' P ws s F :=
  h.of_eq (fun k hk => hb.block k (h.mem k hk).2)
theorem nd_open {P : Nat} {a a' b c d : List Nat} (h : (P :: (a ++ (b ++ (c ++ d)))).Nodup) (ha : a'.Nodup) (hg : ∀ k ∈ a', k ∉ P :: (a ++ (b ++ (c ++ d)))) : (P :: (a' ++ (b ++ ([] ++ d)))).Nodup := by
  simp only [List.nodup_cons, List.nodup_append, List.mem_append, List.mem_cons, List.nil_append] at *
  grind
theorem IsPv.reopen {B : Nat} {WV : Value} {w : World} {P : Nat} {ws : List ByteArray} {s : PS} {F : List Nat} {wv vv hv nv : Value} (h : IsPv B WV w P ws s F wv vv hv nv) {v : Value} {ws' : List ByteArray}
    (hown : w.ownsRow B 9 1 v ws'.length (ws'.map Value.string)) (hnew : ∀ k, v.ownBlock = some k → k ∉ F) :
    IsP B v (((w.setCell ⟨P, 0, none⟩ v).setCell ⟨P, 1, none⟩ (.int .i64 0)).setCell ⟨P, 4, none⟩ (.slice none 0 0)) P ws' { s with pos := 0, hid := [] } (P :: (v.ownBlock.toList ++ (vv.ownBlock.toList ++ ([] ++ nv.ownBlock.toList)))) := by
  have hap := h.apart.1
  obtain ⟨hP, hB, h1, h2, h3, h4, hF, hN⟩ := h
  have hPF : P ∈ F := by rw [hF]; simp
  have hk : ∀ k, k ≠ P → (((w.setCell ⟨P, 0, none⟩ v).setCell ⟨P, 1, none⟩ (.int .i64 0)).setCell ⟨P, 4, none⟩ (.slice none 0 0)).heap[k]? = w.heap[k]? := fun k hk => by
    rw [Below.heap_setCell _ _ _ _ hk, Below.heap_setCell _ _ _ _ hk, Below.heap_setCell _ _ _ _ hk]
  refine ⟨v, vv, .slice none 0 0, nv, set6 (set6 (set6 hP _) _) _, ⟨hB.1, rfl⟩, ownsRow_of_eq hown (fun k e => hk k (fun e2 => hnew k e (by rw [e2]; exact hPF))), ownsRow_of_eq h2 (fun k e => hk k (hap k (by simp [e]))), World.ownsRow_nil _ _ _ _, ownsRow_of_eq h4 (fun k e => hk k (hap k (by simp [e]))), rfl, ?_⟩
  rw [hF] at hN hnew
  exact nd_open hN (by cases v.ownBlock <;> simp) (fun k hk => hnew k (by simpa using hk))

set_option maxRecDepth 100000 in
set_option maxHeartbeats 4000000 in
/-- a text is laid ahead of a parser -/
theorem open_any (x : ByteArray) (hx : x.size ≤ 20000) {B : Nat} {WV : Value} {w : World} {P : Nat} {ws : List ByteArray} {s : PS} {F : List Nat} (h : IsQ B WV w P ws s F) (hv : s.vars.length ≤ 240) :
    Calls Try.prog 27 #[.pointer (some ⟨P, 0, none⟩), .string x] w fun e w' => ∃ F', Stp F w F' w' ∧ ((240 < x.size ∧ e = .returned (.int .i64 1)) ∨ (¬ 240 < x.size ∧ spl x.data.toList = none ∧ e = .returned (.int .i64 2)) ∨
      (¬ 240 < x.size ∧ ∃ ws' v, spl x.data.toList = some (ws'.map (·.data.toList)) ∧ e = .returned (.int .i64 0) ∧ IsQ B v w' P ws' { s with pos := 0, hid := [] } F')) := by
  by_cases hlong : 240 < x.size
  · go_enter Try.func27, Try.ntmps27
    go_wp2_with fail
    go_ret
    exact ⟨F, Stp.refl _ _, Or.inl ⟨hlong, rfl⟩⟩
  · have HL := hide hlong
    have hd : decide ((240 : Int) < (x.size : Int)) = false := by simp; omega
    have HQ := hide h
    clear hlong h
    go_enter Try.func27, Try.ntmps27
    go_wp2_with fail
    refine (wsplit_any x w hx).mono ?_
    rintro e w1 ⟨hbl, (⟨hnone, rfl⟩ | ⟨ws', v, hsome, hown, rfl⟩)⟩
    · have HN := hide hnone
      clear hnone
      go_wp2_with fail
      go_ret
      exact ⟨F, Stp.ofBelow hbl, Or.inr (Or.inl ⟨unhide HL, unhide HN, rfl⟩)⟩
    · obtain ⟨av, cv, rfl⟩ := slice_of_own hown
      have HS := hide hsome
      have HO := hide hown
      have HM := hide ((unhide HQ).m.belowP hbl)
      have HBL := hide hbl
      obtain ⟨wv, vv, hv', nv, hpv⟩ := (unhide HM).named
      obtain ⟨c0, ao, cap, hwv⟩ := hpv.read0
      obtain ⟨c1, c2, c3, c4, c5, fz⟩ := hpv.readsV
      have f0 := fz 0
      have f1 := fz 1
      have f4 := fz 4
      have HPV := hide hpv
      clear hsome hown hbl hpv fz hwv
      go_wp2_with fail
      go_ret
      have hlen := rdW_len (unhide HS)
      rw [size_toList] at hlen
      have h1 := unhide HL
      have hm := (unhide HQ).m.mem
      have hsz := (unhide HBL).size
      have hB : B ≤ w.heap.size := by have := hm P (unhide HQ).m.memP; omega
      refine ⟨P :: ((Value.slice av ws'.length cv).ownBlock.toList ++ (vv.ownBlock.toList ++ ([] ++ nv.ownBlock.toList))), ?_, Or.inr (Or.inr ⟨h1, ws', .slice av ws'.length cv, unhide HS, rfl, (unhide HPV).reopen (rowBase (unhide HO) hB) (fun k hk hF => ?_), by simp only [Fit]; simp; omega⟩)⟩
      · have hst := ((((Stp.ofBelow (F := F) (unhide HBL)).setCell (p := ⟨P, 0, none⟩) (Or.inl (unhide HQ).m.memP) (.slice av ws'.length cv)).setCell (p := ⟨P, 1, none⟩) (Or.inl (unhide HQ).m.memP) (.int .i64 0)).setCell (p := ⟨P, 4, none⟩) (Or.inl (unhide HQ).m.memP) (.slice none 0 0))
        refine ⟨hst.os, hst.tape, hst.output, hst.size, hst.block, fun k hk => ?_⟩
        have hFe := (unhide HPV).2.2.2.2.2.2.1
        simp only [List.mem_cons, List.mem_append, Option.mem_toList, List.not_mem_nil, false_or] at hk
        rcases hk with rfl | hk | hk | hk
        · exact Or.inl (unhide HQ).m.memP
        · exact Or.inr ((unhide HO).lt k hk).1
        · left; rw [hFe]; simp [hk]
        · left; rw [hFe]; simp [hk]
      · have := (hm k hF).2
        have := ((unhide HO).lt k hk).1
        omega

end Go.Proofs.Ytciihepbeacppaa
