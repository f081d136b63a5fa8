import Derived.Test.YtciihepbeacppaaGreatWQ
namespace Go.Proofs.YtciihepbeacppaaGreat
open Go.RowKit

def kLB : ByteArray := ⟨#[123]⟩
def kRB : ByteArray := ⟨#[125]⟩
def kSemi : ByteArray := ⟨#[59]⟩
def kIf : ByteArray := ⟨#[105, 102]⟩
def kWhile : ByteArray := ⟨#[119, 104, 105, 108, 101]⟩
def kElse : ByteArray := ⟨#[101, 108, 115, 101]⟩

def setOt (k n : Nat) (l : List Nd) : List Nd := l.modify k (fun x => { x with ot := n })
def setNx (k n : Nat) (l : List Nd) : List Nd := l.modify k (fun x => { x with nx := n })
def jmp : Nd := ⟨10, 0, 0, 0, 0, 0⟩

/-- the command of a simple kind -/
def scS (ws : List ByteArray) (s : PS) : PS := addS (siN ws s) (exS ws kSemi (siS ws s))
/-- if: up to and with its first block -/
def brA (blk : PS → PS) (ws : List ByteArray) (s : PS) : PS := blk (tsS ws (exS ws kIf s))
/-- if: the node ahead of the second block -/
def brB (t : Nat) (s : PS) : PS := { addS jmp s.adv with nodes := setOt t (addS jmp s.adv).nodes.length (addS jmp s.adv).nodes }
def brC (j : Nat) (s : PS) : PS := { s with nodes := setNx j s.nodes.length s.nodes }
def brS (blk : PS → PS) (ws : List ByteArray) (s : PS) : PS :=
  if acB ws kElse (brA blk ws s) then brC (brA blk ws s).nodes.length (blk (brB s.nodes.length (brA blk ws s)))
  else { brA blk ws s with nodes := setOt s.nodes.length (brA blk ws s).nodes.length (brA blk ws s).nodes }
def loA (blk : PS → PS) (ws : List ByteArray) (s : PS) : PS := blk (tsS ws (exS ws kWhile s))
def loS (blk : PS → PS) (ws : List ByteArray) (s : PS) : PS :=
  { addS jmp (loA blk ws s) with nodes := setOt s.nodes.length (addS jmp (loA blk ws s)).nodes.length (setNx (loA blk ws s).nodes.length s.nodes.length (addS jmp (loA blk ws s)).nodes) }
def cmB (blk : PS → PS) (ws : List ByteArray) (s : PS) : PS := if acB ws kIf s then brS blk ws s else if acB ws kWhile s then loS blk ws s else scS ws s
def cmS (c : PS → PS) (ws : List ByteArray) : Nat → PS → PS
  | 0, s => s
  | n + 1, s => if s.failed || acB ws kRB s then s else cmS c ws n (c s)
def blS (ws : List ByteArray) : Nat → PS → PS
  | 0, s => s
  | f + 1, s => exS ws kRB (cmS (cmB (blS ws f) ws) ws (ws.length + 2) (exS ws kLB s))

theorem setOt_length (k n : Nat) (l : List Nd) : (setOt k n l).length = l.length := by simp [setOt]
theorem setNx_length (k n : Nat) (l : List Nd) : (setNx k n l).length = l.length := by simp [setNx]

/-- a fault counts one -/
def fb (s : PS) : Nat := if s.failed then 1 else 0

section
variable {ws : List ByteArray} {s : PS}
theorem acB_failed (k : ByteArray) (hk : k.size ≠ 0) (h : s.failed = true) : acB ws k s = false := by
  cases hb : acB ws k s with
  | false => rfl
  | true => have := (pk_lt (ws := ws) (s := s) (by rw [eq_of_toList hb]; exact hk)).1; rw [h] at this; cases this
theorem exS_ok (k : ByteArray) (h : (exS ws k s).failed = false) : acB ws k s = true ∧ s.failed = false ∧ (exS ws k s).pos = s.pos + 1 := by
  unfold exS at *
  split at h
  · rename_i hb; rw [if_pos hb]; exact ⟨hb, h, rfl⟩
  · cases h
theorem exS_stick (k : ByteArray) (hk : k.size ≠ 0) (h : s.failed = true) : (exS ws k s).failed = true := by
  unfold exS; rw [acB_failed k hk h]; rfl
theorem vaS_ok (h : (vaS ws s).failed = false) : lowB (pk ws s) = true ∧ s.failed = false ∧ (vaS ws s).pos = s.pos + 1 := by
  unfold vaS at *
  split at h
  · rename_i hb; rw [if_pos hb]; exact ⟨hb, h, rfl⟩
  · cases h
theorem vaS_stick (h : s.failed = true) : (vaS ws s).failed = true := by
  cases hf : (vaS ws s).failed with
  | true => rfl
  | false => have := (vaS_ok hf).2.1; rw [h] at this; cases this
theorem valS_ok (h : (valS ws s).failed = false) : s.failed = false ∧ (valS ws s).pos = s.pos + 1 := by
  unfold valS at *
  split at h
  · rename_i hb; rw [if_pos hb]; exact ⟨h, rfl⟩
  · rename_i hb; rw [if_neg hb]; exact (vaS_ok h).2
theorem coS_ok (h : (coS ws s).failed = false) : s.failed = false := by
  unfold coS at h
  split at h
  · exact h
  · have h1 := (valS_ok h).1
    unfold coT at h1
    split at h1
    · exact (vaS_ok h1).2.1
    · exact (vaS_ok (exS_ok _ h1).2.1).2.1
theorem tsS_ok (h : (tsS ws s).failed = false) : s.failed = false := (exS_ok _ (coS_ok (exS_ok _ h).2.1)).2.1
theorem asS_ok (h : (asS ws s).failed = false) : s.failed = false := by
  unfold asS at h
  split at h
  · exact h
  · split at h
    · exact (valS_ok (exS_ok _ h).2.1).1
    · exact (valS_ok h).1
theorem siS_ok (h : (siS ws s).failed = false) : s.failed = false ∧ s.pos < (siS ws s).pos := by
  unfold siS at *
  split at h
  · rename_i hb; rw [if_pos hb]; exact ⟨h, Nat.lt_succ_self _⟩
  · rename_i hb
    rw [if_neg hb]
    split at h
    · rename_i hb2; rw [if_pos hb2]; exact ⟨(vaS_ok h).2.1, by rw [(vaS_ok h).2.2]; show s.pos < s.pos + 1 + 1; omega⟩
    · rename_i hb2
      rw [if_neg hb2]
      split at h
      · rename_i hb3
        rw [if_pos hb3]
        have h1 := valS_ok h
        unfold siL at h1
        have h2 := (vaS_ok (exS_ok _ (exS_ok _ h1.1).2.1).2.1).2
        refine ⟨h2.1, ?_⟩
        have e1 := valS_pos (ws := ws) (s := siL ws (vaS ws s))
        have e2 : (vaS ws s).adv.pos ≤ (siL ws (vaS ws s)).pos := Nat.le_trans (exS_pos kN) (exS_pos kEq)
        have e3 := adv_pos (s := vaS ws s)
        omega
      · rename_i hb3
        rw [if_neg hb3]
        have h1 := exS_ok _ (asS_ok h)
        have h2 := (vaS_ok h1.2.1).2
        refine ⟨h2.1, ?_⟩
        have e1 : (exS ws kEq (vaS ws s)).pos ≤ (asS ws (exS ws kEq (vaS ws s))).pos := by
          unfold asS; split
          · exact adv_pos
          · split
            · exact Nat.le_trans (Nat.le_trans valS_pos adv_pos) (exS_pos _)
            · exact valS_pos
        omega
theorem coS_pos : s.pos ≤ (coS ws s).pos := by
  unfold coS; split
  · exact adv_pos
  · refine Nat.le_trans (Nat.le_trans (vaS_pos (ws := ws)) ?_) valS_pos
    unfold coT; split
    · exact adv_pos
    · exact exS_pos _
theorem tsS_pos : s.pos ≤ (tsS ws s).pos := Nat.le_trans (Nat.le_trans (exS_pos kOpen) coS_pos) (exS_pos kClose)
theorem tsS_nodes : (tsS ws s).nodes.length = s.nodes.length + 1 := by
  unfold tsS addS; simp [tsP_nodes]
theorem siS_pos : s.pos ≤ (siS ws s).pos := by
  unfold siS; split
  · exact adv_pos
  · split
    · exact Nat.le_trans adv_pos vaS_pos
    · split
      · exact Nat.le_trans (Nat.le_trans (Nat.le_trans (Nat.le_trans vaS_pos adv_pos) (exS_pos kN)) (exS_pos kEq)) valS_pos
      · refine Nat.le_trans (Nat.le_trans (vaS_pos (ws := ws)) (exS_pos (ws := ws) kEq)) ?_
        unfold asS; split
        · exact adv_pos
        · split
          · exact Nat.le_trans (Nat.le_trans valS_pos adv_pos) (exS_pos _)
          · exact valS_pos

/-- what is known of a block's reader -/
structure Good (blk : PS → PS) : Prop where
  pos : ∀ s, s.pos ≤ (blk s).pos
  nodes : ∀ s, s.nodes.length ≤ (blk s).nodes.length
  ok : ∀ s, (blk s).failed = false → s.failed = false
  phi : ∀ s, (blk s).nodes.length + 2 * s.pos ≤ s.nodes.length + 2 * (blk s).pos + fb (blk s)

theorem fb_le (s : PS) : fb s ≤ 1 := by unfold fb; split <;> omega
theorem fb_ok {s : PS} (h : s.failed = false) : fb s = 0 := by unfold fb; rw [h]; rfl
theorem fb_bad {s : PS} (h : s.failed = true) : fb s = 1 := by unfold fb; rw [h]; rfl

/-- a command: it goes on or fails; its nodes -/
theorem cmB_good {blk : PS → PS} (g : Good blk) : s.pos ≤ (cmB blk ws s).pos ∧ s.nodes.length ≤ (cmB blk ws s).nodes.length ∧
    ((cmB blk ws s).failed = false → s.failed = false ∧ s.pos < (cmB blk ws s).pos) ∧ (cmB blk ws s).nodes.length + 2 * s.pos ≤ s.nodes.length + 2 * (cmB blk ws s).pos + fb (cmB blk ws s) := by
  unfold cmB
  split
  · rename_i hb
    have e1 : (exS ws kIf s) = s.adv := if_pos hb
    have a1 : s.adv.pos = s.pos + 1 := rfl
    have a2 := tsS_pos (ws := ws) (s := s.adv)
    have a3 := tsS_nodes (ws := ws) (s := s.adv)
    have a4 : s.adv.nodes = s.nodes := rfl
    rw [a4] at a3
    have eA : brA blk ws s = blk (tsS ws s.adv) := by unfold brA; rw [e1]
    have p1 := g.pos (tsS ws s.adv)
    have p2 := g.nodes (tsS ws s.adv)
    have p3 := g.ok (tsS ws s.adv)
    have p4 := g.phi (tsS ws s.adv)
    rw [← eA] at p1 p2 p3 p4
    have ok1 : (brA blk ws s).failed = false → s.failed = false := fun h => tsS_ok (s := s.adv) (p3 h)
    unfold brS
    split
    · rename_i hb2
      have okA : (brA blk ws s).failed = false := (pk_lt (by rw [eq_of_toList hb2]; decide)).1
      have f0 := fb_ok okA
      have b1 : (brB s.nodes.length (brA blk ws s)).pos = (brA blk ws s).pos + 1 := rfl
      have b2 : (brB s.nodes.length (brA blk ws s)).nodes.length = (brA blk ws s).nodes.length + 1 := by simp [brB, setOt_length, addS, PS.adv]
      have q1 := g.pos (brB s.nodes.length (brA blk ws s))
      have q2 := g.nodes (brB s.nodes.length (brA blk ws s))
      have q4 := g.phi (brB s.nodes.length (brA blk ws s))
      generalize blk (brB s.nodes.length (brA blk ws s)) = z at q1 q2 q4
      have c1 : (brC (brA blk ws s).nodes.length z).pos = z.pos := rfl
      have c2 : (brC (brA blk ws s).nodes.length z).nodes.length = z.nodes.length := by simp [brC, setNx_length]
      have c3 : fb (brC (brA blk ws s).nodes.length z) = fb z := rfl
      rw [c1, c2, c3]
      exact ⟨by omega, by omega, fun _ => ⟨ok1 okA, by omega⟩, by omega⟩
    · simp only [setOt_length]
      have c3 : fb { brA blk ws s with nodes := setOt s.nodes.length (brA blk ws s).nodes.length (brA blk ws s).nodes } = fb (brA blk ws s) := rfl
      rw [c3]
      have := fb_le (brA blk ws s)
      exact ⟨by omega, by omega, fun h => ⟨ok1 h, by omega⟩, by omega⟩
  · split
    · rename_i _ hb
      have e1 : (exS ws kWhile s) = s.adv := if_pos hb
      have a1 : s.adv.pos = s.pos + 1 := rfl
      have a2 := tsS_pos (ws := ws) (s := s.adv)
      have a3 := tsS_nodes (ws := ws) (s := s.adv)
      have a4 : s.adv.nodes = s.nodes := rfl
      rw [a4] at a3
      have eA : loA blk ws s = blk (tsS ws s.adv) := by unfold loA; rw [e1]
      have p1 := g.pos (tsS ws s.adv)
      have p2 := g.nodes (tsS ws s.adv)
      have p3 := g.ok (tsS ws s.adv)
      have p4 := g.phi (tsS ws s.adv)
      rw [← eA] at p1 p2 p3 p4
      have ok1 : (loA blk ws s).failed = false → s.failed = false := fun h => tsS_ok (s := s.adv) (p3 h)
      have c1 : (loS blk ws s).pos = (loA blk ws s).pos := rfl
      have c2 : (loS blk ws s).nodes.length = (loA blk ws s).nodes.length + 1 := by simp [loS, setOt_length, setNx_length, addS]
      have c3 : fb (loS blk ws s) = fb (loA blk ws s) := rfl
      have c4 : (loS blk ws s).failed = (loA blk ws s).failed := rfl
      rw [c1, c2, c3, c4]
      exact ⟨by omega, by omega, fun h => ⟨ok1 h, by omega⟩, by omega⟩
    · have a1 := siS_pos (ws := ws) (s := s)
      have a2 := exS_pos (ws := ws) (s := siS ws s) kSemi
      have c1 : (scS ws s).pos = (exS ws kSemi (siS ws s)).pos := rfl
      have c2 : (scS ws s).nodes.length = s.nodes.length + 1 := by simp [scS, addS, exS_nodes, siS_nodes]
      have c4 : (scS ws s).failed = (exS ws kSemi (siS ws s)).failed := rfl
      cases hf : (scS ws s).failed with
      | true =>
        rw [c1, c2, fb_bad hf]
        exact ⟨by omega, by omega, (fun h => absurd h (by simp)), by omega⟩
      | false =>
        rw [c4] at hf
        have h1 := exS_ok _ hf
        have h2 := siS_ok h1.2.1
        rw [c1, c2]
        exact ⟨by omega, by omega, fun _ => ⟨h2.1, by omega⟩, by omega⟩

theorem cmS_good {c : PS → PS} (hc : ∀ s, s.pos ≤ (c s).pos ∧ s.nodes.length ≤ (c s).nodes.length ∧ ((c s).failed = false → s.failed = false) ∧ (c s).nodes.length + 2 * s.pos ≤ s.nodes.length + 2 * (c s).pos + fb (c s)) (n : Nat) :
    ∀ s, s.pos ≤ (cmS c ws n s).pos ∧ s.nodes.length ≤ (cmS c ws n s).nodes.length ∧ ((cmS c ws n s).failed = false → s.failed = false) ∧ (cmS c ws n s).nodes.length + 2 * s.pos ≤ s.nodes.length + 2 * (cmS c ws n s).pos + fb (cmS c ws n s) := by
  induction n with
  | zero => intro s; exact ⟨Nat.le_refl _, Nat.le_refl _, id, by simp only [cmS]; omega⟩
  | succ n ih =>
    intro s
    simp only [cmS]
    split
    · exact ⟨Nat.le_refl _, Nat.le_refl _, id, by omega⟩
    · obtain ⟨a, b, d, e⟩ := ih (c s)
      obtain ⟨a', b', d', e'⟩ := hc s
      refine ⟨by omega, by omega, fun h => d' (d h), ?_⟩
      cases hf : (c s).failed with
      | false => rw [fb_ok hf] at e'; omega
      | true =>
        have : fb (cmS c ws n (c s)) = 1 := by
          cases hg : (cmS c ws n (c s)).failed with
          | true => exact fb_bad hg
          | false => rw [d hg] at hf; cases hf
        have hn : cmS c ws n (c s) = c s := by
          cases n with
          | zero => rfl
          | succ n => simp [cmS, hf]
        rw [hn] at e ⊢
        omega
theorem blS_good (f : Nat) : Good (blS ws f) := by
  induction f with
  | zero => exact ⟨fun _ => Nat.le_refl _, fun _ => Nat.le_refl _, fun _ => id, fun _ => by simp only [blS]; omega⟩
  | succ f ih =>
    have hc := fun n s => cmS_good (ws := ws) (c := cmB (blS ws f) ws) (fun s => ⟨(cmB_good ih).1, (cmB_good ih).2.1, fun h => ((cmB_good ih).2.2.1 h).1, (cmB_good ih).2.2.2⟩) n s
    refine ⟨fun s => ?_, fun s => ?_, fun s h => ?_, fun s => ?_⟩
    · exact Nat.le_trans (Nat.le_trans (exS_pos kLB) (hc _ _).1) (exS_pos kRB)
    · simp only [blS, exS_nodes]
      have := (hc (ws.length + 2) (exS ws kLB s)).2.1
      rw [exS_nodes] at this; exact this
    · exact (exS_ok _ ((hc _ _).2.2.1 (exS_ok _ h).2.1)).2.1
    · simp only [blS, exS_nodes]
      have h1 := (hc (ws.length + 2) (exS ws kLB s)).2.2.2
      have h2 := exS_pos (ws := ws) (s := s) kLB
      rw [exS_nodes] at h1
      generalize cmS (cmB (blS ws f) ws) ws (ws.length + 2) (exS ws kLB s) = z at h1 ⊢
      have h3 := exS_pos (ws := ws) (s := z) kRB
      cases hf : z.failed with
      | false => rw [fb_ok hf] at h1; omega
      | true =>
        have h4 : fb (exS ws kRB z) = 1 := fb_bad (exS_stick kRB (by decide) hf)
        have h5 := fb_le z
        omega
end
end Go.Proofs.YtciihepbeacppaaGreat
