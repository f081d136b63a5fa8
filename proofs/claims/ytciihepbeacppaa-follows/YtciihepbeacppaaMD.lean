import Derived.Test.YtciihepbeacppaaWM
import Derived.Test.YtciihepbeacppaaHD
import Derived.Test.YtciihepbeacppaaHH
namespace Go.Proofs.Ytciihepbeacppaa
open Go.RowKit

/-! ### formulas in classes -/
structure Pr where
  k : Nat
  l : Nat
  r : Nat
def pr0 : Pr := ⟨0, 0, 0⟩
structure CF where
  cl : List Nat
  ap : List Pr
  ow : List Pr
/-- a term's number -/
def tNo (k i : Nat) : Nat := if k = 1 then 1 + i else if k = 2 then 5 + i else 0
def mrg1 (c : List Nat) (a : Atm) : List Nat := if a.k = 1 then c.map (fun x => if x = c.getD (tNo a.rk a.ri) 0 then c.getD (tNo a.lk a.li) 0 else x) else c
/-- the terms' classes -/
def mrg (al : List Atm) : List Nat := al.foldl mrg1 (List.range 13)
def prOf (c : List Nat) (a : Atm) : Pr := ⟨a.k, c.getD (tNo a.lk a.li) 0, c.getD (tNo a.rk a.ri) 0⟩
def cfOf (al : List Atm) : CF := ⟨(mrg al).take 5, (al.filter (fun a => a.k == 2)).map (prOf (mrg al)), (al.filter (fun a => a.k == 3 || a.k == 4)).map (prOf (mrg al))⟩
/-- the atom that begins at a class -/
def bgn : List Pr → Nat → Option Nat
  | [], _ => none
  | p :: r, c => if p.l = c then some 0 else (bgn r c).map (· + 1)
def dupB : List Nat → List Pr → Bool
  | _, [] => false
  | seen, p :: r => if p.l ∈ seen then true else dupB (p.l :: seen) r
/-- it holds nowhere -/
def falB (f : CF) : Bool := f.ap.any (fun p => p.l == p.r) || dupB [f.cl.getD 0 0] f.ow
def clrB (f : CF) (a b : Nat) : Bool := ((bgn f.ow a).isSome && ((bgn f.ow b).isSome || b == f.cl.getD 0 0)) || ((bgn f.ow b).isSome && a == f.cl.getD 0 0)
def difB (f : CF) (a b : Nat) : Bool := if a = b then false else f.ap.any (fun p => (p.l == a && p.r == b) || (p.l == b && p.r == a)) || clrB f a b

/-! ### the search -/
structure SS where
  bd : List (Option Nat)
  ot : List (Option Nat)
  un : Nat
  pl : List Bool
  st : Int
def SS.b (s : SS) (c : Nat) : Option Nat := s.bd.getD c none
def apB (V T : CF) (s : SS) : Bool := T.ap.all (fun p => p.l != p.r && (match s.b p.l, s.b p.r with | some a, some b => difB V a b | _, _ => true))
def chF (T : CF) (s : SS) : List Nat → Option Nat → Option Nat
  | [], o => o
  | k :: r, o => if s.pl.getD k false = true then chF T s r o else if (s.b (T.ow.getD k pr0).l).isSome = true then some k else chF T s r (if o.isSome = true then o else some k)
/-- an atom that is not placed -/
def chs (T : CF) (s : SS) : Option Nat := chF T s (List.range s.pl.length) none
def plL (W : SS → Nat → Nat → Nat → Bool × SS) (k left count : Nat) : List Pr → SS → Bool × SS
  | [], s => (false, { s with bd := s.bd.set left none })
  | p :: r, s => match W { s with bd := s.bd.set left (some p.l) } k p.l count with
    | (true, s') => (true, s')
    | (false, s') => plL W k left count r s'
def plF (W : SS → Nat → Nat → Nat → Bool × SS) (V T : CF) (s : SS) (count : Nat) : Bool × SS :=
  if T.ow.length = count then (decide (s.un = 0) && apB V T s, s)
  else if s.un < T.ow.length - count then (false, s)
  else match chs T s with
    | none => (false, s)
    | some k => match s.b (T.ow.getD k pr0).l with
      | some at_ => W s k at_ count
      | none => plL W k (T.ow.getD k pr0).l count V.ow s
def enF (P : SS → Nat → Bool × SS) (T : CF) (s : SS) (k at_ count : Nat) : Bool × SS :=
  if s.b (T.ow.getD k pr0).r ≠ none ∧ s.b (T.ow.getD k pr0).r ≠ some at_ then (false, s)
  else match P { s with bd := s.bd.set (T.ow.getD k pr0).r (some at_), pl := s.pl.set k true } (count + 1) with
    | (true, s') => (true, s')
    | (false, s') => (false, { s' with pl := s'.pl.set k false, bd := s'.bd.set (T.ow.getD k pr0).r (s.b (T.ow.getD k pr0).r) })
def wk (V T : CF) : Nat → SS → Nat → Nat → Nat → Bool × SS
  | 0, s, _, _, _ => (false, s)
  | m + 1, s, k, at_, count =>
    if wrap64 (s.st - 1) < 0 then (false, { s with st := wrap64 (s.st - 1) })
    else match bgn V.ow at_ with
      | none => (false, { s with st := wrap64 (s.st - 1) })
      | some i =>
        if s.ot.getD i none ≠ none then (false, { s with st := wrap64 (s.st - 1) })
        else if (T.ow.getD k pr0).k ≠ 4 ∧ (V.ow.getD i pr0).k = 4 then (false, { s with st := wrap64 (s.st - 1) })
        else match enF (plF (wk V T m) V T) T { s with st := wrap64 (s.st - 1), ot := s.ot.set i (some k), un := s.un - 1 } k (V.ow.getD i pr0).r count with
          | (true, s') => (true, s')
          | (false, s2) => match (if (T.ow.getD k pr0).k = 4 then wk V T m s2 k (V.ow.getD i pr0).r count else (false, s2)) with
            | (true, s') => (true, s')
            | (false, s3) => (false, { s3 with ot := s3.ot.set i none, un := s3.un + 1 })
end Go.Proofs.Ytciihepbeacppaa

namespace Go.Proofs.Ytciihepbeacppaa
open Go.RowKit

/-! ### what a search that succeeds has found -/
def chn (V : CF) : List Nat → Nat → Nat → Prop
  | [], _, _ => False
  | [i], a, e => (V.ow.getD i pr0).l = a ∧ (V.ow.getD i pr0).r = e
  | i :: j :: r, a, e => (V.ow.getD i pr0).l = a ∧ chn V (j :: r) (V.ow.getD i pr0).r e
/-- the atoms ks of T are made of the atoms fr of V -/
def Deal (V T : CF) (b : Nat → Option Nat) : List Nat → List Nat → Prop
  | [], fr => fr = []
  | k :: ks, fr => ∃ L rest, fr.Perm (L ++ rest) ∧ (∃ a e, b (T.ow.getD k pr0).l = some a ∧ b (T.ow.getD k pr0).r = some e ∧ chn V L a e) ∧ ((T.ow.getD k pr0).k ≠ 4 → ∃ i, L = [i] ∧ (V.ow.getD i pr0).k ≠ 4) ∧ Deal V T b ks rest
theorem Deal.perm {V T : CF} {b : Nat → Option Nat} : ∀ {ks fr fr' : List Nat}, fr.Perm fr' → Deal V T b ks fr → Deal V T b ks fr' := by
  intro ks
  cases ks with
  | nil => intro fr fr' h hd; subst hd; exact List.nil_perm.1 h
  | cons k ks =>
    rintro fr fr' h ⟨L, rest, h1, h2⟩
    exact ⟨L, rest, h.symm.trans h1, h2⟩
theorem Deal.swap {V T : CF} {b : Nat → Option Nat} {j k : Nat} {ks fr : List Nat} (h : Deal V T b (j :: k :: ks) fr) : Deal V T b (k :: j :: ks) fr := by
  obtain ⟨L, rest, h1, h2, h3, L2, rest2, h4, h5, h6, h7⟩ := h
  refine ⟨L2, L ++ rest2, ?_, h5, h6, L, rest2, List.Perm.refl _, h2, h3, h7⟩
  refine h1.trans ((List.Perm.append_left L h4).trans ?_)
  rw [← List.append_assoc, ← List.append_assoc]
  exact List.Perm.append_right rest2 List.perm_append_comm
theorem Deal.cons {V T : CF} {b : Nat → Option Nat} {k : Nat} {ks ks' : List Nat} (h : ∀ fr, Deal V T b ks fr → Deal V T b ks' fr) {fr : List Nat} (hd : Deal V T b (k :: ks) fr) : Deal V T b (k :: ks') fr := by
  obtain ⟨L, rest, h1, h2, h3, h4⟩ := hd
  exact ⟨L, rest, h1, h2, h3, h _ h4⟩
theorem Deal.permK {V T : CF} {b : Nat → Option Nat} {ks ks' : List Nat} (h : ks.Perm ks') : ∀ {fr : List Nat}, Deal V T b ks fr → Deal V T b ks' fr := by
  induction h with
  | nil => intro fr h; exact h
  | cons k _ ih => intro fr hd; exact Deal.cons (fun _ h => ih h) hd
  | swap j k r => intro fr hd; exact Deal.swap hd
  | trans _ _ h1 h2 => intro fr hd; exact h2 (h1 hd)
def frL (s : SS) : List Nat := (List.range s.ot.length).filter (fun i => (s.ot.getD i none).isNone)
def uP (s : SS) : List Nat := (List.range s.pl.length).filter (fun k => !s.pl.getD k false)
structure Wf (V T : CF) (s : SS) : Prop where
  lo : s.ot.length = V.ow.length
  lp : s.pl.length = T.ow.length
  lb : s.bd.length = 24
  un : s.un = (frL s).length
theorem getD_set {α : Type} (l : List α) (i j : Nat) (x d : α) (h : i < l.length) : (l.set i x).getD j d = if i = j then x else l.getD j d := by
  simp only [List.getD_eq_getElem?_getD, List.getElem?_set]
  by_cases e : i = j
  · subst e; simp [h]
  · simp [e]
theorem set_getD {α : Type} (l : List α) (i : Nat) (d : α) : l.set i (l.getD i d) = l := by
  apply List.ext_getElem?
  intro n
  by_cases hn : i = n
  · subst hn
    by_cases h : i < l.length
    · simp [h]
    · simp [h]
  · simp [hn]
theorem filter_take {p q : Nat → Bool} {l : List Nat} {i : Nat} (hl : l.Nodup) (hi : i ∈ l) (hp : p i = true) (hq : q i = false) (h : ∀ j, j ≠ i → q j = p j) : (l.filter p).Perm (i :: l.filter q) := by
  induction l with
  | nil => cases hi
  | cons a l ih =>
    have hn := List.nodup_cons.1 hl
    by_cases e : a = i
    · subst e
      have : l.filter q = l.filter p := List.filter_congr (fun j hj => h j (fun e => hn.1 (e ▸ hj)))
      simp [hp, hq, this]
    · have hm : i ∈ l := by
        rcases List.mem_cons.1 hi with h | h
        · exact absurd h.symm e
        · exact h
      have h2 := h a e
      cases hpa : p a with
      | true =>
        rw [List.filter_cons_of_pos hpa, List.filter_cons_of_pos (by rw [h2, hpa])]
        exact (List.Perm.cons a (ih hn.2 hm)).trans (List.Perm.swap i a _)
      | false =>
        rw [List.filter_cons_of_neg (by simp [hpa]), List.filter_cons_of_neg (by simp [h2, hpa])]
        exact ih hn.2 hm
theorem frL_take {s : SS} {i k : Nat} (hi : i < s.ot.length) (hn : s.ot.getD i none = none) {s' : SS} (h : s'.ot = s.ot.set i (some k)) : (frL s).Perm (i :: frL s') := by
  unfold frL
  rw [h, List.length_set]
  refine filter_take List.nodup_range (List.mem_range.2 hi) (by rw [hn]; rfl) (by rw [getD_set _ _ _ _ _ hi]; simp) (fun j hj => ?_)
  rw [getD_set _ _ _ _ _ hi, if_neg (fun e => hj e.symm)]
theorem uP_take {s : SS} {k : Nat} (hk : k ∈ uP s) {s' : SS} (h : s'.pl = s.pl.set k true) : (uP s).Perm (k :: uP s') := by
  have h1 := List.mem_filter.1 hk
  have hi := List.mem_range.1 h1.1
  unfold uP
  rw [h, List.length_set]
  refine filter_take List.nodup_range h1.1 h1.2 (by rw [getD_set _ _ _ _ _ hi]; simp) (fun j hj => ?_)
  rw [getD_set _ _ _ _ _ hi, if_neg (fun e => hj e.symm)]
/-- what is bound stays so -/
def Ext (s s' : SS) : Prop := ∀ c a, s.b c = some a → s'.b c = some a
theorem bgn_some {l : List Pr} {c i : Nat} (h : bgn l c = some i) : i < l.length ∧ (l.getD i pr0).l = c := by
  induction l generalizing i with
  | nil => cases h
  | cons p r ih =>
    simp only [bgn] at h
    split at h
    · cases h; exact ⟨by simp, by simpa⟩
    · obtain ⟨j, hj, rfl⟩ := Option.map_eq_some_iff.1 h
      have := ih hj
      exact ⟨by simp; omega, by simpa using this.2⟩
theorem chF_some {T : CF} {s : SS} : ∀ {l : List Nat} {o : Option Nat} {k : Nat}, chF T s l o = some k → (k ∈ l ∧ s.pl.getD k false = false) ∨ o = some k := by
  intro l
  induction l with
  | nil => intro o k h; exact Or.inr h
  | cons a l ih =>
    intro o k h
    simp only [chF] at h
    split at h
    · rcases ih h with h1 | h1
      · exact Or.inl ⟨by simp [h1.1], h1.2⟩
      · exact Or.inr h1
    · rename_i hp
      split at h
      · cases h; exact Or.inl ⟨by simp, by simpa using hp⟩
      · rcases ih h with h1 | h1
        · exact Or.inl ⟨by simp [h1.1], h1.2⟩
        · split at h1
          · exact Or.inr h1
          · cases h1; exact Or.inl ⟨by simp, by simpa using hp⟩
theorem chs_some {T : CF} {s : SS} {k : Nat} (h : chs T s = some k) : k ∈ uP s := by
  rcases chF_some h with h1 | h1
  · exact List.mem_filter.2 ⟨h1.1, by rw [h1.2]; rfl⟩
  · cases h1
/-- all classes of T have room -/
def Rm (T : CF) : Prop := ∀ p ∈ T.ow, p.l < 24 ∧ p.r < 24
theorem Rm.at {T : CF} (h : Rm T) (k : Nat) : (T.ow.getD k pr0).l < 24 ∧ (T.ow.getD k pr0).r < 24 := by
  by_cases hk : k < T.ow.length
  · have : T.ow.getD k pr0 = T.ow[k] := by simp [hk]
    rw [this]; exact h _ (List.getElem_mem hk)
  · simp [List.getD_eq_getElem?_getD, List.getElem?_eq_none (Nat.le_of_not_lt hk), pr0]
def WkOK (V T : CF) (W : SS → Nat → Nat → Nat → Bool × SS) : Prop :=
  ∀ s k at_ count, Wf V T s → k ∈ uP s → (uP s).length + count = T.ow.length → ∀ b s', W s k at_ count = (b, s') →
    (b = false → s' = { s with st := s'.st }) ∧
    (b = true → Ext s s' ∧ apB V T s' = true ∧ s'.bd.length = 24 ∧ ∃ L rest, (frL s).Perm (L ++ rest) ∧ (∃ e, s'.b (T.ow.getD k pr0).r = some e ∧ chn V L at_ e) ∧ ((T.ow.getD k pr0).k ≠ 4 → ∃ i, L = [i] ∧ (V.ow.getD i pr0).k ≠ 4) ∧ Deal V T s'.b ((uP s).erase k) rest)
def PlOK (V T : CF) (P : SS → Nat → Bool × SS) : Prop :=
  ∀ s count, Wf V T s → (uP s).length + count = T.ow.length → ∀ b s', P s count = (b, s') →
    (b = false → s' = { s with st := s'.st }) ∧
    (b = true → Ext s s' ∧ apB V T s' = true ∧ s'.bd.length = 24 ∧ Deal V T s'.b (uP s) (frL s))
theorem uP_nodup (s : SS) : (uP s).Nodup := List.Pairwise.filter _ List.nodup_range
theorem deal_first {V T : CF} {b : Nat → Option Nat} {U fr L rest : List Nat} {k a : Nat} (hk : k ∈ U) (h1 : fr.Perm (L ++ rest)) (ha : b (T.ow.getD k pr0).l = some a) (h2 : ∃ e, b (T.ow.getD k pr0).r = some e ∧ chn V L a e) (h3 : (T.ow.getD k pr0).k ≠ 4 → ∃ i, L = [i] ∧ (V.ow.getD i pr0).k ≠ 4) (h4 : Deal V T b (U.erase k) rest) : Deal V T b U fr := by
  refine Deal.permK (List.perm_cons_erase hk).symm ⟨L, rest, h1, ?_, h3, h4⟩
  obtain ⟨e, he, hc⟩ := h2
  exact ⟨a, e, ha, he, hc⟩
theorem plL_ok {V T : CF} {W : SS → Nat → Nat → Nat → Bool × SS} (hW : WkOK V T W) {k left count : Nat} (hl : left < 24) (hle : left = (T.ow.getD k pr0).l) : ∀ (l : List Pr) (s : SS), Wf V T s → k ∈ uP s → (uP s).length + count = T.ow.length → ∀ b s', plL W k left count l s = (b, s') →
    (b = false → s' = { s with st := s'.st, bd := s.bd.set left none }) ∧
    (b = true → (∀ c a, c ≠ left → s.b c = some a → s'.b c = some a) ∧ apB V T s' = true ∧ s'.bd.length = 24 ∧ Deal V T s'.b (uP s) (frL s)) := by
  intro l
  induction l with
  | nil =>
    intro s hw hk hc b s' h
    simp only [plL] at h
    cases h
    exact ⟨fun _ => rfl, fun h => by cases h⟩
  | cons p r ih =>
    intro s hw hk hc b s' h
    simp only [plL] at h
    have hw2 : Wf V T { s with bd := s.bd.set left (some p.l) } := ⟨hw.lo, hw.lp, by simpa using hw.lb, hw.un⟩
    cases hr : W { s with bd := s.bd.set left (some p.l) } k p.l count with
    | mk b2 s2 =>
      rw [hr] at h
      have hx := hW _ _ _ _ hw2 hk hc _ _ hr
      cases b2 with
      | true =>
        cases h
        refine ⟨fun h => (by cases h), fun _ => ?_⟩
        obtain ⟨he, hap, h24, L, rest, h1, h2, h3, h4⟩ := hx.2 rfl
        have hset : ∀ c, ({ s with bd := s.bd.set left (some p.l) } : SS).b c = if left = c then some p.l else s.b c := fun c => getD_set _ _ _ _ _ (by rw [hw.lb]; exact hl)
        refine ⟨fun c a hcl ha => he c a (by rw [hset, if_neg (fun e => hcl e.symm)]; exact ha), hap, h24, ?_⟩
        exact deal_first hk h1 (by rw [← hle]; exact he left p.l (by rw [hset, if_pos rfl])) h2 h3 h4
      | false =>
        have h5 := hx.1 rfl
        have e2 : (uP s2) = uP s := by rw [h5]; rfl
        have e3 : (frL s2) = frL s := by rw [h5]; rfl
        have hw3 : Wf V T s2 := by rw [h5]; exact ⟨hw.lo, hw.lp, by simpa using hw.lb, hw.un⟩
        have hy := ih s2 hw3 (by rw [e2]; exact hk) (by rw [e2]; exact hc) _ _ h
        refine ⟨fun hb => ?_, fun hb => ?_⟩
        · have h6 := hy.1 hb
          rw [h6, h5]
          simp
        · obtain ⟨g1, g2, g3, g4⟩ := hy.2 hb
          rw [e2, e3] at g4
          refine ⟨fun c a hcl ha => g1 c a hcl ?_, g2, g3, g4⟩
          rw [h5]
          show (s.bd.set left (some p.l)).getD c none = some a
          rw [getD_set _ _ _ _ _ (by rw [hw.lb]; exact hl), if_neg (fun e => hcl e.symm)]
          exact ha
theorem plF_ok {V T : CF} (hT : Rm T) {W : SS → Nat → Nat → Nat → Bool × SS} (hW : WkOK V T W) : PlOK V T (plF W V T) := by
  intro s count hw hc b s' h
  unfold plF at h
  by_cases h0 : T.ow.length = count
  · rw [if_pos h0] at h
    cases h
    refine ⟨fun _ => rfl, fun hb => ?_⟩
    simp only [Bool.and_eq_true, decide_eq_true_eq] at hb
    have hu : uP s = [] := List.eq_nil_of_length_eq_zero (by omega)
    have hf : frL s = [] := List.eq_nil_of_length_eq_zero (by rw [← hw.un]; exact hb.1)
    exact ⟨fun _ _ h => h, hb.2, hw.lb, by rw [hu, hf]; rfl⟩
  · rw [if_neg h0] at h
    by_cases h1 : s.un < T.ow.length - count
    · rw [if_pos h1] at h; cases h; exact ⟨fun _ => rfl, fun hb => by cases hb⟩
    · rw [if_neg h1] at h
      cases hch : chs T s with
      | none => rw [hch] at h; cases h; exact ⟨fun _ => rfl, fun hb => by cases hb⟩
      | some k =>
        rw [hch] at h
        dsimp only at h
        have hk := chs_some hch
        cases hb : s.b (T.ow.getD k pr0).l with
        | some a =>
          rw [hb] at h
          have hx := hW _ _ _ _ hw hk hc _ _ h
          refine ⟨hx.1, fun hbt => ?_⟩
          obtain ⟨he, hap, h24, L, rest, g1, g2, g3, g4⟩ := hx.2 hbt
          exact ⟨he, hap, h24, deal_first hk g1 (he _ _ hb) g2 g3 g4⟩
        | none =>
          rw [hb] at h
          have hx := plL_ok hW (hT.at k).1 rfl _ _ hw hk hc _ _ h
          refine ⟨fun hbf => ?_, fun hbt => ?_⟩
          · have h6 := hx.1 hbf
            rw [h6]
            have : s.bd.set (T.ow.getD k pr0).l none = s.bd := by
              have := set_getD s.bd (T.ow.getD k pr0).l none
              rw [show s.bd.getD (T.ow.getD k pr0).l none = none from hb] at this
              exact this
            rw [this]
          · obtain ⟨g1, g2, g3, g4⟩ := hx.2 hbt
            refine ⟨fun c a ha => g1 c a (fun e => ?_) ha, g2, g3, g4⟩
            rw [e, hb] at ha; cases ha
theorem enF_ok {V T : CF} (hT : Rm T) {P : SS → Nat → Bool × SS} (hP : PlOK V T P) {s : SS} {k at_ count : Nat} (hw : Wf V T s) (hk : k ∈ uP s) (hc : (uP s).length + count = T.ow.length) {b : Bool} {s' : SS} (h : enF P T s k at_ count = (b, s')) :
    (b = false → s' = { s with st := s'.st }) ∧ (b = true → Ext s s' ∧ apB V T s' = true ∧ s'.bd.length = 24 ∧ s'.b (T.ow.getD k pr0).r = some at_ ∧ Deal V T s'.b ((uP s).erase k) (frL s)) := by
  unfold enF at h
  by_cases h0 : s.b (T.ow.getD k pr0).r ≠ none ∧ s.b (T.ow.getD k pr0).r ≠ some at_
  · rw [if_pos h0] at h; cases h; exact ⟨fun _ => rfl, fun hb => by cases hb⟩
  · rw [if_neg h0] at h
    have hw2 : Wf V T { s with bd := s.bd.set (T.ow.getD k pr0).r (some at_), pl := s.pl.set k true } := ⟨hw.lo, by simpa using hw.lp, by simpa using hw.lb, hw.un⟩
    have hup := uP_take (s := s) hk (s' := { s with bd := s.bd.set (T.ow.getD k pr0).r (some at_), pl := s.pl.set k true }) rfl
    have hle := hup.length_eq
    rw [List.length_cons] at hle
    have hset : ∀ c, ({ s with bd := s.bd.set (T.ow.getD k pr0).r (some at_), pl := s.pl.set k true } : SS).b c = if (T.ow.getD k pr0).r = c then some at_ else s.b c := fun c => getD_set _ _ _ _ _ (by rw [hw.lb]; exact (hT.at k).2)
    cases hr : P { s with bd := s.bd.set (T.ow.getD k pr0).r (some at_), pl := s.pl.set k true } (count + 1) with
    | mk b2 s2 =>
      rw [hr] at h
      have hx := hP _ _ hw2 (by omega) _ _ hr
      cases b2 with
      | true =>
        cases h
        refine ⟨fun h => (by cases h), fun _ => ?_⟩
        obtain ⟨he, hap, h24, hd⟩ := hx.2 rfl
        refine ⟨fun c a ha => he c a ?_, hap, h24, he _ _ (by rw [hset, if_pos rfl]), Deal.permK ?_ hd⟩
        · rw [hset]
          by_cases e : (T.ow.getD k pr0).r = c
          · rw [if_pos e]
            subst e
            by_cases e2 : a = at_
            · rw [e2]
            · exact absurd ⟨by rw [ha]; simp, by rw [ha]; simpa using e2⟩ h0
          · rw [if_neg e]; exact ha
        · exact (List.perm_cons k).1 (hup.symm.trans (List.perm_cons_erase hk))
      | false =>
        cases h
        refine ⟨fun _ => ?_, fun h => by cases h⟩
        have h5 := hx.1 rfl
        rw [h5]
        have e1 : (s.bd.set (T.ow.getD k pr0).r (some at_)).set (T.ow.getD k pr0).r (s.b (T.ow.getD k pr0).r) = s.bd := by
          rw [List.set_set]; exact set_getD _ _ _
        have e2 : (s.pl.set k true).set k false = s.pl := by
          rw [List.set_set]
          have := set_getD s.pl k false
          rwa [show s.pl.getD k false = false by simpa using (List.mem_filter.1 hk).2] at this
        simp only [e1, e2]
theorem chn_cons {V : CF} {i : Nat} {L : List Nat} {e : Nat} (h : chn V L (V.ow.getD i pr0).r e) : chn V (i :: L) (V.ow.getD i pr0).l e := by
  cases L with
  | nil => exact h.elim
  | cons j r => exact ⟨rfl, h⟩
theorem wk_ok {V T : CF} (hT : Rm T) : ∀ m, WkOK V T (wk V T m) := by
  intro m
  induction m with
  | zero =>
    intro s k at_ count hw hk hc b s' h
    simp only [wk] at h
    cases h
    exact ⟨fun _ => rfl, fun hb => by cases hb⟩
  | succ m ih =>
    intro s k at_ count hw hk hc b s' h
    simp only [wk] at h
    by_cases h0 : wrap64 (s.st - 1) < 0
    · rw [if_pos h0] at h; cases h; exact ⟨fun _ => rfl, fun hb => by cases hb⟩
    · rw [if_neg h0] at h
      cases hbg : bgn V.ow at_ with
      | none => rw [hbg] at h; cases h; exact ⟨fun _ => rfl, fun hb => by cases hb⟩
      | some i =>
        rw [hbg] at h
        dsimp only at h
        obtain ⟨hi, hil⟩ := bgn_some hbg
        by_cases h1 : s.ot.getD i none ≠ none
        · rw [if_pos h1] at h; cases h; exact ⟨fun _ => rfl, fun hb => by cases hb⟩
        · rw [if_neg h1] at h
          have hn : s.ot.getD i none = none := Classical.byContradiction h1
          by_cases h2 : (T.ow.getD k pr0).k ≠ 4 ∧ (V.ow.getD i pr0).k = 4
          · rw [if_pos h2] at h; cases h; exact ⟨fun _ => rfl, fun hb => by cases hb⟩
          · rw [if_neg h2] at h
            have hio : i < s.ot.length := by rw [hw.lo]; exact hi
            obtain ⟨s1, hs1⟩ : ∃ s1 : SS, s1 = { s with st := wrap64 (s.st - 1), ot := s.ot.set i (some k), un := s.un - 1 } := ⟨_, rfl⟩
            rw [← hs1] at h
            have hfr : (frL s).Perm (i :: frL s1) := frL_take hio hn (by rw [hs1])
            have hfl := hfr.length_eq
            rw [List.length_cons] at hfl
            have hw1 : Wf V T s1 := by
              refine ⟨by rw [hs1]; simpa using hw.lo, by rw [hs1]; exact hw.lp, by rw [hs1]; exact hw.lb, ?_⟩
              have h3 : s1.un = s.un - 1 := by rw [hs1]
              have h4 := hw.un
              omega
            have hu1 : uP s1 = uP s := by rw [hs1]; rfl
            have hkind : (T.ow.getD k pr0).k ≠ 4 → (V.ow.getD i pr0).k ≠ 4 := fun a b => h2 ⟨a, b⟩
            cases hr : enF (plF (wk V T m) V T) T s1 k (V.ow.getD i pr0).r count with
            | mk b2 s2 =>
              rw [hr] at h
              have hx := enF_ok hT (plF_ok hT ih) hw1 (by rw [hu1]; exact hk) (by rw [hu1]; exact hc) hr
              cases b2 with
              | true =>
                cases h
                refine ⟨fun h => (by cases h), fun _ => ?_⟩
                obtain ⟨he, hap, h24, hbr, hd⟩ := hx.2 rfl
                rw [hu1] at hd
                refine ⟨fun c a ha => he c a (by rw [hs1]; exact ha), hap, h24, [i], frL s1, hfr, ⟨_, hbr, hil, rfl⟩, fun hk4 => ⟨i, rfl, hkind hk4⟩, hd⟩
              | false =>
                dsimp only at h
                have h5 := hx.1 rfl
                have hu2 : uP s2 = uP s := by rw [h5]; exact hu1
                have hf2 : frL s2 = frL s1 := by rw [h5]; rfl
                have hw2 : Wf V T s2 := by rw [h5]; exact ⟨hw1.lo, hw1.lp, hw1.lb, hw1.un⟩
                have hback : ∀ s3 : SS, s3 = { s1 with st := s3.st } → ({ s3 with ot := s3.ot.set i none, un := s3.un + 1 } : SS) = { s with st := s3.st } := by
                  intro s3 h3
                  rw [h3, hs1]
                  have e1 : (s.ot.set i (some k)).set i none = s.ot := by
                    rw [List.set_set]
                    have := set_getD s.ot i none
                    rwa [hn] at this
                  have e2 : s.un - 1 + 1 = s.un := by have := hw.un; omega
                  simp only [e1, e2]
                by_cases hk4 : (T.ow.getD k pr0).k = 4
                · rw [if_pos hk4] at h
                  cases hr3 : wk V T m s2 k (V.ow.getD i pr0).r count with
                  | mk b3 s3 =>
                    rw [hr3] at h
                    have hy := ih _ _ _ _ hw2 (by rw [hu2]; exact hk) (by rw [hu2]; exact hc) _ _ hr3
                    cases b3 with
                    | true =>
                      cases h
                      refine ⟨fun h => (by cases h), fun _ => ?_⟩
                      obtain ⟨he, hap, h24, L, rest, g1, ⟨e, g2, g2'⟩, _, g4⟩ := hy.2 rfl
                      rw [hu2] at g4
                      rw [hf2] at g1
                      refine ⟨fun c a ha => he c a (by rw [h5, hs1]; exact ha), hap, h24, i :: L, rest, hfr.trans (List.Perm.cons i g1), ⟨e, g2, by rw [← hil]; exact chn_cons g2'⟩, fun hx4 => absurd hk4 hx4, g4⟩
                    | false =>
                      cases h
                      refine ⟨fun _ => ?_, fun h => by cases h⟩
                      have h6 := hy.1 rfl
                      have h7 : s3 = { s1 with st := s3.st } := by rw [h6, h5]
                      exact hback s3 h7
                · rw [if_neg hk4] at h
                  cases h
                  exact ⟨fun _ => hback s2 h5, fun h => by cases h⟩
end Go.Proofs.Ytciihepbeacppaa

namespace Go.Proofs.Ytciihepbeacppaa
open Go.RowKit

/-! ### what the names may stand for -/
theorem eqW_iffH {x k : ByteArray} : eqW x k = true ↔ x = k := by
  constructor
  · intro h
    have h1 : x.toList = k.toList := by simpa [eqW] using h
    rw [ByteArray.toList_eq, ByteArray.toList_eq] at h1
    obtain ⟨⟨a⟩⟩ := x
    obtain ⟨⟨b⟩⟩ := k
    simp only at h1
    rw [h1]
  · rintro rfl; simp [eqW]
/-- values of all names that fit those that are known -/
def Agr (s : ByteArray → Int) (ns : List ByteArray) (vs : List Int) : Prop := ∀ n v, evA ns vs n = some v → s n = v
def Pur (s : ByteArray → Int) (l : List RAt) : Prop := ∀ a ∈ l, (s a.a = s a.b ↔ eqW a.k eqSW = true)
def NmOK (l : List RAt) : Prop := ∀ a ∈ l, a.a ≠ em ∧ a.b ≠ em
theorem oN_em {ns : List ByteArray} {vs : List Int} {l : List RAt} (hn : NmOK l) (h : eqW (oN ns vs l) em = true) : ∀ a ∈ l, (evA ns vs a.a).isSome = true ∧ (evA ns vs a.b).isSome = true := by
  have key : ∀ (l : List RAt) (cur : ByteArray), NmOK l → l.foldl (oNm ns vs) cur = em → cur = em ∧ ∀ a ∈ l, (evA ns vs a.a).isSome = true ∧ (evA ns vs a.b).isSome = true := by
    intro l
    induction l with
    | nil => intro cur _ h; exact ⟨h, fun a ha => by cases ha⟩
    | cons a l ih =>
      intro cur hn h
      have hl : NmOK l := fun b hb => hn b (by simp [hb])
      obtain ⟨h1, h2⟩ := ih (oNm ns vs cur a) hl h
      have ha := hn a (by simp)
      unfold oNm at h1
      by_cases hb : (evA ns vs a.b).isSome = false
      · rw [if_pos hb] at h1; exact absurd h1 ha.2
      · rw [if_neg hb] at h1
        by_cases hc : (evA ns vs a.a).isSome = false
        · rw [if_pos hc] at h1; exact absurd h1 ha.1
        · rw [if_neg hc] at h1
          refine ⟨h1, fun b hb2 => ?_⟩
          rcases List.mem_cons.1 hb2 with rfl | hb2
          · exact ⟨by cases h : (evA ns vs b.a).isSome with
              | true => rfl
              | false => exact absurd h hc, by cases h : (evA ns vs b.b).isSome with
              | true => rfl
              | false => exact absurd h hb⟩
          · exact h2 b hb2
  exact (key l em hn (eqW_iffH.1 h)).2
theorem bad_sound {ns : List ByteArray} {vs : List Int} {l : List RAt} {s : ByteArray → Int} (ha : Agr s ns vs) (hp : Pur s l) : l.any (oBad ns vs) = false := by
  rw [List.any_eq_false]
  intro a hal
  unfold oBad
  cases h1 : evA ns vs a.a with
  | none => simp
  | some x =>
    cases h2 : evA ns vs a.b with
    | none => simp
    | some y =>
      have e1 := ha _ _ h1
      have e2 := ha _ _ h2
      have h3 := hp a hal
      rw [e1, e2] at h3
      by_cases hxy : x = y
      · have h4 := h3.1 hxy
        simp [hxy, h4]
      · have h4 : eqW a.k eqSW = false := by
          cases hk : eqW a.k eqSW with
          | false => rfl
          | true => exact absurd (h3.2 hk) hxy
        simp [hxy, h4]
theorem agr_app {ns : List ByteArray} {vs : List Int} (hl : ns.length = vs.length) {s : ByteArray → Int} (ha : Agr s ns vs) {n : ByteArray} {v : Int} (hv : s n = v) : Agr s (ns ++ [n]) (vs ++ [v]) := by
  intro m x hm
  rw [evA_app hl] at hm
  by_cases h : (evA ns vs m).isSome = true
  · rw [if_pos h] at hm; exact ha m x hm
  · rw [if_neg h] at hm
    by_cases h2 : eqW n m = true
    · rw [if_pos h2] at hm; cases hm; rw [← eqW_iffH.1 h2]; exact hv
    · rw [if_neg h2] at hm; cases hm
theorem agr_of_app {ns : List ByteArray} {vs : List Int} (hl : ns.length = vs.length) {s : ByteArray → Int} {n : ByteArray} {v : Int} (ha : Agr s (ns ++ [n]) (vs ++ [v])) : Agr s ns vs := by
  intro m x hm
  apply ha
  rw [evA_app hl, hm]
  rfl
theorem mem_evA {ns : List ByteArray} {vs : List Int} (hl : ns.length = vs.length) {n : ByteArray} {v : Int} (h : evA ns vs n = some v) : v = 0 ∨ v ∈ vs := by
  unfold evA at h
  by_cases h0 : eqW n nilW = true
  · rw [if_pos h0] at h; cases h; exact Or.inl rfl
  · rw [if_neg h0] at h
    by_cases h1 : fndL ns n < ns.length
    · rw [if_pos h1] at h
      cases h
      right
      have h2 : fndL ns n < vs.length := by omega
      simp only [List.getD_eq_getElem?_getD, List.getElem?_eq_getElem h2, Option.getD_some]
      exact List.getElem_mem h2
    · rw [if_neg h1] at h; cases h
theorem mst_ge {vs : List Int} : 0 ≤ mst vs ∧ ∀ v ∈ vs, v ≤ mst vs := by
  unfold mst
  have : ∀ (l : List Int) (m : Int), m ≤ l.foldl (fun m v => if m < v then v else m) m ∧ ∀ v ∈ l, v ≤ l.foldl (fun m v => if m < v then v else m) m := by
    intro l
    induction l with
    | nil => intro m; exact ⟨Int.le_refl _, fun v hv => by cases hv⟩
    | cons x l ih =>
      intro m
      simp only [List.foldl_cons]
      obtain ⟨h1, h2⟩ := ih (if m < x then x else m)
      have h3 : m ≤ (if m < x then x else m) := by split <;> omega
      have h4 : x ≤ (if m < x then x else m) := by split <;> omega
      refine ⟨by omega, fun v hv => ?_⟩
      rcases List.mem_cons.1 hv with rfl | hv
      · omega
      · exact h2 v hv
  exact ⟨(this vs 0).1, (this vs 0).2⟩
/-- two values change places -/
def swp (p q x : Int) : Int := if x = p then q else if x = q then p else x
theorem swp_inj {p q x y : Int} : swp p q x = swp p q y ↔ x = y := by
  unfold swp
  constructor
  · intro h
    split at h <;> split at h <;> (try split at h) <;> (try split at h) <;> omega
  · rintro rfl; rfl
/-- others says whether there are values -/
theorem oth_iff {l : List RAt} (hn : NmOK l) : ∀ (f : Nat) (ns : List ByteArray) (vs : List Int), ns.length = vs.length → unv ns vs l ≤ f → (oth l (f + 1) ns vs = true ↔ ∃ s, Agr s ns vs ∧ Pur s l) := by
  intro f
  induction f with
  | zero =>
    intro ns vs hl hu
    have hem : eqW (oN ns vs l) em = true := by
      cases he : eqW (oN ns vs l) em with
      | true => rfl
      | false => have := unv_dec hl he 0; omega
    have hall := oN_em hn hem
    rw [oth]
    constructor
    · intro h
      have hb : l.any (oBad ns vs) = false := by
        cases hb : l.any (oBad ns vs) with
        | false => rfl
        | true => rw [hb] at h; simp at h
      refine ⟨fun n => (evA ns vs n).getD 0, fun n v h => by simp [h], fun a ha => ?_⟩
      have h1 := List.any_eq_false.1 hb a ha
      obtain ⟨x, hx⟩ := Option.isSome_iff_exists.1 (hall a ha).1
      obtain ⟨y, hy⟩ := Option.isSome_iff_exists.1 (hall a ha).2
      unfold oBad at h1
      rw [hx, hy] at h1
      simp only [hx, hy, Option.getD_some]
      cases hk : eqW a.k eqSW <;> rw [hk] at h1 <;> simpa using h1
    · rintro ⟨s, ha, hp⟩
      rw [bad_sound ha hp, hem]; simp
  | succ f ih =>
    intro ns vs hl hu
    rw [oth]
    cases hem : eqW (oN ns vs l) em with
    | true =>
      have hall := oN_em hn hem
      constructor
      · intro h
        have hb : l.any (oBad ns vs) = false := by
          cases hb : l.any (oBad ns vs) with
          | false => rfl
          | true => rw [hb] at h; simp at h
        refine ⟨fun n => (evA ns vs n).getD 0, fun n v h => by simp [h], fun a ha => ?_⟩
        have h1 := List.any_eq_false.1 hb a ha
        obtain ⟨x, hx⟩ := Option.isSome_iff_exists.1 (hall a ha).1
        obtain ⟨y, hy⟩ := Option.isSome_iff_exists.1 (hall a ha).2
        unfold oBad at h1
        rw [hx, hy] at h1
        simp only [hx, hy, Option.getD_some]
        cases hk : eqW a.k eqSW <;> rw [hk] at h1 <;> simpa using h1
      · rintro ⟨s, ha, hp⟩
        rw [bad_sound ha hp]; simp
    | false =>
      have hi : ∀ v, (oth l (f + 1) (ns ++ [oN ns vs l]) (vs ++ [v]) = true ↔ ∃ s, Agr s (ns ++ [oN ns vs l]) (vs ++ [v]) ∧ Pur s l) := fun v =>
        ih _ _ (by simp [hl]) (by have := unv_dec hl hem v; omega)
      constructor
      · intro h
        have h1 : ∃ v, oth l (f + 1) (ns ++ [oN ns vs l]) (vs ++ [v]) = true := by
          cases hb : l.any (oBad ns vs) with
          | true => rw [hb] at h; simp at h
          | false =>
            rw [hb] at h
            simp only [Bool.false_eq_true, if_false, Bool.or_eq_true, List.any_eq_true] at h
            rcases h with (⟨v, _, h⟩ | h) | h
            · exact ⟨v, h⟩
            · exact ⟨0, h⟩
            · exact ⟨_, h⟩
        obtain ⟨v, hv⟩ := h1
        obtain ⟨s, ha, hp⟩ := (hi v).1 hv
        exact ⟨s, agr_of_app hl ha, hp⟩
      · rintro ⟨s, ha, hp⟩
        rw [bad_sound ha hp]
        simp only [Bool.false_eq_true, if_false, Bool.or_eq_true, List.any_eq_true]
        by_cases h0 : s (oN ns vs l) = 0
        · exact Or.inl (Or.inr ((hi 0).2 ⟨s, agr_app hl ha h0, hp⟩))
        · by_cases hm : s (oN ns vs l) ∈ vs
          · exact Or.inl (Or.inl ⟨_, hm, (hi _).2 ⟨s, agr_app hl ha rfl, hp⟩⟩)
          · right
            have hg := mst_ge (vs := vs)
            refine (hi _).2 ⟨fun n => swp (s (oN ns vs l)) (mst vs + 1) (s n), ?_, fun a haa => by rw [swp_inj]; exact hp a haa⟩
            refine agr_app hl (fun n v hv => ?_) (by unfold swp; rw [if_pos rfl])
            have h1 := ha n v hv
            have h2 := mem_evA hl hv
            have h3 : v ≠ s (oN ns vs l) := by
              rcases h2 with rfl | h2
              · exact fun e => h0 e.symm
              · intro e; rw [e] at h2; exact hm h2
            have h4 : v ≠ mst vs + 1 := by
              rcases h2 with rfl | h2
              · omega
              · have := hg.2 v h2; omega
            show swp _ _ (s n) = v
            rw [h1]
            unfold swp
            rw [if_neg h3, if_neg h4]
end Go.Proofs.Ytciihepbeacppaa

namespace Go.Proofs.Ytciihepbeacppaa
open Go.RowKit

/-! ### which cells atoms take -/
/-- a way through cells, by their places, from one value to another -/
def seg (ad nx : List Int) : List Nat → Int → Int → Prop
  | [], _, _ => False
  | [k], v, e => ad.getD k 0 = v ∧ nx.getD k 0 = e
  | k :: k2 :: r, v, e => ad.getD k 0 = v ∧ seg ad nx (k2 :: r) (nx.getD k 0) e
theorem seg_hd {ad nx : List Int} {k : Nat} {r : List Nat} {v e : Int} (h : seg ad nx (k :: r) v e) : ad.getD k 0 = v := by
  cases r with
  | nil => exact h.1
  | cons k2 r => exact h.1
/-- free cells are taken, one by one -/
def tk : List Bool → List Nat → Option (List Bool)
  | fr, [] => some fr
  | fr, k :: r => if fr.getD k false = true then tk (fr.set k false) r else none
theorem tk_len : ∀ {p : List Nat} {fr fr' : List Bool}, tk fr p = some fr' → fr'.length = fr.length := by
  intro p
  induction p with
  | nil => intro fr fr' h; cases h; rfl
  | cons k r ih =>
    intro fr fr' h
    simp only [tk] at h
    split at h
    · rw [ih h]; simp
    · cases h
theorem tk_app (p q : List Nat) (fr : List Bool) : tk fr (p ++ q) = (tk fr p).bind (fun f => tk f q) := by
  induction p generalizing fr with
  | nil => rfl
  | cons k r ih =>
    simp only [List.cons_append, tk]
    split
    · exact ih _
    · rfl
theorem tk_swap (fr : List Bool) (j k : Nat) (r : List Nat) : tk fr (j :: k :: r) = tk fr (k :: j :: r) := by
  have hg : ∀ (a b : Nat), (fr.set a false).getD b false = (if a = b then false else fr.getD b false) := by
    intro a b
    simp only [List.getD_eq_getElem?_getD, List.getElem?_set]
    by_cases h : a = b
    · subst h
      rw [if_pos rfl, if_pos rfl]
      split <;> rfl
    · rw [if_neg h, if_neg h]
  simp only [tk, hg]
  by_cases h : j = k
  · subst h; rfl
  · have h2 : ¬ k = j := fun e => h e.symm
    simp only [if_neg h, if_neg h2, List.set_comm _ _ h]
    by_cases a1 : fr.getD j false = true
    · by_cases a2 : fr.getD k false = true
      · simp only [if_pos a1, if_pos a2]
      · simp only [if_pos a1, if_neg a2]
    · by_cases a2 : fr.getD k false = true
      · simp only [if_neg a1, if_pos a2]
      · simp only [if_neg a1, if_neg a2]
theorem tk_perm {p q : List Nat} (h : p.Perm q) : ∀ fr, tk fr p = tk fr q := by
  induction h with
  | nil => intro fr; rfl
  | cons k _ ih => intro fr; simp only [tk]; split; exact ih _; rfl
  | swap j k r => intro fr; exact tk_swap fr k j r
  | trans _ _ h1 h2 => intro fr; rw [h1, h2]
theorem free_lt {fr : List Bool} {k : Nat} (h : fr.getD k false = true) : k < fr.length := by
  rcases Nat.lt_or_ge k fr.length with h1 | h1
  · exact h1
  · simp [List.getD_eq_getElem?_getD, List.getElem?_eq_none h1] at h
/-- the free cell at an address is the one that is found -/
theorem hCl_uni {ad : List Int} {fr : List Bool} (hd : ad.Nodup) (hl : fr.length = ad.length) {k : Nat} (hf : fr.getD k false = true) : hCl ad fr (ad.getD k 0) = k := by
  have hk := free_lt hf
  refine hCl_hit (by omega) (fun j hj => ?_) (by unfold clP; rw [hf]; simp)
  unfold clP
  have hne : (ad.getD j 0 == ad.getD k 0) = false := by
    rw [beq_eq_false_iff_ne]
    intro e
    have hj2 : j < ad.length := by omega
    have hk2 : k < ad.length := by omega
    simp only [List.getD_eq_getElem?_getD, List.getElem?_eq_getElem hj2, List.getElem?_eq_getElem hk2, Option.getD_some] at e
    have := (List.pairwise_iff_getElem.1 hd) j k hj2 hk2 hj
    exact this e
  rw [hne, Bool.and_false]
/-- what is asked of the atom's end -/
def wEnd (C : List ByteArray → List Int → List Bool → Bool) (ns : List ByteArray) (vs : List Int) (b : ByteArray) (e : Int) (fr : List Bool) : Bool := match evA ns vs b with | none => C (ns ++ [b]) (vs ++ [e]) fr | some x => (x == e) && C ns vs fr
theorem wayM_succ {ad nx : List Int} {C : List ByteArray → List Int → List Bool → Bool} {a : RAt} {ns : List ByteArray} {vs : List Int} {m : Nat} {v : Int} {fr : List Bool} : wayM ad nx C a ns vs (m + 1) v fr = (if hCl ad fr v < ad.length then wEnd C ns vs a.b (nx.getD (hCl ad fr v) 0) (fr.set (hCl ad fr v) false) || (!eqW a.k toW && wayM ad nx C a ns vs m (nx.getD (hCl ad fr v) 0) (fr.set (hCl ad fr v) false)) else false) := by
  rw [wayM]; rfl
theorem way_iff {ad nx : List Int} (hd : ad.Nodup) {C : List ByteArray → List Int → List Bool → Bool} {a : RAt} {ns : List ByteArray} {vs : List Int} : ∀ (m : Nat) (v : Int) (fr : List Bool), fr.length = ad.length → fr.count true < m →
    (wayM ad nx C a ns vs m v fr = true ↔ ∃ p e fr', seg ad nx p v e ∧ tk fr p = some fr' ∧ (eqW a.k toW = true → p.length = 1) ∧ wEnd C ns vs a.b e fr' = true) := by
  intro m
  induction m with
  | zero => intro v fr _ h; omega
  | succ m ih =>
    intro v fr hl hm
    rw [wayM_succ]
    constructor
    · intro h
      by_cases hk : hCl ad fr v < ad.length
      · rw [if_pos hk] at h
        obtain ⟨hf, hv⟩ := hCl_free hk
        simp only [Bool.or_eq_true, Bool.and_eq_true, Bool.not_eq_true'] at h
        rcases h with h | ⟨h1, h2⟩
        · exact ⟨[hCl ad fr v], _, _, ⟨hv, rfl⟩, by simp only [tk]; rw [if_pos hf], fun _ => rfl, h⟩
        · have hc := count_set (free_lt hf) hf
          obtain ⟨p, e, fr', hs, ht, _, hw⟩ := (ih _ _ (by simpa using hl) (by omega)).1 h2
          cases p with
          | nil => exact hs.elim
          | cons k2 r => exact ⟨hCl ad fr v :: k2 :: r, e, fr', ⟨hv, hs⟩, (by rw [tk, if_pos hf]; exact ht), (fun h => by rw [h1] at h; cases h), hw⟩
      · rw [if_neg hk] at h; cases h
    · rintro ⟨p, e, fr', hs, ht, ho, hw⟩
      cases p with
      | nil => exact hs.elim
      | cons k r =>
        have hv := seg_hd hs
        rw [tk] at ht
        by_cases hf : fr.getD k false = true
        · rw [if_pos hf] at ht
          have hu := hCl_uni hd hl hf
          rw [hv] at hu
          have hk := free_lt hf
          rw [hu, if_pos (by omega)]
          cases r with
          | nil =>
            have hs' : nx.getD k 0 = e := hs.2
            cases ht
            rw [hs', hw]; rfl
          | cons k2 r2 =>
            have hs' : seg ad nx (k2 :: r2) (nx.getD k 0) e := hs.2
            have hna : eqW a.k toW = false := by
              cases hx : eqW a.k toW with
              | false => rfl
              | true => have := ho hx; simp at this
            have hc := count_set hk hf
            rw [hna, (ih _ _ (by simpa using hl) (by omega)).2 ⟨k2 :: r2, e, fr', hs', ht, (fun h => by rw [hna] at h; cases h), hw⟩]
            simp
        · rw [if_neg hf] at ht; cases ht
end Go.Proofs.Ytciihepbeacppaa

namespace Go.Proofs.Ytciihepbeacppaa
open Go.RowKit

/-! ### the meaning of a formula -/
/-- the atoms take all cells that are free -/
def Sp (ad nx : List Int) (s : ByteArray → Int) : List RAt → List Bool → Prop
  | [], fr => fr.any id = false
  | a :: r, fr => ∃ p fr', seg ad nx p (s a.a) (s a.b) ∧ tk fr p = some fr' ∧ (eqW a.k toW = true → p.length = 1) ∧ Sp ad nx s r fr'
theorem Sp_swap {ad nx : List Int} {s : ByteArray → Int} {a b : RAt} {r : List RAt} {fr : List Bool} (h : Sp ad nx s (a :: b :: r) fr) : Sp ad nx s (b :: a :: r) fr := by
  obtain ⟨p, f1, h1, h2, h3, q, f2, h4, h5, h6, h7⟩ := h
  have e1 : tk fr (p ++ q) = some f2 := by rw [tk_app, h2]; exact h5
  rw [tk_perm List.perm_append_comm, tk_app] at e1
  obtain ⟨f3, e2, e3⟩ := Option.bind_eq_some_iff.1 e1
  exact ⟨q, f3, h4, e2, h6, p, f2, h1, e3, h3, h7⟩
theorem Sp_cons {ad nx : List Int} {s : ByteArray → Int} {a : RAt} {r r' : List RAt} (h : ∀ fr, Sp ad nx s r fr → Sp ad nx s r' fr) {fr : List Bool} (h2 : Sp ad nx s (a :: r) fr) : Sp ad nx s (a :: r') fr := by
  obtain ⟨p, f1, h3, h4, h5, h6⟩ := h2
  exact ⟨p, f1, h3, h4, h5, h _ h6⟩
/-- an atom may be the first -/
theorem Sp_front {ad nx : List Int} {s : ByteArray → Int} {a : RAt} {q : List RAt} : ∀ {p : List RAt} {fr : List Bool}, Sp ad nx s (p ++ a :: q) fr ↔ Sp ad nx s (a :: (p ++ q)) fr := by
  intro p
  induction p with
  | nil => intro fr; exact Iff.rfl
  | cons x p ih =>
    intro fr
    constructor
    · intro h
      exact Sp_swap (Sp_cons (fun f hf => ih.1 hf) h)
    · intro h
      exact Sp_cons (fun f hf => ih.2 hf) (Sp_swap h)
/-- there are values so that the atoms hold -/
def Sem (ad nx : List Int) (pu pl : List RAt) (ns : List ByteArray) (vs : List Int) (fr : List Bool) : Prop := ∃ s, Agr s ns vs ∧ Pur s pu ∧ Sp ad nx s pl fr
theorem wEnd_iff {ad nx : List Int} {pu r : List RAt} {C : List ByteArray → List Int → List Bool → Bool} {ns : List ByteArray} {vs : List Int} (hl : ns.length = vs.length) {fr : List Bool} (hf : fr.length = ad.length)
    (ih : ∀ (ns : List ByteArray) (vs : List Int) (fr : List Bool), ns.length = vs.length → fr.length = ad.length → (C ns vs fr = true ↔ Sem ad nx pu r ns vs fr)) {b : ByteArray} {e : Int} :
    wEnd C ns vs b e fr = true ↔ ∃ s, Agr s ns vs ∧ s b = e ∧ Pur s pu ∧ Sp ad nx s r fr := by
  unfold wEnd
  cases hb : evA ns vs b with
  | none =>
    dsimp only
    rw [ih _ _ _ (by simp [hl]) hf]
    constructor
    · rintro ⟨s, h1, h2, h3⟩
      refine ⟨s, agr_of_app hl h1, ?_, h2, h3⟩
      apply h1
      rw [evA_app hl, hb]
      simp [eqW]
    · rintro ⟨s, h1, h2, h3, h4⟩
      exact ⟨s, agr_app hl h1 h2, h3, h4⟩
  | some x =>
    dsimp only
    rw [Bool.and_eq_true, ih _ _ _ hl hf, beq_iff_eq]
    constructor
    · rintro ⟨h0, s, h1, h2, h3⟩
      exact ⟨s, h1, by rw [← h0]; exact h1 b x hb, h2, h3⟩
    · rintro ⟨s, h1, h2, h3, h4⟩
      exact ⟨by rw [← h2]; exact (h1 b x hb).symm, s, h1, h3, h4⟩
theorem cel_iff {ad nx : List Int} (hd : ad.Nodup) {pu : List RAt} (hn : NmOK pu) : ∀ (n : Nat) (pl : List RAt), pl.length = n → ∀ (ns : List ByteArray) (vs : List Int) (fr : List Bool), ns.length = vs.length → fr.length = ad.length →
    (celM ad nx pu n pl ns vs fr = true ↔ Sem ad nx pu pl ns vs fr) := by
  intro n
  induction n with
  | zero =>
    intro pl hp ns vs fr hl hf
    obtain rfl : pl = [] := List.eq_nil_of_length_eq_zero hp
    rw [celM, Bool.and_eq_true, oth_iff hn _ _ _ hl (unv_two ns vs pu)]
    constructor
    · rintro ⟨h1, s, h2, h3⟩
      exact ⟨s, h2, h3, by simpa [Sp] using h1⟩
    · rintro ⟨s, h2, h3, h1⟩
      exact ⟨by simpa [Sp] using h1, s, h2, h3⟩
  | succ n ih =>
    intro pl hp ns vs fr hl hf
    obtain ⟨i, hi⟩ : ∃ i, i = pkF ns vs pl 0 := ⟨_, rfl⟩
    have hil : i < pl.length := by rw [hi]; exact pkF_lt (by omega) 0
    have hgd : pl.getD i ra0 = pl[i] := by simp [hil]
    obtain ⟨r, hr⟩ : ∃ r, r = pl.take i ++ pl.drop (i + 1) := ⟨_, rfl⟩
    have hrl : r.length = n := by rw [hr]; simp; omega
    have hpl : pl = pl.take i ++ pl[i] :: pl.drop (i + 1) := by rw [← List.drop_eq_getElem_cons hil, List.take_append_drop]
    have hfront : ∀ s fr, Sp ad nx s pl fr ↔ Sp ad nx s (pl[i] :: r) fr := by
      intro s fr
      rw [hr]
      have := Sp_front (ad := ad) (nx := nx) (s := s) (a := pl[i]) (q := pl.drop (i + 1)) (p := pl.take i) (fr := fr)
      rwa [← hpl] at this
    have ihr := ih r hrl
    rw [celM, ← hi, hgd, ← hr]
    cases hev : evA ns vs pl[i].a with
    | some v =>
      dsimp only
      rw [way_iff hd _ _ _ hf (Nat.lt_succ_self _)]
      constructor
      · rintro ⟨p, e, fr', h1, h2, h3, h4⟩
        obtain ⟨s, g1, g2, g3, g4⟩ := (wEnd_iff hl (by rw [tk_len h2]; exact hf) ihr).1 h4
        exact ⟨s, g1, g3, (hfront s fr).2 ⟨p, fr', by rw [g1 _ _ hev, g2]; exact h1, h2, h3, g4⟩⟩
      · rintro ⟨s, g1, g3, g4⟩
        obtain ⟨p, fr', h1, h2, h3, g5⟩ := (hfront s fr).1 g4
        rw [g1 _ _ hev] at h1
        exact ⟨p, _, fr', h1, h2, h3, (wEnd_iff hl (by rw [tk_len h2]; exact hf) ihr).2 ⟨s, g1, rfl, g3, g5⟩⟩
    | none =>
      dsimp only
      rw [List.any_eq_true]
      have hl2 : ∀ x : Int, (ns ++ [pl[i].a]).length = (vs ++ [x]).length := fun x => by simp [hl]
      constructor
      · rintro ⟨k, hk, h0⟩
        rw [Bool.and_eq_true, way_iff hd _ _ _ hf (Nat.lt_succ_self _)] at h0
        obtain ⟨hfk, p, e, fr', h1, h2, h3, h4⟩ := h0
        obtain ⟨s, g1, g2, g3, g4⟩ := (wEnd_iff (hl2 _) (by rw [tk_len h2]; exact hf) ihr).1 h4
        have ga : s pl[i].a = ad.getD k 0 := by
          apply g1
          rw [evA_app hl, hev]
          simp [eqW]
        exact ⟨s, agr_of_app hl g1, g3, (hfront s fr).2 ⟨p, fr', by rw [ga, g2]; exact h1, h2, h3, g4⟩⟩
      · rintro ⟨s, g1, g3, g4⟩
        obtain ⟨p, fr', h1, h2, h3, g5⟩ := (hfront s fr).1 g4
        cases p with
        | nil => exact h1.elim
        | cons k p =>
          have hk : ad.getD k 0 = s pl[i].a := seg_hd h1
          have hfk : fr.getD k false = true := by
            rw [tk] at h2
            by_cases hx : fr.getD k false = true
            · exact hx
            · rw [if_neg hx] at h2; cases h2
          refine ⟨k, by have := free_lt hfk; simp; omega, ?_⟩
          rw [Bool.and_eq_true, way_iff hd _ _ _ hf (Nat.lt_succ_self _)]
          refine ⟨hfk, k :: p, _, fr', by rw [hk]; exact h1, h2, h3, (wEnd_iff (hl2 _) (by rw [tk_len h2]; exact hf) ihr).2 ⟨s, agr_app hl g1 hk.symm, rfl, g3, g5⟩⟩
end Go.Proofs.Ytciihepbeacppaa

namespace Go.Proofs.Ytciihepbeacppaa
open Go.RowKit

/-! ### ways one behind the other; a way cut up -/
theorem seg_app {ad nx : List Int} : ∀ {p q : List Nat} {v m e : Int}, seg ad nx p v m → seg ad nx q m e → seg ad nx (p ++ q) v e := by
  intro p
  induction p with
  | nil => intro q v m e h; exact h.elim
  | cons k r ih =>
    intro q v m e hp hq
    cases q with
    | nil => exact hq.elim
    | cons j q =>
      cases r with
      | nil =>
        have h1 : ad.getD k 0 = v ∧ nx.getD k 0 = m := hp
        show ad.getD k 0 = v ∧ seg ad nx (j :: q) (nx.getD k 0) e
        exact ⟨h1.1, by rw [h1.2]; exact hq⟩
      | cons k2 r =>
        have h1 : ad.getD k 0 = v ∧ seg ad nx (k2 :: r) (nx.getD k 0) m := hp
        show ad.getD k 0 = v ∧ seg ad nx (k2 :: (r ++ j :: q)) (nx.getD k 0) e
        exact ⟨h1.1, ih h1.2 hq⟩
theorem seg_ne {ad nx : List Int} {p : List Nat} {v e : Int} (h : seg ad nx p v e) : p ≠ [] := by
  rintro rfl; exact h
/-- a way of more than one cell: its first cell, and the way behind it -/
theorem seg_cut {ad nx : List Int} {k : Nat} {r : List Nat} {v e : Int} (h : seg ad nx (k :: r) v e) : (r = [] ∧ ad.getD k 0 = v ∧ nx.getD k 0 = e) ∨ (seg ad nx [k] v (nx.getD k 0) ∧ seg ad nx r (nx.getD k 0) e) := by
  cases r with
  | nil => exact Or.inl ⟨rfl, h.1, h.2⟩
  | cons k2 r => exact Or.inr ⟨⟨h.1, rfl⟩, h.2⟩
/-- its last cell, and the way ahead of it -/
theorem seg_last {ad nx : List Int} : ∀ {p : List Nat} {k : Nat} {v e : Int}, seg ad nx (p ++ [k]) v e → p ≠ [] → seg ad nx p v (ad.getD k 0) ∧ seg ad nx [k] (ad.getD k 0) e := by
  intro p
  induction p with
  | nil => intro k v e _ h; exact absurd rfl h
  | cons j r ih =>
    intro k v e h _
    cases r with
    | nil =>
      have h1 : ad.getD j 0 = v ∧ (ad.getD k 0 = nx.getD j 0 ∧ nx.getD k 0 = e) := h
      exact ⟨⟨h1.1, h1.2.1.symm⟩, ⟨rfl, h1.2.2⟩⟩
    | cons j2 r =>
      have h1 : ad.getD j 0 = v ∧ seg ad nx (j2 :: r ++ [k]) (nx.getD j 0) e := h
      obtain ⟨g1, g2⟩ := ih h1.2 (by simp)
      exact ⟨⟨h1.1, g1⟩, g2⟩
/-- one cell, two, or more -/
theorem seg_three {ad nx : List Int} {p : List Nat} {v e : Int} (h : seg ad nx p v e) :
    (∃ k, p = [k] ∧ seg ad nx [k] v e) ∨ (∃ k j m, p = [k, j] ∧ seg ad nx [k] v m ∧ seg ad nx [j] m e) ∨ (∃ k r j m f, p = k :: (r ++ [j]) ∧ seg ad nx [k] v m ∧ seg ad nx r m f ∧ seg ad nx [j] f e) := by
  match p, h with
  | [k], h => exact Or.inl ⟨k, rfl, h⟩
  | [k, j], h => exact Or.inr (Or.inl ⟨k, j, nx.getD k 0, rfl, ⟨h.1, rfl⟩, h.2⟩)
  | k :: j :: i :: r, h =>
    right; right
    obtain ⟨r', l, hr⟩ : ∃ r' l, j :: i :: r = r' ++ [l] := ⟨(j :: i :: r).dropLast, (j :: i :: r).getLast (by simp), (List.dropLast_concat_getLast (by simp)).symm⟩
    have h1 : ad.getD k 0 = v ∧ seg ad nx (j :: i :: r) (nx.getD k 0) e := h
    have hne : r' ≠ [] := by
      rintro rfl
      simp at hr
    rw [hr] at h1
    obtain ⟨g1, g2⟩ := seg_last h1.2 hne
    exact ⟨k, r', l, _, _, by rw [hr], ⟨h1.1, rfl⟩, g1, g2⟩
end Go.Proofs.Ytciihepbeacppaa

namespace Go.Proofs.Ytciihepbeacppaa
open Go.RowKit

/-! ### cells by classes -/
def SpC (ad nx : List Int) (val : Nat → Int) : List Pr → List Bool → Prop
  | [], fr => fr.any id = false
  | p :: r, fr => ∃ q fr', seg ad nx q (val p.l) (val p.r) ∧ tk fr q = some fr' ∧ (p.k ≠ 4 → q.length = 1) ∧ SpC ad nx val r fr'
theorem SpC_swap {ad nx : List Int} {val : Nat → Int} {a b : Pr} {r : List Pr} {fr : List Bool} (h : SpC ad nx val (a :: b :: r) fr) : SpC ad nx val (b :: a :: r) fr := by
  obtain ⟨p, f1, h1, h2, h3, q, f2, h4, h5, h6, h7⟩ := h
  have e1 : tk fr (p ++ q) = some f2 := by rw [tk_app, h2]; exact h5
  rw [tk_perm List.perm_append_comm, tk_app] at e1
  obtain ⟨f3, e2, e3⟩ := Option.bind_eq_some_iff.1 e1
  exact ⟨q, f3, h4, e2, h6, p, f2, h1, e3, h3, h7⟩
theorem SpC_cons {ad nx : List Int} {val : Nat → Int} {a : Pr} {r r' : List Pr} (h : ∀ fr, SpC ad nx val r fr → SpC ad nx val r' fr) {fr : List Bool} (h2 : SpC ad nx val (a :: r) fr) : SpC ad nx val (a :: r') fr := by
  obtain ⟨p, f1, h3, h4, h5, h6⟩ := h2
  exact ⟨p, f1, h3, h4, h5, h _ h6⟩
theorem SpC_perm {ad nx : List Int} {val : Nat → Int} {l l' : List Pr} (h : l.Perm l') : ∀ {fr : List Bool}, SpC ad nx val l fr → SpC ad nx val l' fr := by
  induction h with
  | nil => intro fr h; exact h
  | cons k _ ih => intro fr hd; exact SpC_cons (fun _ h => ih h) hd
  | swap j k r => intro fr hd; exact SpC_swap hd
  | trans _ _ h1 h2 => intro fr hd; exact h2 (h1 hd)
theorem SpC_congr {ad nx : List Int} {val val' : Nat → Int} : ∀ {l : List Pr} {fr : List Bool}, (∀ p ∈ l, val p.l = val' p.l ∧ val p.r = val' p.r) → SpC ad nx val l fr → SpC ad nx val' l fr := by
  intro l
  induction l with
  | nil => intro fr _ h; exact h
  | cons a l ih =>
    rintro fr h ⟨q, fr', h1, h2, h3, h4⟩
    have ha := h a (by simp)
    exact ⟨q, fr', by rw [← ha.1, ← ha.2]; exact h1, h2, h3, ih (fun p hp => h p (by simp [hp])) h4⟩
/-- each atom's way -/
theorem SpC_ways {ad nx : List Int} {val : Nat → Int} : ∀ {l : List Pr} {fr : List Bool}, SpC ad nx val l fr → ∃ P : Nat → List Nat, (∀ i, i < l.length → seg ad nx (P i) (val (l.getD i pr0).l) (val (l.getD i pr0).r) ∧ ((l.getD i pr0).k ≠ 4 → (P i).length = 1)) ∧ ∃ fr', tk fr ((List.range l.length).flatMap P) = some fr' ∧ fr'.any id = false := by
  intro l
  induction l with
  | nil => intro fr h; exact ⟨fun _ => [], fun i hi => by simp at hi, fr, rfl, h⟩
  | cons a l ih =>
    rintro fr ⟨q, f1, h1, h2, h3, h4⟩
    obtain ⟨P, hP, f2, g1, g2⟩ := ih h4
    refine ⟨fun i => match i with | 0 => q | j + 1 => P j, fun i hi => ?_, f2, ?_, g2⟩
    · cases i with
      | zero => exact ⟨h1, h3⟩
      | succ j => simpa using hP j (by simpa using hi)
    · rw [List.length_cons, List.range_succ_eq_map, List.flatMap_cons, tk_app, h2, List.flatMap_map]
      exact g1
theorem chn_seg {ad nx : List Int} {val : Nat → Int} {V : CF} {P : Nat → List Nat} (hP : ∀ i, i < V.ow.length → seg ad nx (P i) (val (V.ow.getD i pr0).l) (val (V.ow.getD i pr0).r) ∧ ((V.ow.getD i pr0).k ≠ 4 → (P i).length = 1)) : ∀ {L : List Nat} {a e : Nat}, (∀ i ∈ L, i < V.ow.length) → chn V L a e → seg ad nx (L.flatMap P) (val a) (val e) := by
  intro L
  induction L with
  | nil => intro a e _ h; exact h.elim
  | cons i L ih =>
    intro a e hi h
    have h1 := (hP i (hi i (by simp))).1
    cases L with
    | nil =>
      obtain ⟨g1, g2⟩ := h
      rw [g1, g2] at h1
      simpa using h1
    | cons j r =>
      obtain ⟨g1, g2⟩ := h
      rw [g1] at h1
      rw [List.flatMap_cons]
      exact seg_app h1 (ih (fun k hk => hi k (by simp [hk])) g2)
/-- what is dealt out holds of the cells -/
theorem deal_sp {ad nx : List Int} {val sv : Nat → Int} {V T : CF} {b : Nat → Option Nat} {P : Nat → List Nat} (hP : ∀ i, i < V.ow.length → seg ad nx (P i) (val (V.ow.getD i pr0).l) (val (V.ow.getD i pr0).r) ∧ ((V.ow.getD i pr0).k ≠ 4 → (P i).length = 1)) (hs : ∀ c a, b c = some a → sv c = val a) : ∀ {ks fr : List Nat} {f f' : List Bool}, (∀ i ∈ fr, i < V.ow.length) → Deal V T b ks fr → tk f (fr.flatMap P) = some f' → f'.any id = false → SpC ad nx sv (ks.map (fun k => T.ow.getD k pr0)) f := by
  intro ks
  induction ks with
  | nil =>
    intro fr f f' _ hd ht ha
    cases hd
    cases ht
    exact ha
  | cons k ks ih =>
    rintro fr f f' hfr ⟨L, rest, h1, ⟨a, e, h2, h3, h4⟩, h5, h6⟩ ht ha
    have hL : ∀ i ∈ L, i < V.ow.length := fun i hi => hfr i (h1.mem_iff.2 (by simp [hi]))
    have hr : ∀ i ∈ rest, i < V.ow.length := fun i hi => hfr i (h1.mem_iff.2 (by simp [hi]))
    rw [tk_perm (h1.flatMap_right P), List.flatMap_append, tk_app] at ht
    obtain ⟨f1, g1, g2⟩ := Option.bind_eq_some_iff.1 ht
    refine ⟨L.flatMap P, f1, by rw [hs _ _ h2, hs _ _ h3]; exact chn_seg hP hL h4, g1, fun h4 => ?_, ih hr h6 g2 ha⟩
    obtain ⟨i, rfl, hi⟩ := h5 h4
    have := (hP i (hL i (by simp))).2 hi
    simpa using this
/-- a model of a formula in classes -/
structure Mod (ad nx : List Int) (val : Nat → Int) (V : CF) : Prop where
  nl : val (V.cl.getD 0 0) = 0
  ap : ∀ p ∈ V.ap, val p.l ≠ val p.r
  sp : SpC ad nx val V.ow (List.replicate ad.length true)
theorem tk_free {fr fr' : List Bool} {p : List Nat} (h : tk fr p = some fr') : ∀ k ∈ p, fr.getD k false = true := by
  induction p generalizing fr with
  | nil => intro k hk; cases hk
  | cons j r ih =>
    simp only [tk] at h
    by_cases hf : fr.getD j false = true
    · rw [if_pos hf] at h
      intro k hk
      rcases List.mem_cons.1 hk with rfl | hk
      · exact hf
      · have := ih h k hk
        by_cases e : j = k
        · rw [← e]; exact hf
        · simpa [List.getD_eq_getElem?_getD, List.getElem?_set, e] using this
    · rw [if_neg hf] at h; cases h
theorem tk_nodup {fr fr' : List Bool} {p : List Nat} (h : tk fr p = some fr') : p.Nodup := by
  induction p generalizing fr with
  | nil => exact List.nodup_nil
  | cons j r ih =>
    simp only [tk] at h
    by_cases hf : fr.getD j false = true
    · rw [if_pos hf] at h
      refine List.nodup_cons.2 ⟨fun hj => ?_, ih h⟩
      have := tk_free h j hj
      simp only [List.getD_eq_getElem?_getD, List.getElem?_set] at this
      simp at this
      split at this <;> simp_all
    · rw [if_neg hf] at h; cases h
theorem bgn_none {l : List Pr} {c : Nat} (h : bgn l c = none) : ∀ p ∈ l, p.l ≠ c := by
  induction l with
  | nil => intro p hp; cases hp
  | cons a l ih =>
    simp only [bgn] at h
    split at h
    · cases h
    · rename_i hne
      intro p hp
      rcases List.mem_cons.1 hp with rfl | hp
      · exact hne
      · exact ih (by simpa using h) p hp
/-- where atoms begin there are cells, and not the same ones -/
theorem Mod.heads {ad nx : List Int} {val : Nat → Int} {V : CF} (h : Mod ad nx val V) (hd : ad.Nodup) (hp : ∀ v ∈ ad, 0 < v) :
    (∀ i, i < V.ow.length → 0 < val (V.ow.getD i pr0).l) ∧ (∀ i j, i < V.ow.length → j < V.ow.length → i ≠ j → val (V.ow.getD i pr0).l ≠ val (V.ow.getD j pr0).l) := by
  obtain ⟨P, hP, f', ht, _⟩ := SpC_ways h.sp
  have hhd : ∀ i, i < V.ow.length → ∃ k, k ∈ P i ∧ k < ad.length ∧ ad.getD k 0 = val (V.ow.getD i pr0).l := by
    intro i hi
    have h1 := (hP i hi).1
    cases hpi : P i with
    | nil => rw [hpi] at h1; exact h1.elim
    | cons k r =>
      rw [hpi] at h1
      have h2 := tk_free ht k (List.mem_flatMap.2 ⟨i, List.mem_range.2 hi, by rw [hpi]; simp⟩)
      have h3 := free_lt h2
      exact ⟨k, by simp, by simpa using h3, seg_hd h1⟩
  refine ⟨fun i hi => ?_, fun i j hi hj hij => ?_⟩
  · obtain ⟨k, _, hk, e⟩ := hhd i hi
    rw [← e]
    have : ad.getD k 0 = ad[k] := by simp [hk]
    rw [this]; exact hp _ (List.getElem_mem hk)
  · obtain ⟨k, hk1, hk, e⟩ := hhd i hi
    obtain ⟨k', hk1', hk', e'⟩ := hhd j hj
    rw [← e, ← e']
    have hne : k ≠ k' := by
      rintro rfl
      have hn := tk_nodup ht
      have hcount : ∀ (l : List Nat), l.Nodup → i ∈ l → j ∈ l → ¬ (l.flatMap P).Nodup := by
        intro l hl hi hj hn
        have h1 := List.perm_cons_erase hi
        have h2 : j ∈ l.erase i := (List.mem_erase_of_ne (fun e => hij e.symm)).2 hj
        have h3 := (h1.flatMap_right P).nodup_iff.1 hn
        rw [List.flatMap_cons, List.nodup_append] at h3
        exact h3.2.2 k hk1 k (List.mem_flatMap.2 ⟨j, h2, hk1'⟩) rfl
      exact hcount _ List.nodup_range (List.mem_range.2 hi) (List.mem_range.2 hj) hn
    intro e2
    have ea : ad.getD k 0 = ad[k] := by simp [hk]
    have eb : ad.getD k' 0 = ad[k'] := by simp [hk']
    rw [ea, eb] at e2
    exact hne ((List.getElem_inj hd).1 e2)
theorem difB_ne {ad nx : List Int} {val : Nat → Int} {V : CF} (h : Mod ad nx val V) (hd : ad.Nodup) (hp : ∀ v ∈ ad, 0 < v) {a b : Nat} (hb : difB V a b = true) : val a ≠ val b := by
  unfold difB at hb
  by_cases e : a = b
  · rw [if_pos e] at hb; cases hb
  · rw [if_neg e, Bool.or_eq_true] at hb
    obtain ⟨h1, h2⟩ := h.heads hd hp
    rcases hb with hb | hb
    · obtain ⟨p, hp, hx⟩ := List.any_eq_true.1 hb
      simp only [Bool.or_eq_true, Bool.and_eq_true, beq_iff_eq] at hx
      have := h.ap p hp
      rcases hx with ⟨rfl, rfl⟩ | ⟨rfl, rfl⟩
      · exact this
      · exact fun e => this e.symm
    · unfold clrB at hb
      simp only [Bool.or_eq_true, Bool.and_eq_true, beq_iff_eq] at hb
      have hn := h.nl
      rcases hb with ⟨ha, hb | hb⟩ | ⟨hb, ha⟩
      · obtain ⟨i, hi⟩ := Option.isSome_iff_exists.1 ha
        obtain ⟨j, hj⟩ := Option.isSome_iff_exists.1 hb
        obtain ⟨i1, i2⟩ := bgn_some hi
        obtain ⟨j1, j2⟩ := bgn_some hj
        have hij : i ≠ j := by rintro rfl; exact e (i2.symm.trans j2)
        have := h2 i j i1 j1 hij
        rw [i2, j2] at this
        exact this
      · obtain ⟨i, hi⟩ := Option.isSome_iff_exists.1 ha
        obtain ⟨i1, i2⟩ := bgn_some hi
        have := h1 i i1
        rw [i2] at this
        rw [hb, hn]
        omega
      · obtain ⟨j, hj⟩ := Option.isSome_iff_exists.1 hb
        obtain ⟨j1, j2⟩ := bgn_some hj
        have := h1 j j1
        rw [j2] at this
        rw [ha, hn]
        omega
/-- the second holds, its named classes having the first's values -/
def Sat (ad nx : List Int) (av : Nat → Int) (an : List (Option Nat)) (T : CF) : Prop :=
  ∃ sv : Nat → Int, (∀ c a, an.getD c none = some a → sv c = av a) ∧ (∀ p ∈ T.ap, sv p.l ≠ sv p.r) ∧ SpC ad nx sv T.ow (List.replicate ad.length true)
def beg (V T : CF) (an : List (Option Nat)) (st : Int) : SS := ⟨an, List.replicate V.ow.length none, V.ow.length, List.replicate T.ow.length false, st⟩
def fit (V T : CF) (an : List (Option Nat)) (st : Int) : Bool × SS := plF (wk V T (V.ow.length + 1)) V T (beg V T an st) 0
theorem exists_top (val : Nat → Int) (b : Nat → Option Nat) : ∀ n : Nat, ∃ M : Int, ∀ c, c < n → ∀ a, b c = some a → val a < M := by
  intro n
  induction n with
  | zero => exact ⟨0, fun c hc => by omega⟩
  | succ n ih =>
    obtain ⟨M, hM⟩ := ih
    cases hb : b n with
    | none => exact ⟨M, fun c hc a ha => by
        by_cases e : c = n
        · rw [e, hb] at ha; cases ha
        · exact hM c (by omega) a ha⟩
    | some x => exact ⟨max M (val x + 1), fun c hc a ha => by
        by_cases e : c = n
        · rw [e, hb] at ha; cases ha; omega
        · have := hM c (by omega) a ha; omega⟩
/-- the second's values: open classes have values of their own -/
def svl (b : Nat → Option Nat) (val : Nat → Int) (M : Int) (c : Nat) : Int := match b c with | some a => val a | none => M + c
theorem svl_some {b : Nat → Option Nat} {val : Nat → Int} {M : Int} {c a : Nat} (h : b c = some a) : svl b val M c = val a := by unfold svl; rw [h]
theorem svl_none {b : Nat → Option Nat} {val : Nat → Int} {M : Int} {c : Nat} (h : b c = none) : svl b val M c = M + c := by unfold svl; rw [h]
theorem fit_sat {ad nx : List Int} {val : Nat → Int} {V T : CF} (h : Mod ad nx val V) (hd : ad.Nodup) (hp : ∀ v ∈ ad, 0 < v) (hT : Rm T) {an : List (Option Nat)} (han : an.length = 24) {st : Int} {s' : SS} (hf : fit V T an st = (true, s')) : Sat ad nx val an T := by
  have hup : uP (beg V T an st) = List.range T.ow.length := by
    unfold uP beg
    simp only [List.length_replicate]
    rw [List.filter_eq_self]
    intro k hk
    have := List.mem_range.1 hk
    simp [List.getD_eq_getElem?_getD, this]
  have hfr : frL (beg V T an st) = List.range V.ow.length := by
    unfold frL beg
    simp only [List.length_replicate]
    rw [List.filter_eq_self]
    intro k hk
    have := List.mem_range.1 hk
    simp [List.getD_eq_getElem?_getD, this]
  have hw : Wf V T (beg V T an st) := ⟨by simp [beg], by simp [beg], han, by rw [hfr]; simp [beg]⟩
  obtain ⟨he, hap, h24, hdl⟩ := (plF_ok hT (wk_ok hT _) _ _ hw (by rw [hup]; simp) _ _ hf).2 rfl
  rw [hup, hfr] at hdl
  obtain ⟨M, hM⟩ := exists_top val s'.b 24
  have hlt : ∀ c a, s'.b c = some a → c < 24 := by
    intro c a hc
    rcases Nat.lt_or_ge c 24 with h | h
    · exact h
    · unfold SS.b at hc
      rw [List.getD_eq_getElem?_getD, List.getElem?_eq_none (by omega)] at hc
      cases hc
  obtain ⟨P, hP, f', ht, ha⟩ := SpC_ways h.sp
  refine ⟨svl s'.b val M, fun c a hc => svl_some (he c a hc), fun p hpp => ?_, ?_⟩
  · have := List.all_eq_true.1 hap p hpp
    simp only [Bool.and_eq_true, bne_iff_ne] at this
    obtain ⟨hne, hx⟩ := this
    cases h1 : s'.b p.l with
    | none =>
      cases h2 : s'.b p.r with
      | none => rw [svl_none h1, svl_none h2]; omega
      | some y => have := hM _ (hlt _ _ h2) _ h2; rw [svl_none h1, svl_some h2]; omega
    | some x =>
      cases h2 : s'.b p.r with
      | none => have := hM _ (hlt _ _ h1) _ h1; rw [svl_some h1, svl_none h2]; omega
      | some y => rw [h1, h2] at hx; rw [svl_some h1, svl_some h2]; exact difB_ne h hd hp hx
  · have := deal_sp (sv := svl s'.b val M) hP (fun c a hc => svl_some hc) (fun i hi => List.mem_range.1 hi) hdl ht ha
    have e : (List.range T.ow.length).map (fun k => T.ow.getD k pr0) = T.ow := by
      apply List.ext_getElem (by simp)
      intro n h1 h2
      simp [h2]
    rwa [e] at this
end Go.Proofs.Ytciihepbeacppaa

namespace Go.Proofs.Ytciihepbeacppaa
open Go.RowKit

/-! ### lists that are cut up -/
def cutA (l : List Pr) (i size : Nat) : List Pr :=
  if size = 1 then l.set i ⟨3, (l.getD i pr0).l, (l.getD i pr0).r⟩
  else if size = 2 then l.set i ⟨3, (l.getD i pr0).l, 24 + 2 * i⟩ ++ [⟨3, 24 + 2 * i, (l.getD i pr0).r⟩]
  else l.set i ⟨3, (l.getD i pr0).l, 24 + 2 * i⟩ ++ [⟨4, 24 + 2 * i, 25 + 2 * i⟩, ⟨3, 25 + 2 * i, (l.getD i pr0).r⟩]
def whB (n : Nat) (l : List Pr) (i : Nat) : Bool := decide (i < n) && ((l.getD i pr0).k == 4)
def cuF (n : Nat) (l : List Pr) (f : List Pr) (i : Nat) : List Pr := if whB n l i then cutA f i 3 else f
def cutL (n : Nat) (l : List Pr) : List Pr := (List.range l.length).foldl (cuF n l) l
def teB (v : List Pr) (s : SS) (i : Nat) : Bool := match bgn v (24 + 2 * i), bgn v (25 + 2 * i) with
  | some m, some e => if s.ot.getD m none ≠ s.ot.getD i none ∨ s.ot.getD e none ≠ s.ot.getD i none then true else s.bd.any (fun b => b == some (24 + 2 * i) || b == some (25 + 2 * i))
  | _, _ => true
def trn (n : Nat) (l v : List Pr) (s : SS) : Option Nat := (List.range l.length).find? (fun i => whB n l i && teB v s i)
def vw (F : CF) (l : List Pr) : CF := ⟨F.cl, F.ap, l⟩
def alw (F T : CF) (an : List (Option Nat)) : Nat → Int → List Pr → Bool × Int
  | 0, st, _ => (false, st)
  | m + 1, st, l => match fit (vw F l) T an st with
    | (true, s) => (true, s.st)
    | (false, s) => match fit (vw F (cutL F.ow.length l)) T an s.st with
      | (false, s2) => (false, s2.st)
      | (true, s2) => match trn F.ow.length l (cutL F.ow.length l) s2 with
        | none => (false, s2.st)
        | some i => match alw F T an m s2.st (cutA l i 1) with
          | (false, t) => (false, t)
          | (true, t) => match alw F T an m t (cutA l i 2) with
            | (false, t) => (false, t)
            | (true, t) => alw F T an m t (cutA l i 3)
/-- the classes inside whole lists are nobody's yet -/
def Frs (n : Nat) (l : List Pr) : Prop := n ≤ l.length ∧ ∀ i, i < n → (l.getD i pr0).k = 4 → ∀ p ∈ l, p.l ≠ 24 + 2 * i ∧ p.l ≠ 25 + 2 * i ∧ p.r ≠ 24 + 2 * i ∧ p.r ≠ 25 + 2 * i
theorem set_perm {l : List Pr} {i : Nat} (hi : i < l.length) (x : Pr) : (l.set i x).Perm (x :: (l.take i ++ l.drop (i + 1))) := by
  rw [List.set_eq_take_append_cons_drop, if_pos hi]
  exact List.perm_middle
theorem self_perm {l : List Pr} {i : Nat} (hi : i < l.length) : l.Perm (l.getD i pr0 :: (l.take i ++ l.drop (i + 1))) := by
  have h1 := set_perm hi (l.getD i pr0)
  rwa [set_getD] at h1
theorem cut_mem {l : List Pr} {i size : Nat} {p : Pr} (hp : p ∈ cutA l i size) : p ∈ l ∨ ((p.l = (l.getD i pr0).l ∨ p.l = 24 + 2 * i ∨ p.l = 25 + 2 * i) ∧ (p.r = (l.getD i pr0).r ∨ p.r = 24 + 2 * i ∨ p.r = 25 + 2 * i)) := by
  have hs : ∀ x, p ∈ l.set i x → p ∈ l ∨ p = x := fun x h => List.mem_or_eq_of_mem_set h
  unfold cutA at hp
  by_cases h1 : size = 1
  · rw [if_pos h1] at hp
    rcases hs _ hp with h | h
    · exact Or.inl h
    · exact Or.inr (by rw [h]; simp)
  · rw [if_neg h1] at hp
    by_cases h2 : size = 2
    · rw [if_pos h2] at hp
      rcases List.mem_append.1 hp with hp | hp
      · rcases hs _ hp with h | h
        · exact Or.inl h
        · exact Or.inr (by rw [h]; simp)
      · simp at hp; exact Or.inr (by rw [hp]; simp)
    · rw [if_neg h2] at hp
      rcases List.mem_append.1 hp with hp | hp
      · rcases hs _ hp with h | h
        · exact Or.inl h
        · exact Or.inr (by rw [h]; simp)
      · simp at hp; rcases hp with hp | hp <;> exact Or.inr (by rw [hp]; simp)
theorem cut_at {l : List Pr} {i size j : Nat} (hi : i < l.length) (hj : j < l.length) : (cutA l i size).getD j pr0 = if i = j then ⟨3, (l.getD i pr0).l, if size = 1 then (l.getD i pr0).r else 24 + 2 * i⟩ else l.getD j pr0 := by
  have hget : ∀ (x : Pr) (r : List Pr), (l.set i x ++ r).getD j pr0 = if i = j then x else l.getD j pr0 := by
    intro x r
    rw [← getD_set l i j x pr0 hi]
    simp only [List.getD_eq_getElem?_getD]
    rw [List.getElem?_append_left (by simpa using hj)]
  unfold cutA
  by_cases h1 : size = 1
  · rw [if_pos h1, if_pos h1]
    exact getD_set l i j _ pr0 hi
  · rw [if_neg h1, if_neg h1]
    by_cases h2 : size = 2
    · rw [if_pos h2, hget]
    · rw [if_neg h2, hget]
theorem cut_len {l : List Pr} {i size : Nat} : l.length ≤ (cutA l i size).length := by
  unfold cutA
  split
  · simp
  · split <;> simp
theorem Frs.cut {n : Nat} {l : List Pr} (h : Frs n l) {i : Nat} (hi : i < n) (size : Nat) : Frs n (cutA l i size) := by
  have hil : i < l.length := Nat.lt_of_lt_of_le hi h.1
  refine ⟨Nat.le_trans h.1 cut_len, fun j hj h4 p hp => ?_⟩
  rw [cut_at hil (Nat.lt_of_lt_of_le hj h.1)] at h4
  by_cases e : i = j
  · rw [if_pos e] at h4; simp at h4
  · rw [if_neg e] at h4
    have hall := h.2 j hj h4
    have hself := hall (l.getD i pr0) (by
      have : l.getD i pr0 = l[i] := by simp [hil]
      rw [this]; exact List.getElem_mem hil)
    rcases cut_mem hp with hp | ⟨h1, h2⟩
    · exact hall p hp
    · omega
def up2 (val : Nat → Int) (i : Nat) (x y : Int) (c : Nat) : Int := if c = 24 + 2 * i then x else if c = 25 + 2 * i then y else val c
/-- a model, and a list in it as one cell, two, or more -/
theorem Mod.cut {ad nx : List Int} {val : Nat → Int} {F : CF} {n : Nat} {l : List Pr} (h : Mod ad nx val (vw F l)) (hf : Frs n l) {i : Nat} (hi : i < n) (hk : (l.getD i pr0).k = 4) (hsm : (F.cl.getD 0 0) < 24 ∧ ∀ p ∈ F.ap, p.l < 24 ∧ p.r < 24) :
    ∃ (size : Nat) (val' : Nat → Int), (size = 1 ∨ size = 2 ∨ size = 3) ∧ (∀ c, c < 24 → val' c = val c) ∧ Mod ad nx val' (vw F (cutA l i size)) := by
  have hil : i < l.length := Nat.lt_of_lt_of_le hi hf.1
  obtain ⟨q, fr', h1, h2, _, h4⟩ := SpC_perm (self_perm hil) h.sp
  have hfr := hf.2 i hi hk
  have hself := hfr (l.getD i pr0) (by
      have : l.getD i pr0 = l[i] := by simp [hil]
      rw [this]; exact List.getElem_mem hil)
  have hrest : ∀ p ∈ l.take i ++ l.drop (i + 1), p ∈ l := by
    intro p hp
    rcases List.mem_append.1 hp with hp | hp
    · exact List.mem_of_mem_take hp
    · exact List.mem_of_mem_drop hp
  obtain ⟨rest, hre⟩ : ∃ rest, rest = l.take i ++ l.drop (i + 1) := ⟨_, rfl⟩
  rw [← hre] at h4 hrest
  have upd : ∀ (x y : Int) (c : Nat), c ≠ 24 + 2 * i → c ≠ 25 + 2 * i → up2 val i x y c = val c := by
    intro x y c h1 h2; unfold up2; rw [if_neg h1, if_neg h2]
  have mk : ∀ (x y : Int) (size : Nat), SpC ad nx (up2 val i x y) (cutA l i size) (List.replicate ad.length true) → (∀ c, c < 24 → up2 val i x y c = val c) ∧ Mod ad nx (up2 val i x y) (vw F (cutA l i size)) := by
    intro x y size hsp
    refine ⟨fun c hc => upd x y c (by omega) (by omega), ?_, fun p hp => ?_, hsp⟩
    · rw [upd x y _ (by show F.cl.getD 0 0 ≠ _; omega) (by show F.cl.getD 0 0 ≠ _; omega)]; exact h.nl
    · have := hsm.2 p hp
      rw [upd x y _ (by omega) (by omega), upd x y _ (by omega) (by omega)]
      exact h.ap p hp
  have hcg : ∀ (x y : Int), SpC ad nx (up2 val i x y) rest fr' := by
    intro x y
    refine SpC_congr (fun p hp => ?_) h4
    have := hfr p (hrest p hp)
    exact ⟨(upd x y _ this.1 this.2.1).symm, (upd x y _ this.2.2.1 this.2.2.2).symm⟩
  have hl : ∀ x y, up2 val i x y (l.getD i pr0).l = val (l.getD i pr0).l := fun x y => upd x y _ hself.1 hself.2.1
  have hr : ∀ x y, up2 val i x y (l.getD i pr0).r = val (l.getD i pr0).r := fun x y => upd x y _ hself.2.2.1 hself.2.2.2
  have hn : ∀ x y : Int, up2 val i x y (24 + 2 * i) = x := fun x y => by simp [up2]
  have hfa : ∀ x y : Int, up2 val i x y (25 + 2 * i) = y := fun x y => by unfold up2; rw [if_neg (by omega), if_pos rfl]
  rcases seg_three h1 with ⟨k, rfl, g1⟩ | ⟨k, j, m, rfl, g1, g2⟩ | ⟨k, r, j, m, f, rfl, g1, g2, g3⟩
  · refine ⟨1, _, Or.inl rfl, mk 0 0 1 ?_⟩
    unfold cutA
    rw [if_pos rfl]
    refine SpC_perm (set_perm hil _).symm ?_
    rw [← hre]
    exact ⟨[k], fr', by rw [hl, hr]; exact g1, h2, fun _ => rfl, hcg 0 0⟩
  · refine ⟨2, _, Or.inr (Or.inl rfl), mk m 0 2 ?_⟩
    unfold cutA
    rw [if_neg (by decide), if_pos rfl]
    refine SpC_perm ?_ (l := ⟨3, (l.getD i pr0).l, 24 + 2 * i⟩ :: ⟨3, 24 + 2 * i, (l.getD i pr0).r⟩ :: rest) ?_
    · refine List.Perm.trans ?_ (List.Perm.append_right _ (set_perm hil _).symm)
      rw [← hre]
      refine List.Perm.cons _ ?_
      exact (List.perm_append_comm (l₁ := rest) (l₂ := [⟨3, 24 + 2 * i, (l.getD i pr0).r⟩])).symm
    · have e := tk_app [k] [j] (List.replicate ad.length true)
      rw [show [k] ++ [j] = [k, j] from rfl, h2] at e
      obtain ⟨f1, e1, e2⟩ := Option.bind_eq_some_iff.1 e.symm
      exact ⟨[k], f1, by rw [hl, hn]; exact g1, e1, fun _ => rfl, [j], fr', by rw [hn, hr]; exact g2, e2, fun _ => rfl, hcg m 0⟩
  · refine ⟨3, _, Or.inr (Or.inr rfl), mk m f 3 ?_⟩
    unfold cutA
    rw [if_neg (by decide), if_neg (by decide)]
    refine SpC_perm ?_ (l := ⟨3, (l.getD i pr0).l, 24 + 2 * i⟩ :: ⟨4, 24 + 2 * i, 25 + 2 * i⟩ :: ⟨3, 25 + 2 * i, (l.getD i pr0).r⟩ :: rest) ?_
    · refine List.Perm.trans ?_ (List.Perm.append_right _ (set_perm hil _).symm)
      rw [← hre]
      refine List.Perm.cons _ ?_
      exact (List.perm_append_comm (l₁ := rest) (l₂ := [⟨4, 24 + 2 * i, 25 + 2 * i⟩, ⟨3, 25 + 2 * i, (l.getD i pr0).r⟩])).symm
    · have e := tk_app [k] (r ++ [j]) (List.replicate ad.length true)
      rw [show [k] ++ (r ++ [j]) = k :: (r ++ [j]) from rfl, h2] at e
      obtain ⟨f1, e1, e2⟩ := Option.bind_eq_some_iff.1 e.symm
      rw [tk_app] at e2
      obtain ⟨f2, e3, e4⟩ := Option.bind_eq_some_iff.1 e2
      exact ⟨[k], f1, by rw [hl, hn]; exact g1, e1, fun _ => rfl, r, f2, by rw [hn, hfa]; exact g2, e3, fun h => absurd rfl h, [j], fr', by rw [hfa, hr]; exact g3, e4, fun _ => rfl, hcg m f⟩
theorem trn_some {n : Nat} {l v : List Pr} {s : SS} {i : Nat} (h : trn n l v s = some i) : i < n ∧ (l.getD i pr0).k = 4 := by
  have := List.find?_some h
  simp only [Bool.and_eq_true, whB, decide_eq_true_eq, beq_iff_eq] at this
  exact this.1
theorem alw_sat {ad nx : List Int} (hd : ad.Nodup) (hp : ∀ v ∈ ad, 0 < v) {F T : CF} (hT : Rm T) (hsm : (F.cl.getD 0 0) < 24 ∧ ∀ p ∈ F.ap, p.l < 24 ∧ p.r < 24) {an : List (Option Nat)} (han : an.length = 24) (ha24 : ∀ c a, an.getD c none = some a → a < 24) :
    ∀ (m : Nat) (st : Int) (l : List Pr) (val : Nat → Int) (t : Int), alw F T an m st l = (true, t) → Frs F.ow.length l → Mod ad nx val (vw F l) → Sat ad nx val an T := by
  intro m
  induction m with
  | zero => intro st l val t h; cases h
  | succ m ih =>
    intro st l val t h hf hm
    rw [alw] at h
    cases h1 : fit (vw F l) T an st with
    | mk b s =>
      rw [h1] at h
      cases b with
      | true => exact fit_sat hm hd hp hT han h1
      | false =>
        dsimp only at h
        cases h2 : fit (vw F (cutL F.ow.length l)) T an s.st with
        | mk b2 s2 =>
          rw [h2] at h
          cases b2 with
          | false => cases h
          | true =>
            dsimp only at h
            cases h3 : trn F.ow.length l (cutL F.ow.length l) s2 with
            | none => rw [h3] at h; cases h
            | some i =>
              rw [h3] at h
              dsimp only at h
              obtain ⟨hi, hk⟩ := trn_some h3
              obtain ⟨size, val', hsz, hv, hm'⟩ := hm.cut hf hi hk hsm
              have hback : Sat ad nx val' an T → Sat ad nx val an T := by
                rintro ⟨sv, g1, g2⟩
                exact ⟨sv, fun c a hc => (g1 c a hc).trans (hv a (ha24 c a hc)), g2⟩
              cases h4 : alw F T an m s2.st (cutA l i 1) with
              | mk b4 t4 =>
                rw [h4] at h
                cases b4 with
                | false => cases h
                | true =>
                  dsimp only at h
                  cases h5 : alw F T an m t4 (cutA l i 2) with
                  | mk b5 t5 =>
                    rw [h5] at h
                    cases b5 with
                    | false => cases h
                    | true =>
                      dsimp only at h
                      rcases hsz with rfl | rfl | rfl
                      · exact hback (ih _ _ _ _ h4 (hf.cut hi 1) hm')
                      · exact hback (ih _ _ _ _ h5 (hf.cut hi 2) hm')
                      · exact hback (ih _ _ _ _ h (hf.cut hi 3) hm')
end Go.Proofs.Ytciihepbeacppaa

namespace Go.Proofs.Ytciihepbeacppaa
open Go.RowKit

/-! ### whether one formula follows from another -/
def drp (F T : CF) : List Nat → List (Option Nat) → Option (List (Option Nat))
  | [], an => some an
  | i :: r, an => if an.getD (T.cl.getD i 0) none ≠ none ∧ an.getD (T.cl.getD i 0) none ≠ some (F.cl.getD i 0) then none else drp F T r (an.set (T.cl.getD i 0) (some (F.cl.getD i 0)))
/-- Follows: the answer and the error -/
def fol (al bl : List Atm) : Bool × Nat :=
  if falB (cfOf al) then (false, 7)
  else match drp (cfOf al) (cfOf bl) [0, 1, 2, 3, 4] (List.replicate 24 none) with
    | none => (false, 0)
    | some an => ((alw (cfOf al) (cfOf bl) an ((cfOf al).ow.length + 1) 262144 (cfOf al).ow).1, 0)
def tm (a : Atm) : Pr := ⟨a.k, tNo a.lk a.li, tNo a.rk a.ri⟩
def TmOK (al : List Atm) : Prop := ∀ a ∈ al, (tm a).l < 13 ∧ (tm a).r < 13
/-- values of the terms so that all atoms hold -/
structure AtH (ad nx : List Int) (s : Nat → Int) (al : List Atm) : Prop where
  nl : s 0 = 0
  eq : ∀ a ∈ al, a.k = 1 → s (tm a).l = s (tm a).r
  ne : ∀ a ∈ al, a.k = 2 → s (tm a).l ≠ s (tm a).r
  sp : SpC ad nx s ((al.filter (fun a => a.k == 3 || a.k == 4)).map tm) (List.replicate ad.length true)
theorem SpC_map {ad nx : List Int} {v v' : Nat → Int} {f g : Atm → Pr} : ∀ {L : List Atm} {fr : List Bool}, (∀ a ∈ L, (f a).k = (g a).k ∧ v (f a).l = v' (g a).l ∧ v (f a).r = v' (g a).r) → SpC ad nx v (L.map f) fr → SpC ad nx v' (L.map g) fr := by
  intro L
  induction L with
  | nil => intro fr _ h; exact h
  | cons a L ih =>
    rintro fr h ⟨q, fr', h1, h2, h3, h4⟩
    obtain ⟨e1, e2, e3⟩ := h a (by simp)
    exact ⟨q, fr', by rw [← e2, ← e3]; exact h1, h2, fun hk => h3 (by rw [e1]; exact hk), ih (fun b hb => h b (by simp [hb])) h4⟩
theorem getD_map {f : Nat → Nat} {c : List Nat} {i : Nat} (h : i < c.length) : (c.map f).getD i 0 = f (c.getD i 0) := by simp [h]
/-- merging keeps lengths and room -/
theorem mrg_inv : ∀ (al : List Atm) (c : List Nat), TmOK al → c.length = 13 → (∀ i, i < 13 → c.getD i 0 < 13) → (al.foldl mrg1 c).length = 13 ∧ ∀ i, i < 13 → (al.foldl mrg1 c).getD i 0 < 13 := by
  intro al
  induction al with
  | nil => intro c _ h1 h2; exact ⟨h1, h2⟩
  | cons a al ih =>
    intro c ht h1 h2
    rw [List.foldl_cons]
    have hta := ht a (by simp)
    have ht' : TmOK al := fun b hb => ht b (by simp [hb])
    unfold mrg1
    split
    · refine ih _ ht' (by simpa using h1) (fun i hi => ?_)
      rw [getD_map (by omega)]
      split
      · exact h2 _ hta.1
      · exact h2 i hi
    · exact ih _ ht' h1 h2
/-- a class has its terms' value -/
theorem mrg_val {s : Nat → Int} : ∀ (al : List Atm) (c : List Nat), TmOK al → c.length = 13 → (∀ i, i < 13 → s (c.getD i 0) = s i) → (∀ a ∈ al, a.k = 1 → s (tm a).l = s (tm a).r) → ∀ i, i < 13 → s ((al.foldl mrg1 c).getD i 0) = s i := by
  intro al
  induction al with
  | nil => intro c _ _ h _; exact h
  | cons a al ih =>
    intro c ht h1 h2 h3
    rw [List.foldl_cons]
    have hta := ht a (by simp)
    have ht' : TmOK al := fun b hb => ht b (by simp [hb])
    have h3' : ∀ b ∈ al, b.k = 1 → s (tm b).l = s (tm b).r := fun b hb => h3 b (by simp [hb])
    unfold mrg1
    split
    · rename_i hk
      refine ih _ ht' (by simpa using h1) (fun i hi => ?_) h3'
      rw [getD_map (by omega)]
      split
      · rename_i e
        have g1 := h2 _ hta.1
        have g2 := h2 _ hta.2
        have g3 := h3 a (by simp) hk
        have g4 := h2 i hi
        rw [e] at g4
        exact (g1.trans g3).trans (g2.symm.trans g4)
      · exact h2 i hi
    · exact ih _ ht' h1 h2 h3'
/-- what is equal stays so -/
theorem mrg_keep {i j : Nat} (hi : i < 13) (hj : j < 13) : ∀ (al : List Atm) (c : List Nat), c.length = 13 → c.getD i 0 = c.getD j 0 → (al.foldl mrg1 c).getD i 0 = (al.foldl mrg1 c).getD j 0 := by
  intro al
  induction al with
  | nil => intro c _ h; exact h
  | cons a al ih =>
    intro c h1 h2
    rw [List.foldl_cons]
    unfold mrg1
    split
    · exact ih _ (by simpa using h1) (by rw [getD_map (by omega), getD_map (by omega), h2])
    · exact ih _ h1 h2
theorem mrg1_len (c : List Nat) (a : Atm) : (mrg1 c a).length = c.length := by unfold mrg1; split <;> simp
theorem mrg_eq : ∀ (al : List Atm) (c : List Nat), TmOK al → c.length = 13 → ∀ a ∈ al, a.k = 1 → (al.foldl mrg1 c).getD (tm a).l 0 = (al.foldl mrg1 c).getD (tm a).r 0 := by
  intro al
  induction al with
  | nil => intro c _ _ a ha; cases ha
  | cons b al ih =>
    intro c ht h1 a ha hk
    rw [List.foldl_cons]
    have ht' : TmOK al := fun b hb => ht b (by simp [hb])
    rcases List.mem_cons.1 ha with rfl | ha
    · have hta := ht a (by simp)
      refine mrg_keep hta.1 hta.2 al _ (by rw [mrg1_len]; exact h1) ?_
      unfold mrg1
      rw [if_pos hk, getD_map (by omega), getD_map (by omega)]
      rw [show tNo a.rk a.ri = (tm a).r from rfl, show tNo a.lk a.li = (tm a).l from rfl, if_pos rfl]
      split <;> rfl
    · exact ih _ ht' (by rw [mrg1_len]; exact h1) a ha hk
theorem range13 (i : Nat) (h : i < 13) : (List.range 13).getD i 0 = i := by simp [h]
theorem mrg_len {al : List Atm} (ht : TmOK al) : (mrg al).length = 13 := (mrg_inv al _ ht (by simp) (fun i hi => by rw [range13 i hi]; exact hi)).1
theorem mrg_lt {al : List Atm} (ht : TmOK al) {i : Nat} (hi : i < 13) : (mrg al).getD i 0 < 13 := (mrg_inv al _ ht (by simp) (fun i hi => by rw [range13 i hi]; exact hi)).2 i hi
theorem mrg_of {s : Nat → Int} {al : List Atm} (ht : TmOK al) (h : ∀ a ∈ al, a.k = 1 → s (tm a).l = s (tm a).r) {i : Nat} (hi : i < 13) : s ((mrg al).getD i 0) = s i := mrg_val al _ ht (by simp) (fun i hi => by rw [range13 i hi]) h i hi
theorem cl_at {al : List Atm} {i : Nat} (hi : i < 5) : (cfOf al).cl.getD i 0 = (mrg al).getD i 0 := by
  simp only [cfOf, List.getD_eq_getElem?_getD]
  rw [List.getElem?_take_of_lt hi]
theorem AtH.mod {ad nx : List Int} {s : Nat → Int} {al : List Atm} (ht : TmOK al) (h : AtH ad nx s al) : Mod ad nx s (cfOf al) := by
  have hm := fun {i : Nat} (hi : i < 13) => mrg_of ht h.eq hi
  refine ⟨by rw [cl_at (by omega), hm (by omega)]; exact h.nl, fun p hp => ?_, ?_⟩
  · obtain ⟨a, ha, rfl⟩ := List.mem_map.1 hp
    obtain ⟨ha, hk⟩ := List.mem_filter.1 ha
    have hta := ht a ha
    have := h.ne a ha (by simpa using hk)
    show s ((mrg al).getD (tm a).l 0) ≠ s ((mrg al).getD (tm a).r 0)
    rw [hm hta.1, hm hta.2]; exact this
  · refine SpC_map (fun a ha => ?_) h.sp
    have hta := ht a (List.mem_filter.1 ha).1
    exact ⟨rfl, (hm hta.1).symm, (hm hta.2).symm⟩
theorem dup_some : ∀ {ow : List Pr} {seen : List Nat}, dupB seen ow = true → ∃ i, i < ow.length ∧ ((ow.getD i pr0).l ∈ seen ∨ ∃ j, j < i ∧ (ow.getD j pr0).l = (ow.getD i pr0).l) := by
  intro ow
  induction ow with
  | nil => intro seen h; cases h
  | cons p r ih =>
    intro seen h
    simp only [dupB] at h
    by_cases hp : p.l ∈ seen
    · exact ⟨0, by simp, Or.inl (by simpa using hp)⟩
    · rw [if_neg hp] at h
      obtain ⟨i, hi, h1 | ⟨j, hj, h1⟩⟩ := ih h
      · rcases List.mem_cons.1 h1 with h1 | h1
        · exact ⟨i + 1, by simp; omega, Or.inr ⟨0, by omega, by simpa using h1.symm⟩⟩
        · exact ⟨i + 1, by simp; omega, Or.inl (by simpa using h1)⟩
      · exact ⟨i + 1, by simp; omega, Or.inr ⟨j + 1, by omega, by simpa using h1⟩⟩
theorem fal_no {ad nx : List Int} {val : Nat → Int} {V : CF} (h : Mod ad nx val V) (hd : ad.Nodup) (hp : ∀ v ∈ ad, 0 < v) : falB V = false := by
  cases hf : falB V with
  | false => rfl
  | true =>
    exfalso
    unfold falB at hf
    rw [Bool.or_eq_true] at hf
    obtain ⟨h1, h2⟩ := h.heads hd hp
    rcases hf with hf | hf
    · obtain ⟨p, hp, e⟩ := List.any_eq_true.1 hf
      have := h.ap p hp
      rw [beq_iff_eq.1 e] at this
      exact this rfl
    · obtain ⟨i, hi, h3 | ⟨j, hj, h3⟩⟩ := dup_some hf
      · simp only [List.mem_singleton] at h3
        have := h1 i hi
        rw [h3, h.nl] at this
        omega
      · exact h2 j i (by omega) hi (by omega) (by rw [h3])
theorem drp_some {F T : CF} (hT : ∀ i, i < 5 → T.cl.getD i 0 < 24) : ∀ {is : List Nat} {an an' : List (Option Nat)}, (∀ i ∈ is, i < 5) → an.length = 24 → drp F T is an = some an' →
    an'.length = 24 ∧ (∀ c a, an.getD c none = some a → an'.getD c none = some a) ∧ (∀ i ∈ is, an'.getD (T.cl.getD i 0) none = some (F.cl.getD i 0)) ∧ (∀ c a, an'.getD c none = some a → an.getD c none = some a ∨ ∃ i ∈ is, a = F.cl.getD i 0) := by
  intro is
  induction is with
  | nil => intro an an' _ h h2; cases h2; exact ⟨h, fun _ _ h => h, fun i hi => (by cases hi), fun c a h => Or.inl h⟩
  | cons i is ih =>
    intro an an' his h h2
    simp only [drp] at h2
    by_cases h0 : an.getD (T.cl.getD i 0) none ≠ none ∧ an.getD (T.cl.getD i 0) none ≠ some (F.cl.getD i 0)
    · rw [if_pos h0] at h2; cases h2
    · rw [if_neg h0] at h2
      obtain ⟨g1, g2, g3, g4⟩ := ih (fun j hj => his j (by simp [hj])) (by simpa using h) h2
      have hset : ∀ c, (an.set (T.cl.getD i 0) (some (F.cl.getD i 0))).getD c none = if T.cl.getD i 0 = c then some (F.cl.getD i 0) else an.getD c none := fun c => getD_set _ _ _ _ _ (by rw [h]; exact hT i (his i (by simp)))
      refine ⟨g1, fun c a hc => g2 c a ?_, fun j hj => ?_, fun c a hc => ?_⟩
      · rw [hset]
        by_cases e : T.cl.getD i 0 = c
        · rw [if_pos e]
          subst e
          by_cases e2 : a = F.cl.getD i 0
          · rw [e2]
          · exact absurd ⟨by rw [hc]; simp, by rw [hc]; simpa using e2⟩ h0
        · rw [if_neg e]; exact hc
      · rcases List.mem_cons.1 hj with rfl | hj
        · exact g2 _ _ (by rw [hset, if_pos rfl])
        · exact g3 j hj
      · rcases g4 c a hc with h5 | ⟨j, hj, h5⟩
        · rw [hset] at h5
          by_cases e : T.cl.getD i 0 = c
          · rw [if_pos e] at h5; cases h5; exact Or.inr ⟨i, by simp, rfl⟩
          · rw [if_neg e] at h5; exact Or.inl h5
        · exact Or.inr ⟨j, by simp [hj], h5⟩
theorem ow_lt {al : List Atm} (ht : TmOK al) : ∀ p ∈ (cfOf al).ow, p.l < 13 ∧ p.r < 13 := by
  intro p hp
  obtain ⟨a, ha, rfl⟩ := List.mem_map.1 hp
  have hta := ht a (List.mem_filter.1 ha).1
  exact ⟨mrg_lt ht hta.1, mrg_lt ht hta.2⟩
theorem ap_lt {al : List Atm} (ht : TmOK al) : ∀ p ∈ (cfOf al).ap, p.l < 13 ∧ p.r < 13 := by
  intro p hp
  obtain ⟨a, ha, rfl⟩ := List.mem_map.1 hp
  have hta := ht a (List.mem_filter.1 ha).1
  exact ⟨mrg_lt ht hta.1, mrg_lt ht hta.2⟩
/-- what is said to follow does -/
theorem fol_sound {ad nx : List Int} (hd : ad.Nodup) (hp : ∀ v ∈ ad, 0 < v) {al bl : List Atm} (ha : TmOK al) (hb : TmOK bl) {s : Nat → Int} (h : AtH ad nx s al) :
    (fol al bl).2 = 0 ∧ ((fol al bl).1 = true → ∃ s2, AtH ad nx s2 bl ∧ ∀ i, i < 5 → s2 i = s i) := by
  have hm := h.mod ha
  have hf := fal_no hm hd hp
  unfold fol
  rw [hf]
  simp only [Bool.false_eq_true, if_false]
  cases hdr : drp (cfOf al) (cfOf bl) [0, 1, 2, 3, 4] (List.replicate 24 none) with
  | none => exact ⟨rfl, fun h => by cases h⟩
  | some an =>
    refine ⟨rfl, fun hy => ?_⟩
    have hT5 : ∀ i, i < 5 → (cfOf bl).cl.getD i 0 < 24 := fun i hi => by rw [cl_at hi]; have := mrg_lt hb (i := i) (by omega); omega
    have hF5 : ∀ i, i < 5 → (cfOf al).cl.getD i 0 < 24 := fun i hi => by rw [cl_at hi]; have := mrg_lt ha (i := i) (by omega); omega
    obtain ⟨g1, _, g3, g4⟩ := drp_some hT5 (by decide) (by simp) hdr
    have ha24 : ∀ c a, an.getD c none = some a → a < 24 := by
      intro c a hc
      rcases g4 c a hc with h5 | ⟨i, hi, rfl⟩
      · exfalso
        have h6 : (List.replicate 24 (none : Option Nat)).getD c none = none := by
          rcases Nat.lt_or_ge c 24 with hc | hc
          · rw [List.getD_eq_getElem?_getD, List.getElem?_replicate, if_pos hc]; rfl
          · rw [List.getD_eq_getElem?_getD, List.getElem?_eq_none (by simpa using hc)]; rfl
        rw [h6] at h5; cases h5
      · exact hF5 i (by revert hi; simp; omega)
    have hfr : Frs (cfOf al).ow.length (cfOf al).ow := ⟨Nat.le_refl _, fun i _ _ p hpp => by have := ow_lt ha p hpp; omega⟩
    obtain ⟨sv, k1, k2, k3⟩ := alw_sat hd hp (fun p hpp => by have := ow_lt hb p hpp; omega) ⟨hF5 0 (by omega), fun p hpp => by have := ap_lt ha p hpp; omega⟩ g1 ha24 _ _ _ s _ (Prod.ext hy rfl) hfr hm
    have hv : ∀ i, i < 5 → sv ((mrg bl).getD i 0) = s i := by
      intro i hi
      have h6 := k1 _ _ (g3 i (by simp; omega))
      rw [cl_at hi] at h6
      rw [h6, cl_at hi]
      exact mrg_of ha h.eq (by omega)
    refine ⟨fun i => sv ((mrg bl).getD i 0), ⟨by rw [hv 0 (by omega)]; exact h.nl, fun a haa hk => ?_, fun a haa hk => ?_, ?_⟩, hv⟩
    · show sv ((mrg bl).getD _ 0) = sv ((mrg bl).getD _ 0)
      rw [show (mrg bl).getD (tm a).l 0 = (mrg bl).getD (tm a).r 0 from mrg_eq bl _ hb (by simp) a haa hk]
    · exact k2 (prOf (mrg bl) a) (List.mem_map.2 ⟨a, List.mem_filter.2 ⟨haa, by simp [hk]⟩, rfl⟩)
    · exact SpC_map (f := prOf (mrg bl)) (g := tm) (fun a _ => ⟨rfl, rfl, rfl⟩) k3
theorem fol_err (al bl : List Atm) : (fol al bl).2 = 0 ∨ ((fol al bl).2 = 7 ∧ (fol al bl).1 = false) := by
  unfold fol
  split
  · exact Or.inr ⟨rfl, rfl⟩
  · split
    · exact Or.inl rfl
    · exact Or.inl rfl
end Go.Proofs.Ytciihepbeacppaa
