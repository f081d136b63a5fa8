import Derived.Test.YtciihepbeacppaaGreatEF
namespace Go.Proofs.YtciihepbeacppaaGreat
open Go.RowKit
def vIx (vs : List UInt8) (x : ByteArray) (i : Nat) : Prop:=lowB x = true ∧ vs[i]? = some (hd0 x)
def tIx (vs : List UInt8) (y : ByteArray) (k i : Nat) : Prop:=(y = nilW ∧ k = 0) ∨ (k = 1 ∧ vIx vs y i)
theorem vIx.up {vs vs' : List UInt8} {x : ByteArray} {i : Nat} (h : vIx vs x i) (hp : vs <+: vs') : vIx vs' x i:=by
 obtain ⟨r,rfl⟩:=hp
 refine ⟨h.1,?_⟩
 rw [List.getElem?_append_left (List.getElem?_eq_some_iff.1 h.2).1]
 exact h.2
theorem tIx.up {vs vs' : List UInt8} {x : ByteArray} {k i : Nat} (h : tIx vs x k i) (hp : vs <+: vs') : tIx vs' x k i:=by
 rcases h with h | h
 ·exact Or.inl h
 ·exact Or.inr ⟨h.1,h.2.up hp⟩
def TI (vs : List UInt8) (nd : Nd) (i : Ins) : Prop :=
 i.op = testW ∧ ((i.cond = starW ∧ nd.op = 7) ∨ (i.cond = eqSW ∧ nd.op = 8 ∧ vIx vs i.x nd.v ∧ tIx vs i.y nd.ak nd.ai) ∨ (i.cond = neSW ∧ nd.op = 9 ∧ vIx vs i.x nd.v ∧ tIx vs i.y nd.ak nd.ai))
def SI (vs : List UInt8) (nd : Nd) (i : Ins) : Prop :=
 (i.op = nilW ∧ nd.op = 1 ∧ vIx vs i.x nd.v ∧ nd.ak = 0) ∨
 (i.op = copyW ∧ nd.op = 1 ∧ vIx vs i.x nd.v ∧ nd.ak = 1 ∧ vIx vs i.y nd.ai) ∨
 (i.op = newW ∧ nd.op = 4 ∧ vIx vs i.x nd.v) ∨
 (i.op = loadW ∧ nd.op = 2 ∧ vIx vs i.x nd.v ∧ nd.ak = 1 ∧ vIx vs i.y nd.ai) ∨
 (i.op = storeW ∧ nd.op = 3 ∧ vIx vs i.x nd.v ∧ tIx vs i.y nd.ak nd.ai) ∨
 (i.op = freeW ∧ nd.op = 5 ∧ vIx vs i.x nd.v) ∨
 (i.op = skipW ∧ nd.op = 6)
def NI (vs : List UInt8) (j : Nat) (nd : Nd) (i : Ins) : Prop :=
 (SI vs nd i ∧ nd.nx = j + 1) ∨ (TI vs nd i ∧ nd.nx = j + 1 ∧ nd.ot = i.to) ∨ (i.op = goW ∧ nd.op = 10 ∧ nd.nx = i.to)
def NIs (vs : List UInt8) : Nat → List Nd → List Ins → Prop
 | _,[],[]=>True
 | n,a :: N,b :: C=>NI vs n a b ∧ NIs vs (n + 1) N C
 | _,_,_=>False
theorem NIs.len {vs : List UInt8} : ∀ {n : Nat} {N : List Nd} {C : List Ins},NIs vs n N C → N.length = C.length
 | _,[],[],_=>rfl
 | _,_ :: _,_ :: _,h=>by simp [h.2.len]
 | _,[],_ :: _,h=>by cases h
 | _,_ :: _,[],h=>by cases h
theorem NIs.app {vs : List UInt8} {N' : List Nd} {C' : List Ins} : ∀ {n : Nat} {N : List Nd} {C : List Ins},NIs vs n N C → NIs vs (n + N.length) N' C' → NIs vs n (N ++ N') (C ++ C')
 | _,[],[],_,h=>h
 | n,_ :: N,_ :: _,h,h'=>⟨h.1,h.2.app (by rw [List.length_cons,show n + (N.length + 1) = n + 1 + N.length by omega] at h'; exact h')⟩
 | _,[],_ :: _,h,_=>by cases h
 | _,_ :: _,[],h,_=>by cases h
theorem NIs.get {vs : List UInt8} : ∀ {n : Nat} {N : List Nd} {C : List Ins},NIs vs n N C → ∀ j nd i,N[j]? = some nd → C[j]? = some i → NI vs (n + j) nd i
 | _,[],[],_,_,_,_,h1,_=>by simp at h1
 | n,_ :: _,_ :: _,h,0,_,_,h1,h2=>by
  simp only [List.getElem?_cons_zero,Option.some.injEq] at h1 h2
  subst h1; subst h2; exact h.1
 | n,_ :: _,_ :: _,h,j + 1,_,_,h1,h2=>by
  simp only [List.getElem?_cons_succ] at h1 h2
  have:=h.2.get j _ _ h1 h2
  rw [show n + 1 + j = n + (j + 1) by omega] at this
  exact this
 | _,[],_ :: _,h,_,_,_,_,_=>by cases h
 | _,_ :: _,[],h,_,_,_,_,_=>by cases h
theorem modify_at {α : Type} (f : α → α) (t : α) (R : List α) : ∀ A : List α,(A ++ t :: R).modify A.length f = A ++ f t :: R
 | []=>rfl
 | a :: A=>by simp [List.modify_succ_cons,modify_at f t R A]
theorem modify_at' {α : Type} (f : α → α) (t : α) (R A : List α) {n : Nat} (h : n = A.length) : (A ++ t :: R).modify n f = A ++ f t :: R:=by subst h; exact modify_at f t R A
structure Adv (ws : List ByteArray) (s s' : PS) (r : List ByteArray) : Prop where
 rd : Rd ws s' r
 nd : s'.nodes = s.nodes
 vs : s.vars <+: s'.vars
theorem Adv.trans {ws : List ByteArray} {s s' s'' : PS} {r r' : List ByteArray} (h : Adv ws s s' r) (k : Adv ws s' s'' r') : Adv ws s s'' r':=⟨k.rd,k.nd.trans h.nd,h.vs.trans k.vs⟩
theorem adv_one {ws : List ByteArray} {s : PS} {x : ByteArray} {r : List ByteArray} (h : Rd ws s (x :: r)) : Adv ws s s.adv r:=⟨adv_rd h,rfl,List.prefix_refl _⟩
theorem st_ac {ws : List ByteArray} {s : PS} {k x : ByteArray} {r : List ByteArray} (hk : k.toList ≠ []) (h : Rd ws s (x :: r)) : acB ws k s = eqW x k:=acB_rd hk h
theorem st_ex {ws : List ByteArray} {s : PS} {k : ByteArray} {r : List ByteArray} (hk : k.toList ≠ []) (h : Rd ws s (k :: r)) : Adv ws s (exS ws k s) r:=by
 unfold exS; rw [st_ac hk h,eqW_rfl,if_pos rfl]; exact adv_one h
theorem put_preN (l : List UInt8) (c : UInt8) : l <+: put l c:=by
 unfold put; split
 ·exact List.prefix_append _ _
 ·exact List.prefix_refl _
theorem plc_getN (l : List UInt8) (c : UInt8) (h : plc l c ≠ l.length) : l[plc l c]? = some c:=by
 induction l with
 | nil=>exact absurd rfl h
 | cons x r ih =>
  simp only [plc] at h ⊢
  by_cases hx : x = c
  ·rw [if_pos hx]; simp [hx]
  ·rw [if_neg hx] at h ⊢
   rw [List.getElem?_cons_succ]
   exact ih (by simpa using h)
theorem put_getN (l : List UInt8) (c : UInt8) : (put l c)[plc l c]? = some c:=by
 unfold put
 by_cases h : plc l c = l.length
 ·rw [if_pos h,h]; simp
 ·rw [if_neg h]; exact plc_getN l c h
theorem st_va {ws : List ByteArray} {s : PS} {x : ByteArray} {r : List ByteArray} (h : Rd ws s (x :: r)) (hx : lowB x = true) : Adv ws s (vaS ws s) r ∧ vIx (vaS ws s).vars x (vaI ws s):=by
 have e1 : vaS ws s = { s with pos:=s.pos + 1,vars:=put s.vars (hd0 x) }:=by unfold vaS; rw [pk_rd h,if_pos hx]
 have e2 : vaI ws s = plc s.vars (hd0 x):=by unfold vaI; rw [pk_rd h,if_pos hx]
 rw [e1,e2]
 exact ⟨⟨⟨h.1,(adv_rd h).2⟩,rfl,put_preN _ _⟩,hx,put_getN _ _⟩
theorem low_nil : lowB nilW = false:=rfl
theorem st_val {ws : List ByteArray} {s : PS} {x : ByteArray} {r : List ByteArray} (h : Rd ws s (x :: r)) (hx : x = nilW ∨ lowB x = true) : Adv ws s (valS ws s) r ∧ tIx (valS ws s).vars x (valK ws s) (valI ws s):=by
 rcases hx with rfl | hx
 ·have e : acB ws kNil s = true:=(st_ac kNil_n h).trans (eqW_rfl _)
  unfold valS valK valI
  rw [e,if_pos rfl,if_pos rfl]
  exact ⟨adv_one h,Or.inl ⟨rfl,rfl⟩⟩
 ·have e : acB ws kNil s = false:=(st_ac kNil_n h).trans (eqW_ne (low_ne hx low_nil))
  unfold valS valK valI
  rw [e,if_neg (by simp),if_neg (by simp),if_neg (by simp)]
  exact ⟨(st_va h hx).1,Or.inr ⟨rfl,(st_va h hx).2⟩⟩
theorem st_add {ws : List ByteArray} {s t : PS} {r : List ByteArray} (nd : Nd) (h : Adv ws s t r) : Rd ws (addS nd t) r ∧ (addS nd t).nodes = s.nodes ++ [{ nd with nx:=s.nodes.length + 1 }] ∧ s.vars <+: (addS nd t).vars:=by
 refine ⟨h.rd,?_,h.vs⟩
 show t.nodes ++ [{ nd with nx:=t.nodes.length + 1 }] = _
 rw [h.nd]
theorem st_co {ws : List ByteArray} {s : PS} {c q : List ByteArray} (hc : Cnd c) (h : Rd ws s (c ++ q)) : Adv ws s (coS ws s) q ∧ TI (coS ws s).vars (coN ws s) (rcI c) ∧ (coN ws s).ot = 0 ∧ (rcI c).to = 0:=by
 cases hc using Cnd.ind with
 | star =>
  have e : acB ws kStar s = true:=(st_ac kStar_n h).trans (eqW_rfl _)
  unfold coS coN
  rw [e,if_pos rfl,if_pos rfl]
  exact ⟨adv_one h,⟨rfl,Or.inl ⟨rfl,rfl⟩⟩,rfl,rfl⟩
 | @two a b c ha hb hc =>
  have e : acB ws kStar s = false:=(st_ac kStar_n h).trans (eqW_ne (low_ne ha rfl))
  have h1:=st_va h ha
  have h1r : Rd ws (vaS ws s) (b :: c :: q):=h1.1.rd
  have hT : Adv ws (vaS ws s) (coT ws (vaS ws s)) (c :: q) ∧ ((b = neSW ∧ coO ws (vaS ws s) = 9) ∨ (b = eqSW ∧ coO ws (vaS ws s) = 8)):=by
   unfold coT coO
   rcases hb with rfl | rfl
   ·have e2 : acB ws kNe (vaS ws s) = false:=(st_ac kNe_n h1r).trans (eqW_ne (data_ne (by simp [eqSW,kNe])))
    rw [e2,if_neg (by simp),if_neg (by simp)]
    exact ⟨st_ex kEq_n h1r,Or.inr ⟨rfl,rfl⟩⟩
   ·have e2 : acB ws kNe (vaS ws s) = true:=(st_ac kNe_n h1r).trans (eqW_rfl _)
    rw [e2,if_pos rfl,if_pos rfl]
    exact ⟨adv_one h1r,Or.inl ⟨rfl,rfl⟩⟩
  have h3:=st_val hT.1.rd hc
  unfold coS coN
  rw [e,if_neg (by simp),if_neg (by simp)]
  refine ⟨(h1.1.trans hT.1).trans h3.1,⟨rfl,?_⟩,rfl,rfl⟩
  rcases hT.2 with ⟨rfl,h9⟩ | ⟨rfl,h8⟩
  ·exact Or.inr (Or.inr ⟨rfl,h9,h1.2.up (hT.1.vs.trans h3.1.vs),h3.2⟩)
  ·exact Or.inr (Or.inl ⟨rfl,h8,h1.2.up (hT.1.vs.trans h3.1.vs),h3.2⟩)
theorem TI.up {vs vs' : List UInt8} {nd : Nd} {i : Ins} (h : TI vs nd i) (hp : vs <+: vs') : TI vs' nd i:=by
 obtain ⟨h0,h1⟩:=h
 refine ⟨h0,?_⟩
 rcases h1 with h1 | ⟨a,b,c,d⟩ | ⟨a,b,c,d⟩
 ·exact Or.inl h1
 ·exact Or.inr (Or.inl ⟨a,b,c.up hp,d.up hp⟩)
 ·exact Or.inr (Or.inr ⟨a,b,c.up hp,d.up hp⟩)
theorem SI.up {vs vs' : List UInt8} {nd : Nd} {i : Ins} (h : SI vs nd i) (hp : vs <+: vs') : SI vs' nd i:=by
 rcases h with ⟨a,b,c,d⟩ | ⟨a,b,c,d,e⟩ | ⟨a,b,c⟩ | ⟨a,b,c,d,e⟩ | ⟨a,b,c,d⟩ | ⟨a,b,c⟩ | h
 ·exact Or.inl ⟨a,b,c.up hp,d⟩
 ·exact Or.inr (Or.inl ⟨a,b,c.up hp,d,e.up hp⟩)
 ·exact Or.inr (Or.inr (Or.inl ⟨a,b,c.up hp⟩))
 ·exact Or.inr (Or.inr (Or.inr (Or.inl ⟨a,b,c.up hp,d,e.up hp⟩)))
 ·exact Or.inr (Or.inr (Or.inr (Or.inr (Or.inl ⟨a,b,c.up hp,d.up hp⟩))))
 ·exact Or.inr (Or.inr (Or.inr (Or.inr (Or.inr (Or.inl ⟨a,b,c.up hp⟩)))))
 ·exact Or.inr (Or.inr (Or.inr (Or.inr (Or.inr (Or.inr h)))))
theorem st_ts {ws : List ByteArray} {s : PS} {c q : List ByteArray} (hc : Cnd c) (h : Rd ws s (opW :: (c ++ clW :: q))) :
  Rd ws (tsS ws s) q ∧ s.vars <+: (tsS ws s).vars ∧ ∃ nd,(tsS ws s).nodes = s.nodes ++ [nd] ∧ nd.nx = s.nodes.length + 1 ∧ TI (tsS ws s).vars nd (rcI c):=by
 have h1:=st_ex kOpen_n h
 have h2:=st_co hc h1.rd
 have h3:=st_ex kClose_n h2.1.rd
 obtain ⟨g1,g2,g3⟩:=st_add (coN ws (exS ws kOpen s)) ((h1.trans h2.1).trans h3)
 exact ⟨g1,g3,_,g2,rfl,h2.2.1.up h3.vs⟩
def Laid (ws : List ByteArray) (s s' : PS) (q : List ByteArray) (nd : Nd) : Prop:=Rd ws s' q ∧ s.vars <+: s'.vars ∧ s'.nodes = s.nodes ++ [nd] ∧ nd.nx = s.nodes.length + 1
theorem st_semi {ws : List ByteArray} {s : PS} {q : List ByteArray} (h : Adv ws s (siS ws s) (seW :: q)) : Laid ws s (scS ws s) q { siN ws s with nx:=s.nodes.length + 1 }:=by
 obtain ⟨g1,g2,g3⟩:=st_add (siN ws s) (h.trans (st_ex kSemi_n h.rd))
 exact ⟨g1,g3,g2,rfl⟩
theorem semi_vs {ws : List ByteArray} {s : PS} {q : List ByteArray} (h : Adv ws s (siS ws s) (seW :: q)) : (siS ws s).vars <+: (scS ws s).vars:=(st_ex kSemi_n h.rd).vs
theorem low_skip {a : ByteArray} (h : lowB a = true) : eqW a skipW = false:=eqW_ne (low_ne h rfl)
theorem low_free {a : ByteArray} (h : lowB a = true) : eqW a freeW = false:=eqW_ne (low_ne h rfl)
theorem st_sc {ws : List ByteArray} {s : PS} {p q : List ByteArray} (hp : Sim p) (h : Rd ws s (p ++ seW :: q)) :
  ∃ nd i,Laid ws s (scS ws s) q nd ∧ rsI p = some i ∧ SI (scS ws s).vars nd i:=by
 cases hp using Sim.ind with
 | skip =>
  have e : acB ws kSkip s = true:=(st_ac kSkip_n h).trans (eqW_rfl _)
  have hA : Adv ws s (siS ws s) (seW :: q):=by unfold siS; rw [if_pos e]; exact adv_one h
  refine ⟨_,_,st_semi hA,(by show (if eqW skipW skipW = true then _ else _) = _; rw [if_pos (eqW_rfl _)]),?_⟩
  refine Or.inr (Or.inr (Or.inr (Or.inr (Or.inr (Or.inr ⟨rfl,?_⟩)))))
  show (siN ws s).op = 6
  unfold siN; rw [if_pos e]
 | @free b hb =>
  have e1 : acB ws kSkip s = false:=(st_ac kSkip_n h).trans free_skip
  have e2 : acB ws kFree s = true:=(st_ac kFree_n h).trans (eqW_rfl _)
  have h1:=adv_one h
  have h2:=st_va h1.rd hb
  have hA : Adv ws s (siS ws s) (seW :: q):=by unfold siS; rw [if_neg (by simp [e1]),if_pos e2]; exact h1.trans h2.1
  refine ⟨_,_,st_semi hA,(by show (if (eqW freeW freeW && lowB b) = true then _ else _) = _; rw [if_pos (by rw [eqW_rfl,hb]; rfl)]),?_⟩
  refine Or.inr (Or.inr (Or.inr (Or.inr (Or.inr (Or.inl ⟨rfl,?_,?_⟩)))))
  ·show (siN ws s).op = 5
   unfold siN; rw [if_neg (by simp [e1]),if_pos e2]
  ·show vIx _ b (siN ws s).v
   have ev : (siN ws s).v = vaI ws s.adv:=by unfold siN; rw [if_neg (by simp [e1]),if_pos e2]
   rw [ev]
   refine h2.2.up ?_
   have : (siS ws s).vars = (vaS ws s.adv).vars:=by unfold siS; rw [if_neg (by simp [e1]),if_pos e2]
   rw [← this]; exact semi_vs hA
 | @val a c ha hc =>
  have e1 : acB ws kSkip s = false:=(st_ac kSkip_n h).trans (low_skip ha)
  have e2 : acB ws kFree s = false:=(st_ac kFree_n h).trans (low_free ha)
  have h1:=st_va h ha
  have h1r : Rd ws (vaS ws s) (eqSW :: c :: seW :: q):=h1.1.rd
  have e3 : acB ws kDot (vaS ws s) = false:=(st_ac kDot_n h1r).trans eqS_dot
  have h2:=st_ex kEq_n h1r
  have eS : siS ws s = asS ws (exS ws kEq (vaS ws s)):=by unfold siS; rw [if_neg (by simp [e1]),if_neg (by simp [e2]),if_neg (by simp [e3])]
  have eN : siN ws s = asN ws (vaI ws s) (exS ws kEq (vaS ws s)):=by unfold siN; rw [if_neg (by simp [e1]),if_neg (by simp [e2]),if_neg (by simp [e3])]
  have hn : ∀ x,rsI [a,eqSW,x] = if (eqW x nilW || eqW x newW) = true then some ⟨x,a,em,em,0,false⟩ else if lowB x = true then some ⟨copyW,a,x,em,0,false⟩ else none:=by
   intro x
   show (if (lowB a && eqW eqSW eqSW) = true then _ else _) = _
   rw [if_pos (by rw [ha,eqW_rfl]; rfl)]
  rcases hc with rfl | hc
  ·have e4 : acB ws kNew (exS ws kEq (vaS ws s)) = true:=(st_ac kNew_n h2.rd).trans (eqW_rfl _)
   have hA : Adv ws s (siS ws s) (seW :: q):=by rw [eS]; unfold asS; rw [if_pos e4]; exact (h1.1.trans h2).trans (adv_one h2.rd)
   refine ⟨_,_,st_semi hA,(by rw [hn,if_pos (by rw [eqW_rfl]; simp)]),?_⟩
   have ev : siN ws s = ⟨4,vaI ws s,0,0,0,0⟩:=by rw [eN]; unfold asN; rw [if_pos e4]
   rw [ev]
   refine Or.inr (Or.inr (Or.inl ⟨rfl,rfl,h1.2.up ?_⟩))
   have : (siS ws s).vars = (exS ws kEq (vaS ws s)).vars:=by rw [eS]; unfold asS; rw [if_pos e4]; rfl
   exact (this ▸ h2.vs).trans (semi_vs hA)
  ·have hc' : eqW c newW = false:=by
    rcases hc with rfl | hc
    ·exact new_nil
    ·exact eqW_ne (low_ne hc rfl)
   have e4 : acB ws kNew (exS ws kEq (vaS ws s)) = false:=(st_ac kNew_n h2.rd).trans hc'
   have h3:=st_val h2.rd hc
   have e5 : asD ws (exS ws kEq (vaS ws s)) = false:=by unfold asD; rw [(st_ac kDot_n h3.1.rd).trans semi_dot,Bool.and_false]
   have eS2 : siS ws s = valS ws (exS ws kEq (vaS ws s)):=by rw [eS]; unfold asS; rw [if_neg (by simp [e4]),if_neg (by simp [e5])]
   have hA : Adv ws s (siS ws s) (seW :: q):=by rw [eS2]; exact (h1.1.trans h2).trans h3.1
   have ev : siN ws s = ⟨1,vaI ws s,valK ws (exS ws kEq (vaS ws s)),valI ws (exS ws kEq (vaS ws s)),0,0⟩:=by rw [eN]; unfold asN; rw [if_neg (by simp [e4]),if_neg (by simp [e5])]
   have hv1 : vIx (scS ws s).vars a (vaI ws s):=h1.2.up ((h2.vs.trans h3.1.vs).trans (by rw [← eS2]; exact semi_vs hA))
   have hv2:=h3.2.up (show (valS ws (exS ws kEq (vaS ws s))).vars <+: (scS ws s).vars by rw [← eS2]; exact semi_vs hA)
   rcases hc with rfl | hc
   ·refine ⟨_,_,st_semi hA,(by rw [hn,if_pos (by rw [eqW_rfl]; rfl)]),?_⟩
    rw [ev]
    have hk0 : valK ws (exS ws kEq (vaS ws s)) = 0:=by
     rcases hv2 with h0 | ⟨_,h0⟩
     ·exact h0.2
     ·exact absurd h0.1 (by rw [low_nil]; simp)
    exact Or.inl ⟨rfl,rfl,hv1,hk0⟩
   ·refine ⟨_,_,st_semi hA,(by rw [hn,if_neg (by rw [hc',eqW_ne (low_ne hc low_nil)]; simp),if_pos hc]),?_⟩
    rw [ev]
    rcases hv2 with h0 | ⟨h0,h00⟩
    ·exact absurd hc (by rw [h0.1,low_nil]; simp)
    ·exact Or.inr (Or.inl ⟨rfl,rfl,hv1,h0,h00⟩)
 | @load a c ha hc =>
  have e1 : acB ws kSkip s = false:=(st_ac kSkip_n h).trans (low_skip ha)
  have e2 : acB ws kFree s = false:=(st_ac kFree_n h).trans (low_free ha)
  have h1:=st_va h ha
  have h1r : Rd ws (vaS ws s) (eqSW :: c :: dotW :: nW :: seW :: q):=h1.1.rd
  have e3 : acB ws kDot (vaS ws s) = false:=(st_ac kDot_n h1r).trans eqS_dot
  have h2:=st_ex kEq_n h1r
  have eS : siS ws s = asS ws (exS ws kEq (vaS ws s)):=by unfold siS; rw [if_neg (by simp [e1]),if_neg (by simp [e2]),if_neg (by simp [e3])]
  have eN : siN ws s = asN ws (vaI ws s) (exS ws kEq (vaS ws s)):=by unfold siN; rw [if_neg (by simp [e1]),if_neg (by simp [e2]),if_neg (by simp [e3])]
  have e4 : acB ws kNew (exS ws kEq (vaS ws s)) = false:=(st_ac kNew_n h2.rd).trans (eqW_ne (low_ne hc rfl))
  have h3:=st_val h2.rd (Or.inr hc)
  have hk1 : valK ws (exS ws kEq (vaS ws s)) = 1:=by
   rcases h3.2 with h0 | h0
   ·exact absurd hc (by rw [h0.1,low_nil]; simp)
   ·exact h0.1
  have e5 : asD ws (exS ws kEq (vaS ws s)) = true:=by unfold asD; rw [hk1,st_ac kDot_n h3.1.rd]; rw [show eqW dotW kDot = true from eqW_rfl _]; rfl
  have h4:=adv_one h3.1.rd
  have h5:=st_ex kN_n h4.rd
  have eS2 : siS ws s = exS ws kN (valS ws (exS ws kEq (vaS ws s))).adv:=by rw [eS]; unfold asS; rw [if_neg (by simp [e4]),if_pos e5]
  have hA : Adv ws s (siS ws s) (seW :: q):=by rw [eS2]; exact (((h1.1.trans h2).trans h3.1).trans h4).trans h5
  have ev : siN ws s = ⟨2,vaI ws s,valK ws (exS ws kEq (vaS ws s)),valI ws (exS ws kEq (vaS ws s)),0,0⟩:=by rw [eN]; unfold asN; rw [if_neg (by simp [e4]),if_pos e5]
  have hfin : (valS ws (exS ws kEq (vaS ws s))).vars <+: (scS ws s).vars:=(h4.vs.trans h5.vs).trans (by rw [← eS2]; exact semi_vs hA)
  refine ⟨_,⟨loadW,a,c,em,0,false⟩,st_semi hA,?_,?_⟩
  ·show (if (lowB a && eqW eqSW eqSW && lowB c && eqW dotW dotW && eqW nW nW) = true then _ else _) = _
   rw [if_pos (by simp [ha,hc,eqW_rfl])]
  ·rw [ev]
   rcases h3.2 with h0 | ⟨h0,h00⟩
   ·exact absurd hc (by rw [h0.1,low_nil]; simp)
   ·exact Or.inr (Or.inr (Or.inr (Or.inl ⟨rfl,rfl,h1.2.up ((h2.vs.trans h3.1.vs).trans hfin),h0,h00.up hfin⟩)))
 | @store a e ha he =>
  have e1 : acB ws kSkip s = false:=(st_ac kSkip_n h).trans (low_skip ha)
  have e2 : acB ws kFree s = false:=(st_ac kFree_n h).trans (low_free ha)
  have h1:=st_va h ha
  have h1r : Rd ws (vaS ws s) (dotW :: nW :: eqSW :: e :: seW :: q):=h1.1.rd
  have e3 : acB ws kDot (vaS ws s) = true:=(st_ac kDot_n h1r).trans (eqW_rfl _)
  have h2:=adv_one h1r
  have h3:=st_ex kN_n h2.rd
  have h4:=st_ex kEq_n h3.rd
  have h5:=st_val h4.rd he
  have eS : siS ws s = valS ws (siL ws (vaS ws s)):=by unfold siS; rw [if_neg (by simp [e1]),if_neg (by simp [e2]),if_pos e3]
  have hA : Adv ws s (siS ws s) (seW :: q):=by rw [eS]; exact (((h1.1.trans h2).trans h3).trans h4).trans h5.1
  have ev : siN ws s = ⟨3,vaI ws s,valK ws (siL ws (vaS ws s)),valI ws (siL ws (vaS ws s)),0,0⟩:=by unfold siN; rw [if_neg (by simp [e1]),if_neg (by simp [e2]),if_pos e3]
  have hfin : (valS ws (siL ws (vaS ws s))).vars <+: (scS ws s).vars:=by rw [← eS]; exact semi_vs hA
  refine ⟨_,⟨storeW,a,e,em,0,false⟩,st_semi hA,?_,?_⟩
  ·show (if (lowB a && eqW dotW eqSW && lowB nW && eqW eqSW dotW && eqW e nW) = true then _ else if (lowB a && eqW dotW dotW && eqW nW nW && eqW eqSW eqSW && (lowB e || eqW e nilW)) = true then _ else _) = _
   rw [if_neg (by rw [dot_eq]; simp),if_pos]
   rcases he with rfl | he
   ·simp [ha,eqW_rfl]
   ·simp [ha,he,eqW_rfl]
  ·rw [ev]
   exact Or.inr (Or.inr (Or.inr (Or.inr (Or.inl ⟨rfl,rfl,h1.2.up ((((h2.vs.trans h3.vs).trans h4.vs).trans h5.1.vs).trans hfin),h5.2.up hfin⟩))))
def Both (ws : List ByteArray) (s s' : PS) (q : List ByteArray) (c c' : List Ins) : Prop :=
 Rd ws s' q ∧ s.vars <+: s'.vars ∧ ∃ N C,s'.nodes = s.nodes ++ N ∧ c' = c ++ C ∧ ∀ vs,s'.vars <+: vs → NIs vs c.length N C
theorem Both.trans {ws : List ByteArray} {s s' s'' : PS} {q q' : List ByteArray} {c c' c'' : List Ins} (h : Both ws s s' q c c') (k : Both ws s' s'' q' c' c'') : Both ws s s'' q' c c'':=by
 obtain ⟨-,hv,N,C,hN,hC,hR⟩:=h
 obtain ⟨kr,kv,N',C',kN,kC,kR⟩:=k
 refine ⟨kr,hv.trans kv,N ++ N',C ++ C',by rw [kN,hN,List.append_assoc],by rw [kC,hC,List.append_assoc],fun vs hvs=>?_⟩
 have h1:=hR vs (kv.trans hvs)
 refine h1.app ?_
 have h2:=kR vs hvs
 rw [hC,List.length_append,← h1.len] at h2
 exact h2
theorem Both.len {ws : List ByteArray} {s s' : PS} {q : List ByteArray} {c c' : List Ins} (hl : s.nodes.length = c.length) (h : Both ws s s' q c c') : s'.nodes.length = c'.length:=by
 obtain ⟨-,hv,N,C,hN,hC,hR⟩:=h
 rw [hN,hC,List.length_append,List.length_append,hl,(hR _ (List.prefix_refl _)).len]
theorem cmS_step {ws : List ByteArray} {c : PS → PS} {n : Nat} {s : PS} {x : ByteArray} {r : List ByteArray} (h : Rd ws s (x :: r)) (hx : x ≠ rbW) : cmS c ws (n + 1) s = cmS c ws n (c s):=by
 show (if (s.failed || acB ws kRB s) = true then s else cmS c ws n (c s)) = _
 rw [h.1,st_ac kRB_n h,show eqW x kRB = false from eqW_ne hx]
 rfl
theorem rbs_ctl {ctl : List ByteArray → List Ins → Option (List Ins × Nat)} {m n : Nat} {x : ByteArray} {r r' : List ByteArray} {c c' : List Ins} (hx : (eqW x ifW || eqW x whW) = true) (h : ctl (x :: r) c = some (c',n)) (hd : (x :: r).drop n = r') : rbs ctl (m + 1) (x :: r) c = rbs ctl m r' c':=by
 simp only [rbs]
 rw [if_pos hx,h]
 dsimp only
 rw [hd]
theorem setTo_at (A R : List Ins) (t : Ins) (k n : Nat) (h : k = A.length) : setTo k n (A ++ t :: R) = A ++ ⟨t.op,t.x,t.y,t.cond,n,t.head⟩ :: R:=modify_at' _ t R A h
theorem setOt_at (A R : List Nd) (t : Nd) (k n : Nat) (h : k = A.length) : setOt k n (A ++ t :: R) = A ++ { t with ot:=n } :: R:=modify_at' _ t R A h
theorem setNx_at (A R : List Nd) (t : Nd) (k n : Nat) (h : k = A.length) : setNx k n (A ++ t :: R) = A ++ { t with nx:=n } :: R:=modify_at' _ t R A h
theorem ti_ni {vs : List UInt8} {nd : Nd} {c : List ByteArray} {hd : Bool} {j n : Nat} (h : TI vs nd (rcI c)) (hx : nd.nx = j + 1) : NI vs j { nd with ot:=n } ⟨(rcI c).op,(rcI c).x,(rcI c).y,(rcI c).cond,n,hd⟩ :=
 Or.inr (Or.inl ⟨h,hx,rfl⟩)
theorem cs_both {b : List ByteArray} {k : Nat} (h : Blk b k) : ∀ (ws : List ByteArray) (f n g m : Nat) (q : List ByteArray) (s : PS) (c : List Ins),b.length < f → b.length < n → b.length ≤ g → b.length < m → hdB rbW q = true → Rd ws s (b ++ q) → s.nodes.length = c.length →
  ∃ c',rbs (rct (rbl g)) m b c = some c' ∧ Both ws s (cmS (cmB (blS ws f) ws) ws n s) q c c':=by
 induction h using Blk.ind with
 | nil =>
  intro ws f n g m q s c _ hn _ hm hq hr hl
  cases m with
  | zero=>simp at hm
  | succ m =>
   cases n with
   | zero=>simp at hn
   | succ n =>
    have e : cmS (cmB (blS ws f) ws) ws (n + 1) s = s:=by
     show (if (s.failed || acB ws kRB s) = true then s else _) = _
     rw [if_pos (by rw [acB_rd kRB_n hr]; rw [show hdB kRB ([] ++ q) = true from hq]; simp)]
    rw [e]
    exact ⟨c,rfl,hr,List.prefix_refl _,[],[],by simp,by simp,fun _ _=>trivial⟩
 | @sim p r k hp hr ih =>
  intro ws f n g m q s c hf hn hg hm hq hrd hl
  simp only [List.length_append,List.length_cons] at hf hn hg hm
  cases m with
  | zero=>omega
  | succ m =>
   cases n with
   | zero=>omega
   | succ n =>
    rw [show p ++ seW :: r ++ q = p ++ seW :: (r ++ q) by simp] at hrd
    obtain ⟨nd,i,⟨l1,l2,l3,l4⟩,hi,hS⟩:=st_sc hp hrd
    have hB : Both ws s (scS ws s) (r ++ q) c (c ++ [i]):=⟨l1,l2,[nd],[i],l3,rfl,fun vs hv=>⟨Or.inl ⟨hS.up hv,by rw [l4,hl]⟩,trivial⟩⟩
    obtain ⟨c',h1,h2⟩:=ih ws f n g m q (scS ws s) (c ++ [i]) (by omega) (by omega) (by omega) (by omega) hq l1 (hB.len hl)
    have hfn:=fnd_at (sim_se hp) r
    have hx1:=sim_if hp
    have hx2:=sim_wh hp
    have hx3:=sim_rb hp
    have htk : (p ++ seW :: r).take p.length = p:=List.take_left
    have hdr : (p ++ seW :: r).drop (p.length + 1) = r:=by simp
    have hne : ¬ fndL (p ++ seW :: r) seW = (p ++ seW :: r).length:=by rw [hfn]; simp only [List.length_append,List.length_cons]; omega
    obtain ⟨x,t,e⟩:=sim_cons hp
    have ex : p ++ seW :: r = x :: (t ++ seW :: r):=by rw [e]; rfl
    have hnx : ¬ (eqW x ifW || eqW x whW) = true:=by rw [eqW_ne (hx1 x (by rw [e]; simp)),eqW_ne (hx2 x (by rw [e]; simp))]; simp
    have hrd2 : Rd ws s (x :: (t ++ seW :: (r ++ q))):=by rw [e] at hrd; exact hrd
    refine ⟨c',?_,?_⟩
    ·rw [ex]
     simp only [rbs]
     rw [if_neg hnx,← ex,if_neg hne,hfn,htk,hi,hdr]
     exact h1
    ·rw [cmS_step hrd2 (hx3 x (by rw [e]; simp))]
     have ec : cmB (blS ws f) ws s = scS ws s:=by
      unfold cmB
      rw [st_ac kIf_n hrd2,st_ac kWhile_n hrd2,show eqW x kIf = false from eqW_ne (hx1 x (by rw [e]; simp)),show eqW x kWhile = false from eqW_ne (hx2 x (by rw [e]; simp))]
      rfl
     rw [ec]
     exact hB.trans h2
 | @whl d b r j k hd hb hr ihb ihr =>
  intro ws f n g m q s c hf hn hg hm hq hrd hl
  simp only [List.length_append,List.length_cons] at hf hn hg hm
  cases m with
  | zero=>omega
  | succ m =>
   cases n with
   | zero=>omega
   | succ n =>
    cases f with
    | zero=>omega
    | succ f =>
     cases g with
     | zero=>omega
     | succ g =>
      have e : (whW :: opW :: (d ++ clW :: lbW :: (b ++ rbW :: r))) ++ q = whW :: opW :: (d ++ clW :: lbW :: (b ++ rbW :: (r ++ q))):=by simp
      rw [e] at hrd
      have a1:=st_ex kWhile_n hrd
      obtain ⟨t1,t2,nd,t3,t4,t5⟩:=st_ts hd a1.rd
      rw [a1.nd] at t3 t4
      have hws : b.length < ws.length + 2:=by
       have h1:=congrArg List.length hrd.2.1
       simp only [List.length_drop,List.length_append,List.length_cons] at h1
       omega
      have a2:=st_ex kLB_n t1
      obtain ⟨c2,h1,hB1⟩:=ihb ws f (ws.length + 2) g (b.length + 1) (rbW :: (r ++ q)) (exS ws kLB (tsS ws (exS ws kWhile s))) (c ++ [{ rcI d with head:=eqW whW whW }]) (by omega) hws (by omega) (by omega) (eqW_rfl _) a2.rd (by rw [a2.nd,t3]; simp [hl])
      obtain ⟨b1,b2,N,C,b3,b4,b5⟩:=hB1
      have a3:=st_ex kRB_n b1
      have eA : loA (blS ws (f + 1)) ws s = exS ws kRB (cmS (cmB (blS ws f) ws) ws (ws.length + 2) (exS ws kLB (tsS ws (exS ws kWhile s)))):=rfl
      rw [← eA] at a3
      have eN : (loA (blS ws (f + 1)) ws s).nodes = s.nodes ++ nd :: N:=by rw [a3.nd,b3,a2.nd,t3]; simp
      have eV : (tsS ws (exS ws kWhile s)).vars <+: (loA (blS ws (f + 1)) ws s).vars:=(a2.vs.trans b2).trans a3.vs
      have hNl:=(b5 _ (List.prefix_refl _)).len
      have h2 : rct (rbl (g + 1)) (whW :: opW :: (d ++ clW :: lbW :: (b ++ rbW :: r))) c = some (setTo c.length (c2.length + 1) (c2 ++ [gt c.length]),d.length + 5 + b.length):=by
       rw [rct_two wh_cl hd (clo_blkEnd hb r),show rbl (g + 1) b (c ++ [{ rcI d with head:=eqW whW whW }]) = some c2 from h1]
       dsimp only
       rw [if_pos (eqW_rfl _)]
      have hdr : (whW :: opW :: (d ++ clW :: lbW :: (b ++ rbW :: r))).drop (d.length + 5 + b.length) = r:=by
       rw [show d.length + 5 + b.length = d.length + 4 + (b.length + 1 + 0) by omega,drop_hd,drop_bl]; rfl
      have eC : setTo c.length (c2.length + 1) (c2 ++ [gt c.length]) = c ++ ⟨(rcI d).op,(rcI d).x,(rcI d).y,(rcI d).cond,c2.length + 1,eqW whW whW⟩ :: (C ++ [gt c.length]):=by
       rw [b4,List.append_assoc,List.append_assoc]
       exact setTo_at c (C ++ [gt c.length]) _ _ _ rfl
      have eS : (loS (blS ws (f + 1)) ws s).nodes = s.nodes ++ { nd with ot:=c2.length + 1 } :: (N ++ [{ jmp with nx:=c.length }]):=by
       show setOt s.nodes.length (addS jmp (loA (blS ws (f + 1)) ws s)).nodes.length (setNx (loA (blS ws (f + 1)) ws s).nodes.length s.nodes.length (addS jmp (loA (blS ws (f + 1)) ws s)).nodes) = _
       have e1 : (addS jmp (loA (blS ws (f + 1)) ws s)).nodes = (s.nodes ++ nd :: N) ++ { jmp with nx:=(s.nodes ++ nd :: N).length + 1 } :: []:=by
        show (loA (blS ws (f + 1)) ws s).nodes ++ [_] = _
        rw [eN]
       have e2 : setNx (s.nodes ++ nd :: N).length s.nodes.length ((s.nodes ++ nd :: N) ++ { jmp with nx:=(s.nodes ++ nd :: N).length + 1 } :: []) = s.nodes ++ nd :: (N ++ [{ jmp with nx:=s.nodes.length }]):=by
        rw [setNx_at _ _ _ _ _ rfl]; simp
       rw [e1,eN,e2,setOt_at _ _ _ _ _ rfl,b4]
       simp only [List.length_append,List.length_cons,List.length_nil,hl,hNl]
       have e3 : c.length + (C.length + 1) + (0 + 1) = c.length + (0 + 1) + C.length + 1:=by omega
       rw [e3]
      have hB : Both ws s (loS (blS ws (f + 1)) ws s) (r ++ q) c (setTo c.length (c2.length + 1) (c2 ++ [gt c.length])):=by
       refine ⟨a3.rd,(a1.vs.trans t2).trans eV,_,_,eS,eC,fun vs hv=>?_⟩
       have hv1 : (loA (blS ws (f + 1)) ws s).vars <+: vs:=hv
       refine ⟨ti_ni (t5.up (eV.trans hv1)) (by rw [t4,hl]),?_⟩
       have h5:=b5 vs (a3.vs.trans hv1)
       rw [List.length_append,List.length_cons,List.length_nil] at h5
       exact h5.app ⟨Or.inr (Or.inr ⟨rfl,rfl,rfl⟩),trivial⟩
      obtain ⟨c',h3,h4⟩:=ihr ws (f + 1) n (g + 1) m q (loS (blS ws (f + 1)) ws s) _ (by omega) (by omega) (by omega) (by omega) hq a3.rd (hB.len hl)
      refine ⟨c',?_,?_⟩
      ·rw [rbs_ctl (by rw [eqW_rfl]; simp) h2 hdr]; exact h3
      ·rw [cmS_step hrd wh_b2]
       have ec : cmB (blS ws (f + 1)) ws s = loS (blS ws (f + 1)) ws s:=by
        unfold cmB
        rw [st_ac kIf_n hrd,st_ac kWhile_n hrd,show eqW whW kIf = false from wh_if,show eqW whW kWhile = true from eqW_rfl _]
        rfl
       rw [ec]
       exact hB.trans h4
 | @ife d b r j k hd hb hr ihb ihr =>
  intro ws f n g m q s c hf hn hg hm hq hrd hl
  simp only [List.length_append,List.length_cons] at hf hn hg hm
  cases m with
  | zero=>omega
  | succ m =>
   cases n with
   | zero=>omega
   | succ n =>
    cases f with
    | zero=>omega
    | succ f =>
     cases g with
     | zero=>omega
     | succ g =>
      have e : (ifW :: opW :: (d ++ clW :: lbW :: (b ++ rbW :: r))) ++ q = ifW :: opW :: (d ++ clW :: lbW :: (b ++ rbW :: (r ++ q))):=by simp
      rw [e] at hrd
      have a1:=st_ex kIf_n hrd
      obtain ⟨t1,t2,nd,t3,t4,t5⟩:=st_ts hd a1.rd
      rw [a1.nd] at t3 t4
      have hws : b.length < ws.length + 2:=by
       have h1:=congrArg List.length hrd.2.1
       simp only [List.length_drop,List.length_append,List.length_cons] at h1
       omega
      have a2:=st_ex kLB_n t1
      obtain ⟨c2,h1,hB1⟩:=ihb ws f (ws.length + 2) g (b.length + 1) (rbW :: (r ++ q)) (exS ws kLB (tsS ws (exS ws kIf s))) (c ++ [{ rcI d with head:=eqW ifW whW }]) (by omega) hws (by omega) (by omega) (eqW_rfl _) a2.rd (by rw [a2.nd,t3]; simp [hl])
      obtain ⟨b1,b2,N,C,b3,b4,b5⟩:=hB1
      have a3:=st_ex kRB_n b1
      have eA : brA (blS ws (f + 1)) ws s = exS ws kRB (cmS (cmB (blS ws f) ws) ws (ws.length + 2) (exS ws kLB (tsS ws (exS ws kIf s)))):=rfl
      rw [← eA] at a3
      have eN : (brA (blS ws (f + 1)) ws s).nodes = s.nodes ++ nd :: N:=by rw [a3.nd,b3,a2.nd,t3]; simp
      have eV : (tsS ws (exS ws kIf s)).vars <+: (brA (blS ws (f + 1)) ws s).vars:=(a2.vs.trans b2).trans a3.vs
      have hNl:=(b5 _ (List.prefix_refl _)).len
      have h2 : rct (rbl (g + 1)) (ifW :: opW :: (d ++ clW :: lbW :: (b ++ rbW :: r))) c = some (setTo c.length c2.length c2,d.length + 5 + b.length):=by
       rw [rct_two if_cl hd (clo_blkEnd hb r),show rbl (g + 1) b (c ++ [{ rcI d with head:=eqW ifW whW }]) = some c2 from h1]
       dsimp only
       rw [if_neg (by rw [if_wh]; simp)]
       unfold rcEl
       have he : hdB elW r = false:=by have:=blk_el hr (q:=[]) rfl; rwa [List.append_nil] at this
       rw [he,if_neg (by simp)]
      have hdr : (ifW :: opW :: (d ++ clW :: lbW :: (b ++ rbW :: r))).drop (d.length + 5 + b.length) = r:=by
       rw [show d.length + 5 + b.length = d.length + 4 + (b.length + 1 + 0) by omega,drop_hd,drop_bl]; rfl
      have eC : setTo c.length c2.length c2 = c ++ ⟨(rcI d).op,(rcI d).x,(rcI d).y,(rcI d).cond,c2.length,eqW ifW whW⟩ :: C:=by
       rw [b4,List.append_assoc]
       exact setTo_at c C _ _ _ rfl
      have hel : acB ws kElse (brA (blS ws (f + 1)) ws s) = false:=by
       rw [acB_rd kElse_n a3.rd]
       have hq2 : hdB elW q = false:=by rw [hdB_some hq]; exact rb_el
       exact blk_el hr hq2
      have eB : brS (blS ws (f + 1)) ws s = { brA (blS ws (f + 1)) ws s with nodes:=setOt s.nodes.length (brA (blS ws (f + 1)) ws s).nodes.length (brA (blS ws (f + 1)) ws s).nodes }:=by
       unfold brS; rw [if_neg (by simp [hel])]
      have eS : (brS (blS ws (f + 1)) ws s).nodes = s.nodes ++ { nd with ot:=c2.length } :: N:=by
       rw [eB]
       show setOt s.nodes.length (brA (blS ws (f + 1)) ws s).nodes.length (brA (blS ws (f + 1)) ws s).nodes = _
       rw [eN,setOt_at _ _ _ _ _ rfl,b4]
       simp only [List.length_append,List.length_cons,List.length_nil,hl,hNl]
       congr 3
       omega
      have hRd : Rd ws (brS (blS ws (f + 1)) ws s) (r ++ q):=by rw [eB]; exact a3.rd
      have hB : Both ws s (brS (blS ws (f + 1)) ws s) (r ++ q) c (setTo c.length c2.length c2):=by
       refine ⟨hRd,by rw [eB]; exact (a1.vs.trans t2).trans eV,_,_,eS,eC,fun vs hv=>?_⟩
       have hv1 : (brA (blS ws (f + 1)) ws s).vars <+: vs:=by rw [eB] at hv; exact hv
       refine ⟨ti_ni (t5.up (eV.trans hv1)) (by rw [t4,hl]),?_⟩
       have h5:=b5 vs (a3.vs.trans hv1)
       rw [List.length_append,List.length_cons,List.length_nil] at h5
       exact h5
      obtain ⟨c',h3,h4⟩:=ihr ws (f + 1) n (g + 1) m q (brS (blS ws (f + 1)) ws s) _ (by omega) (by omega) (by omega) (by omega) hq hRd (hB.len hl)
      refine ⟨c',?_,?_⟩
      ·rw [rbs_ctl (by rw [eqW_rfl]; simp) h2 hdr]; exact h3
      ·rw [cmS_step hrd if_b2]
       have ec : cmB (blS ws (f + 1)) ws s = brS (blS ws (f + 1)) ws s:=by
        unfold cmB
        rw [st_ac kIf_n hrd,show eqW ifW kIf = true from eqW_rfl _]
        rfl
       rw [ec]
       exact hB.trans h4
 | @ifl d b e r j i k hd hb he hr ihb ihe ihr =>
  intro ws f n g m q s c hf hn hg hm hq hrd hl
  simp only [List.length_append,List.length_cons] at hf hn hg hm
  cases m with
  | zero=>omega
  | succ m =>
   cases n with
   | zero=>omega
   | succ n =>
    cases f with
    | zero=>omega
    | succ f =>
     cases g with
     | zero=>omega
     | succ g =>
      have e0 : (ifW :: opW :: (d ++ clW :: lbW :: (b ++ rbW :: elW :: lbW :: (e ++ rbW :: r)))) ++ q = ifW :: opW :: (d ++ clW :: lbW :: (b ++ rbW :: elW :: lbW :: (e ++ rbW :: (r ++ q)))):=by simp
      rw [e0] at hrd
      have a1:=st_ex kIf_n hrd
      obtain ⟨t1,t2,nd,t3,t4,t5⟩:=st_ts hd a1.rd
      rw [a1.nd] at t3 t4
      have hws : b.length < ws.length + 2 ∧ e.length < ws.length + 2:=by
       have h1:=congrArg List.length hrd.2.1
       simp only [List.length_drop,List.length_append,List.length_cons] at h1
       omega
      have a2:=st_ex kLB_n t1
      obtain ⟨c2,h1,hB1⟩:=ihb ws f (ws.length + 2) g (b.length + 1) (rbW :: elW :: lbW :: (e ++ rbW :: (r ++ q))) (exS ws kLB (tsS ws (exS ws kIf s))) (c ++ [{ rcI d with head:=eqW ifW whW }]) (by omega) hws.1 (by omega) (by omega) (eqW_rfl _) a2.rd (by rw [a2.nd,t3]; simp [hl])
      obtain ⟨b1,b2,N,C,b3,b4,b5⟩:=hB1
      have a3:=st_ex kRB_n b1
      have eA : brA (blS ws (f + 1)) ws s = exS ws kRB (cmS (cmB (blS ws f) ws) ws (ws.length + 2) (exS ws kLB (tsS ws (exS ws kIf s)))):=rfl
      rw [← eA] at a3
      have eN : (brA (blS ws (f + 1)) ws s).nodes = s.nodes ++ nd :: N:=by rw [a3.nd,b3,a2.nd,t3]; simp
      have eV : (tsS ws (exS ws kIf s)).vars <+: (brA (blS ws (f + 1)) ws s).vars:=(a2.vs.trans b2).trans a3.vs
      have hNl:=(b5 _ (List.prefix_refl _)).len
      have hc2l : c2.length = c.length + 1 + N.length:=by rw [b4,hNl]; simp; omega
      -- the node ahead of the second block
      have eB : (brB s.nodes.length (brA (blS ws (f + 1)) ws s)).nodes = s.nodes ++ { nd with ot:=c2.length + 1 } :: (N ++ [{ jmp with nx:=c2.length + 1 }]):=by
       show setOt s.nodes.length (addS jmp (brA (blS ws (f + 1)) ws s).adv).nodes.length (addS jmp (brA (blS ws (f + 1)) ws s).adv).nodes = _
       have e1 : (addS jmp (brA (blS ws (f + 1)) ws s).adv).nodes = s.nodes ++ nd :: (N ++ [{ jmp with nx:=(s.nodes ++ nd :: N).length + 1 }]):=by
        show (brA (blS ws (f + 1)) ws s).nodes ++ [{ jmp with nx:=(brA (blS ws (f + 1)) ws s).nodes.length + 1 }] = _
        rw [eN]; simp
       rw [e1,setOt_at _ _ _ _ _ rfl,hc2l]
       simp only [List.length_append,List.length_cons,List.length_nil,hl]
       have e2 : c.length + (N.length + 1) = c.length + 1 + N.length:=by omega
       have e3 : c.length + (N.length + (0 + 1) + 1) = c.length + 1 + N.length + 1:=by omega
       rw [e2,e3]
      have eC1 : setTo c.length (c2.length + 1) (c2 ++ [gt 0]) = c ++ ⟨(rcI d).op,(rcI d).x,(rcI d).y,(rcI d).cond,c2.length + 1,eqW ifW whW⟩ :: (C ++ [gt 0]):=by
       have : c2 ++ [gt 0] = c ++ { rcI d with head:=eqW ifW whW } :: (C ++ [gt 0]):=by rw [b4]; simp
       rw [this]
       exact setTo_at c (C ++ [gt 0]) _ _ _ rfl
      have hel : acB ws kElse (brA (blS ws (f + 1)) ws s) = true:=(acB_rd kElse_n a3.rd).trans (eqW_rfl _)
      have hRb : Rd ws (brB s.nodes.length (brA (blS ws (f + 1)) ws s)) (lbW :: (e ++ rbW :: (r ++ q))):=adv_rd a3.rd
      have a4:=st_ex kLB_n hRb
      obtain ⟨c7,h5,hB5⟩:=ihe ws f (ws.length + 2) g (e.length + 1) (rbW :: (r ++ q)) (exS ws kLB (brB s.nodes.length (brA (blS ws (f + 1)) ws s))) (setTo c.length (c2.length + 1) (c2 ++ [gt 0])) (by omega) hws.2 (by omega) (by omega) (eqW_rfl _) a4.rd (by rw [a4.nd,eB,eC1]; simp [hl,hNl])
      obtain ⟨d1,d2,N2,C2,d3,d4,d5⟩:=hB5
      have a5:=st_ex kRB_n d1
      have eBl : blS ws (f + 1) (brB s.nodes.length (brA (blS ws (f + 1)) ws s)) = exS ws kRB (cmS (cmB (blS ws f) ws) ws (ws.length + 2) (exS ws kLB (brB s.nodes.length (brA (blS ws (f + 1)) ws s)))):=rfl
      rw [← eBl] at a5
      have hN2l:=(d5 _ (List.prefix_refl _)).len
      have hc7l : c7.length = c2.length + 1 + N2.length:=by rw [d4,eC1,hN2l,hc2l,hNl]; simp; omega
      have eS0 : brS (blS ws (f + 1)) ws s = brC (brA (blS ws (f + 1)) ws s).nodes.length (blS ws (f + 1) (brB s.nodes.length (brA (blS ws (f + 1)) ws s))):=by unfold brS; rw [if_pos hel]
      have eN5 : (blS ws (f + 1) (brB s.nodes.length (brA (blS ws (f + 1)) ws s))).nodes = (s.nodes ++ { nd with ot:=c2.length + 1 } :: N) ++ { jmp with nx:=c2.length + 1 } :: N2:=by
       rw [a5.nd,d3,a4.nd,eB]; simp
      have eS : (brS (blS ws (f + 1)) ws s).nodes = s.nodes ++ { nd with ot:=c2.length + 1 } :: (N ++ { jmp with nx:=c7.length } :: N2):=by
       rw [eS0]
       show setNx (brA (blS ws (f + 1)) ws s).nodes.length (blS ws (f + 1) (brB s.nodes.length (brA (blS ws (f + 1)) ws s))).nodes.length (blS ws (f + 1) (brB s.nodes.length (brA (blS ws (f + 1)) ws s))).nodes = _
       rw [eN5,setNx_at _ _ _ _ _ (by rw [eN]; simp),hc7l,hc2l]
       simp only [List.length_append,List.length_cons,List.append_assoc,List.cons_append,hl]
       have e2 : c.length + (N.length + (N2.length + 1) + 1) = c.length + 1 + N.length + 1 + N2.length:=by omega
       rw [e2]
      have eC : setTo c2.length c7.length c7 = c ++ ⟨(rcI d).op,(rcI d).x,(rcI d).y,(rcI d).cond,c2.length + 1,eqW ifW whW⟩ :: (C ++ gt c7.length :: C2):=by
       have e1 : c7 = (c ++ ⟨(rcI d).op,(rcI d).x,(rcI d).y,(rcI d).cond,c2.length + 1,eqW ifW whW⟩ :: C) ++ gt 0 :: C2:=by
        rw [d4,eC1]; simp
       have e2 : setTo c2.length c7.length ((c ++ ⟨(rcI d).op,(rcI d).x,(rcI d).y,(rcI d).cond,c2.length + 1,eqW ifW whW⟩ :: C) ++ gt 0 :: C2) = (c ++ ⟨(rcI d).op,(rcI d).x,(rcI d).y,(rcI d).cond,c2.length + 1,eqW ifW whW⟩ :: C) ++ gt c7.length :: C2:=setTo_at _ _ _ _ _ (by rw [b4]; simp)
       rw [← e1] at e2
       rw [e2]; simp
      have h2 : rct (rbl (g + 1)) (ifW :: opW :: (d ++ clW :: lbW :: (b ++ rbW :: elW :: lbW :: (e ++ rbW :: r)))) c = some (setTo c2.length c7.length c7,d.length + 5 + b.length + 3 + e.length):=by
       rw [rct_two if_cl hd (clo_blkEnd hb _),show rbl (g + 1) b (c ++ [{ rcI d with head:=eqW ifW whW }]) = some c2 from h1]
       dsimp only
       rw [if_neg (by rw [if_wh]; simp)]
       show (if hdB elW (elW :: lbW :: (e ++ rbW :: r)) = true then (if hdB lbW (lbW :: (e ++ rbW :: r)) = true then (match clo 1 (e ++ rbW :: r) with | none=>none | some i=>match rbl (g + 1) ((e ++ rbW :: r).take i) (setTo c.length (c2.length + 1) (c2 ++ [gt 0])) with | none=>none | some c7=>some (setTo c2.length c7.length c7,d.length + 5 + b.length + 3 + i)) else none) else _) = _
       rw [if_pos (show hdB elW (elW :: lbW :: (e ++ rbW :: r)) = true from eqW_rfl _),if_pos (show hdB lbW (lbW :: (e ++ rbW :: r)) = true from eqW_rfl _),clo_blkEnd he r]
       dsimp only
       rw [List.take_left,show rbl (g + 1) e (setTo c.length (c2.length + 1) (c2 ++ [gt 0])) = some c7 from h5]
      have hdr : (ifW :: opW :: (d ++ clW :: lbW :: (b ++ rbW :: elW :: lbW :: (e ++ rbW :: r)))).drop (d.length + 5 + b.length + 3 + e.length) = r:=by
       rw [show d.length + 5 + b.length + 3 + e.length = d.length + 4 + (b.length + 1 + (e.length + 1 + 0 + 2)) by omega,drop_hd,drop_bl]
       simp only [List.drop_succ_cons]
       exact drop_bl _ _ 0
      have hRd : Rd ws (brS (blS ws (f + 1)) ws s) (r ++ q):=by rw [eS0]; exact a5.rd
      have eV5 : (brA (blS ws (f + 1)) ws s).vars <+: (blS ws (f + 1) (brB s.nodes.length (brA (blS ws (f + 1)) ws s))).vars:=(a4.vs.trans d2).trans a5.vs
      have hB : Both ws s (brS (blS ws (f + 1)) ws s) (r ++ q) c (setTo c2.length c7.length c7):=by
       refine ⟨hRd,by rw [eS0]; exact ((a1.vs.trans t2).trans eV).trans eV5,_,_,eS,eC,fun vs hv=>?_⟩
       have hv5 : (blS ws (f + 1) (brB s.nodes.length (brA (blS ws (f + 1)) ws s))).vars <+: vs:=by rw [eS0] at hv; exact hv
       have hv1:=eV5.trans hv5
       refine ⟨ti_ni (t5.up (eV.trans hv1)) (by rw [t4,hl]),?_⟩
       have g5:=b5 vs (a3.vs.trans hv1)
       rw [List.length_append,List.length_cons,List.length_nil] at g5
       refine g5.app ⟨Or.inr (Or.inr ⟨rfl,rfl,rfl⟩),?_⟩
       have g6:=d5 vs (a5.vs.trans hv5)
       rw [eC1] at g6
       simp only [List.length_append,List.length_cons,List.length_nil] at g6
       rw [show c.length + (C.length + (0 + 1) + 1) = c.length + 1 + N.length + 1 by omega] at g6
       exact g6
      obtain ⟨c',h3,h4⟩:=ihr ws (f + 1) n (g + 1) m q (brS (blS ws (f + 1)) ws s) _ (by omega) (by omega) (by omega) (by omega) hq hRd (hB.len hl)
      refine ⟨c',?_,?_⟩
      ·rw [rbs_ctl (by rw [eqW_rfl]; simp) h2 hdr]; exact h3
      ·rw [cmS_step hrd if_b2]
       have ec : cmB (blS ws (f + 1)) ws s = brS (blS ws (f + 1)) ws s:=by
        unfold cmB
        rw [st_ac kIf_n hrd,show eqW ifW kIf = true from eqW_rfl _]
        rfl
       rw [ec]
       exact hB.trans h4
end Go.Proofs.YtciihepbeacppaaGreat
