import Derived.Test.YtciihepbeacppaaGreatM00
import Derived.Test.YtciihepbeacppaaGreatM11
import Derived.Test.YtciihepbeacppaaGreatM09
namespace Go.Proofs.YtciihepbeacppaaGreat
open Go.RowKit
set_option linter.unusedVariables false
structure Out where
 nx:List CF
 ot:List CF
 nu:Bool
 da:Bool
 fu:Bool
def out0:Out:=⟨[],[],false,false,false⟩
def clT (f:CF) (k i:Nat):Nat:=if k = 1 then f.cl.getD (1 + i) 0 else f.cl.getD 0 0
def setC (f:CF) (i c:Nat):CF:={ f with cl:=f.cl.set i c }
def layF (f:CF) (p:Pr):CF:={ f with ow:=f.ow ++ [p] }
def parF (f:CF) (a b:Nat):CF:={ f with ap:=f.ap ++ [⟨2,a,b⟩] }
def setO (f:CF) (i:Nat) (p:Pr):CF:={ f with ow:=f.ow.set i p }
def takF (f:CF) (i:Nat):CF:={ f with ow:=tkO f.ow i }
def owA (f:CF) (i:Nat):Pr:=f.ow.getD i pr0
def meF1 (f:CF) (c i:Nat):CF:=joF f (owA f i).l c
def meF2 (f:CF) (c i:Nat):CF:=layF (setO f i ⟨(owA f i).k,(owA f i).l,c⟩) ⟨4,c,(owA f i).r⟩
def meF (f:CF) (c i:Nat):List CF:=(if difB f c (owA f i).l = true then [] else [meF1 f c i]) ++ (if (owA f i).k = 4 then [meF2 f c i] else [])
def fiF1 (f:CF) (i:Nat):CF:=setO f i ⟨3,(owA f i).l,(owA f i).r⟩
def fiF2 (f:CF) (c i:Nat):CF:=layF (setO f i ⟨3,c,namF f⟩) ⟨4,namF f,(owA f i).r⟩
def fiI (f:CF) (c i:Nat):List CF × Bool:=if (owA f i).k = 3 then ([f],false) else if 24≤namF f then ([fiF1 f i],true) else ([fiF1 f i,fiF2 f c i],false)
def fiF (f:CF) (c:Nat):List CF × Bool:=match bgn f.ow c with | none=>([],false) | some i=>fiI f c i
def fiA (r:List CF × Bool) (g:CF) (c:Nat):List CF × Bool:=(r.1 ++ (fiF g c).1,r.2 || (fiF g c).2)
def opG (f:CF) (v i:Nat) (r:List CF × Bool):List CF × Bool:=(meF f (f.cl.getD (1 + v) 0) i).foldl (fun r g=>fiA r g (g.cl.getD (1 + v) 0)) r
def opF (f:CF) (v:Nat):List CF × Bool × Bool × Bool :=
 if f.cl.getD (1 + v) 0 = f.cl.getD 0 0 then ([],true,false,false)
 else if (bgn f.ow (f.cl.getD (1 + v) 0)).isSome = true then ((fiF f (f.cl.getD (1 + v) 0)).1,false,false,(fiF f (f.cl.getD (1 + v) 0)).2)
 else
  let r:=(List.range f.ow.length).foldl (fun r i=>opG f v i r) ([],false)
  (r.1,!difB f (f.cl.getD (1 + v) 0) (f.cl.getD 0 0),true,r.2)
def bgI (f:CF) (c:Nat):Nat:=(bgn f.ow c).getD 0
def folG (g:CF) (n:Nd):CF:=setC g (1 + n.v) (owA g (bgI g (g.cl.getD (1 + n.ai) 0))).r
def liG (g:CF) (n:Nd):CF:=let i:=bgI g (g.cl.getD (1 + n.v) 0);setO g i ⟨(owA g i).k,(owA g i).l,clT g n.ak n.ai⟩
def frG (g:CF) (v:Nat):CF :=
 let c:=g.cl.getD (1 + v) 0
 let t:=takF g (bgI g c)
 t.ow.foldl (fun h p=>parF h c p.l) (parF t c (t.cl.getD 0 0))
def crG (f:CF) (v:Nat):CF:=setC (layF f ⟨3,namF f,f.cl.getD 0 0⟩) (1 + v) (namF f)
def ofOpen (r:List CF × Bool × Bool × Bool) (g:CF→CF):Out:=⟨r.1.map (fun x=>tdF (g x)),[],r.2.1,r.2.2.1,r.2.2.2⟩
def cmO (f:CF) (n:Nd):List CF × List CF :=
 let a:=f.cl.getD (1 + n.v) 0
 let b:=clT f n.ak n.ai
 (if difB f a b = true then [] else [tdF (joF f a b)],if a = b then [] else [tdF (parF f a b)])
def efO (n:Nd) (f:CF):Out :=
 if n.op = 0 then out0
 else if n.op = 1 then ⟨[tdF (setC f (1 + n.v) (clT f n.ak n.ai))],[],false,false,false⟩
 else if n.op = 2 then ofOpen (opF f n.ai) (fun g=>folG g n)
 else if n.op = 3 then ofOpen (opF f n.v) (fun g=>liG g n)
 else if n.op = 4 then (if 24≤namF f then ⟨[],[],false,false,true⟩ else ⟨[tdF (crG f n.v)],[],false,false,false⟩)
 else if n.op = 5 then ofOpen (opF f n.v) (fun g=>frG g n.v)
 else if n.op = 7 then ⟨[tdF f],[tdF f],false,false,false⟩
 else if n.op = 8 then ⟨(cmO f n).1,(cmO f n).2,false,false,false⟩
 else if n.op = 9 then ⟨(cmO f n).2,(cmO f n).1,false,false,false⟩
 else ⟨[tdF f],[],false,false,false⟩
theorem clL_get {f:CF} {i:Nat} (hi:i < 5):f.cl.getD i 0∈clL f:=by
 have:i = 0∨i = 1∨i = 2∨i = 3∨i = 4:=by omega
 rcases this with rfl | rfl | rfl | rfl | rfl <;> simp [clL]
theorem clL_iff {f:CF} (h5:f.cl.length = 5):clL f = f.cl:=by
 match hc:f.cl,h5 with
 | [a,b,c,d,e],_=>simp [clL,hc]
theorem FoOk.mk' {f:CF} (c5:f.cl.length = 5) (cl:∀ c∈f.cl,c < 24) (ow:∀ p∈f.ow,p.l < 24∧p.r < 24) (ap:∀ p∈f.ap,p.l < 24∧p.r < 24) (lf:LfN f.ow) (kd:∀ p∈f.ap,p.k = 2):FoOk f:=⟨c5,by rw [clL_iff c5];exact cl,ow,ap,lf,kd⟩
theorem FoOk.cl' {f:CF} (h:FoOk f):∀ c∈f.cl,c < 24:=by rw [← clL_iff h.c5];exact h.cl
theorem FoOk.get {f:CF} (h:FoOk f) (i:Nat):f.cl.getD i 0 < 24:=by
 by_cases hi:i < 5
 ·exact h.cl _ (clL_get hi)
 ·rw [List.getD_eq_getElem?_getD,List.getElem?_eq_none (by have:=h.c5;omega)];decide
theorem FoOk.cT {f:CF} (h:FoOk f) (k i:Nat):clT f k i < 24:=by unfold clT;split <;> exact h.get _
theorem FoOk.oA {f:CF} (h:FoOk f) (i:Nat):(owA f i).l < 24∧(owA f i).r < 24:=by
 unfold owA
 by_cases hi:i < f.ow.length
 ·exact h.ow _ (mem_getD hi)
 ·rw [List.getD_eq_getElem?_getD,List.getElem?_eq_none (by omega)];decide
theorem FoOk.sC {f:CF} (h:FoOk f) (i:Nat) {c:Nat} (hc:c < 24):FoOk (setC f i c):=by
 refine FoOk.mk' ?_ ?_ h.ow h.ap h.lf h.kd
 ·simpa [setC] using h.c5
 ·intro d hd
  rcases List.mem_or_eq_of_mem_set hd with hd | rfl
  ·exact h.cl' d hd
  ·exact hc
theorem FoOk.ly {f:CF} (h:FoOk f) {p:Pr} (h1:p.l < 24) (h2:p.r < 24) (hn:∀ q∈f.ow,q.l≠p.l):FoOk (layF f p):=by
 refine FoOk.mk' h.c5 h.cl' ?_ h.ap ?_ h.kd
 ·intro q hq
  rcases List.mem_append.1 hq with hq | hq
  ·exact h.ow q hq
  ·rw [List.mem_singleton] at hq;subst hq;exact ⟨h1,h2⟩
 ·have hl:=h.lf
  unfold LfN at hl ⊢
  show ((f.ow ++ [p]).map (·.l)).Nodup
  rw [List.map_append,List.nodup_append]
  refine ⟨hl,by simp,?_⟩
  intro a ha b hb e
  obtain ⟨q,hq,rfl⟩:=List.mem_map.1 ha
  simp only [List.map_cons,List.map_nil,List.mem_singleton] at hb
  exact hn q hq (e.trans hb)
theorem FoOk.pa {f:CF} (h:FoOk f) {a b:Nat} (h1:a < 24) (h2:b < 24):FoOk (parF f a b):=by
 refine FoOk.mk' h.c5 h.cl' h.ow ?_ h.lf ?_
 ·intro q hq
  rcases List.mem_append.1 hq with hq | hq
  ·exact h.ap q hq
  ·rw [List.mem_singleton] at hq;subst hq;exact ⟨h1,h2⟩
 ·intro q hq
  rcases List.mem_append.1 hq with hq | hq
  ·exact h.kd q hq
  ·rw [List.mem_singleton] at hq;subst hq;rfl
theorem mapl_set {l:List Pr} {i:Nat} {p:Pr} (hp:i < l.length→p.l = (l.getD i pr0).l):(l.set i p).map (·.l) = l.map (·.l):=by
 rw [List.map_set]
 by_cases hi:i < l.length
 ·rw [hp hi,getD_eq hi]
  conv=>rhs;rw [← @List.set_getElem_self _ (l.map (·.l)) i (by simpa using hi)]
  simp
 ·rw [List.set_eq_of_length_le (by simp;omega)]
theorem FoOk.sO {f:CF} (h:FoOk f) {i:Nat} {p:Pr} (hl:i < f.ow.length→p.l = (f.ow.getD i pr0).l) (h2:p.r < 24) (h1:p.l < 24):FoOk (setO f i p):=by
 refine FoOk.mk' h.c5 h.cl' ?_ h.ap ?_ h.kd
 ·intro q hq
  rcases List.mem_or_eq_of_mem_set hq with hq | rfl
  ·exact h.ow q hq
  ·exact ⟨h1,h2⟩
 ·have:=h.lf
  unfold LfN at this ⊢
  show ((f.ow.set i p).map (·.l)).Nodup
  rw [mapl_set hl]
  exact this
theorem tkO_sub (l:List Pr) (i:Nat):(tkO l i).Sublist l:=by
 have e:l = (List.range l.length).map (fun j=>l.getD j pr0):=by
  refine List.ext_getElem (by simp) (fun j h1 h2=>?_)
  rw [List.getElem_map,List.getElem_range,getD_eq h1]
 unfold tkO tkK
 conv=>rhs;rw [e]
 exact List.filter_sublist.map _
theorem FoOk.tk {f:CF} (h:FoOk f) (i:Nat):FoOk (takF f i):=FoOk.mk' h.c5 h.cl' (fun p hp=>h.ow p ((tkO_sub f.ow i).subset hp)) h.ap (h.lf.sublist ((tkO_sub f.ow i).map _)) h.kd
theorem rnN_lt {k g c:Nat} (h1:k < 24) (h2:c < 24):rnN k g c < 24:=by unfold rnN;split <;> assumption
theorem FoOk.jo {f:CF} (h:FoOk f) {a b:Nat} (ha:a < 24) (hne:a = b∨(∀ p∈f.ow,p.l≠a)∨∀ p∈f.ow,p.l≠b):FoOk (joF f a b):=by
 refine FoOk.mk' ?_ ?_ ?_ ?_ ?_ ?_
 ·show (f.cl.map _).length = 5
  simpa using h.c5
 ·intro c hc
  obtain ⟨d,hd,rfl⟩:=List.mem_map.1 hc
  exact rnN_lt ha (h.cl' d hd)
 ·intro p hp
  obtain ⟨q,hq,rfl⟩:=List.mem_map.1 hp
  exact ⟨rnN_lt ha (h.ow q hq).1,rnN_lt ha (h.ow q hq).2⟩
 ·intro p hp
  obtain ⟨q,hq,rfl⟩:=List.mem_map.1 hp
  exact ⟨rnN_lt ha (h.ap q hq).1,rnN_lt ha (h.ap q hq).2⟩
 ·have hl:=h.lf
  unfold LfN at hl ⊢
  show ((f.ow.map (rnP a b)).map (·.l)).Nodup
  have e:((fun x:Pr=>x.l) ∘ rnP a b) = (rnN a b) ∘ (fun x:Pr=>x.l):=rfl
  rw [List.map_map,e,← List.map_map]
  unfold List.Nodup at hl ⊢
  rw [List.pairwise_map]
  refine List.Pairwise.imp_of_mem ?_ hl
  intro x y hx hy hxy e2
  obtain ⟨p,hp,rfl⟩:=List.mem_map.1 hx
  obtain ⟨q,hq,rfl⟩:=List.mem_map.1 hy
  unfold rnN at e2
  rcases hne with rfl | hne | hne
  ·split at e2 <;> split at e2 <;> omega
  ·have:=hne p hp
   have:=hne q hq
   split at e2 <;> split at e2 <;> omega
  ·rw [if_neg (hne p hp),if_neg (hne q hq)] at e2
   exact hxy e2
 ·intro p hp
  obtain ⟨q,hq,rfl⟩:=List.mem_map.1 hp
  exact h.kd q hq
theorem bgn_no:∀ {l:List Pr} {c:Nat},bgn l c = none→∀ p∈l,p.l≠c
 | [],_,_,p,hp=>by simp at hp
 | q :: r,c,h,p,hp=>by
  unfold bgn at h
  split at h
  ·cases h
  ·rename_i hq
   rcases List.mem_cons.1 hp with rfl | hp
   ·exact hq
   ·exact bgn_no (Option.map_eq_none_iff.1 h) p hp
theorem dif_apart {f:CF} {a b:Nat} (h:difB f a b = false):a = b∨(∀ p∈f.ow,p.l≠a)∨∀ p∈f.ow,p.l≠b:=by
 unfold difB at h
 split at h
 ·exact Or.inl (by assumption)
 ·rw [Bool.or_eq_false_iff] at h
  have h2:=h.2
  unfold clrB at h2
  right
  cases ha:bgn f.ow a with
  | none=>exact Or.inl (bgn_no ha)
  | some i =>
   cases hb:bgn f.ow b with
   | none=>exact Or.inr (bgn_no hb)
   | some j=>rw [ha,hb] at h2;simp at h2
theorem mxP_ge:∀ (l:List Pr) (m:Nat),m≤mxP m l∧∀ p∈l,p.l≤mxP m l∧p.r≤mxP m l
 | [],m=>⟨Nat.le_refl _,fun p hp=>by simp at hp⟩
 | q :: r,m=>by
  obtain ⟨h1,h2⟩:=mxP_ge r (max (max m q.l) q.r)
  have e:mxP m (q :: r) = mxP (max (max m q.l) q.r) r:=rfl
  rw [e]
  refine ⟨by omega,fun p hp=>?_⟩
  rcases List.mem_cons.1 hp with rfl | hp
  ·exact ⟨by omega,by omega⟩
  ·exact h2 p hp
theorem nam_ow {f:CF}:∀ q∈f.ow,q.l≠namF f:=by
 intro q hq
 unfold namF
 have h1:=((mxP_ge f.ow (mxC f)).2 q hq).1
 have h2:=(mxP_ge f.ap (mxP (mxC f) f.ow)).1
 omega
theorem owA_mem {f:CF} {i:Nat} (h:i < f.ow.length):owA f i∈f.ow:=mem_getD h
theorem FoOk.m1 {f:CF} (h:FoOk f) {c i:Nat} (hd:difB f c (owA f i).l = false):FoOk (meF1 f c i) :=
 h.jo (h.oA i).1 (by rcases dif_apart hd with e | e | e;exact Or.inl e.symm;exact Or.inr (Or.inr e);exact Or.inr (Or.inl e))
theorem setO_left {f:CF} {i:Nat} {p q:Pr} (hl:i < f.ow.length→p.l = (f.ow.getD i pr0).l) (hq:q∈(setO f i p).ow):∃ q'∈f.ow,q'.l = q.l:=by
 have e:=mapl_set hl
 have h1:q.l∈(f.ow.set i p).map (·.l):=List.mem_map_of_mem (f:=(·.l)) hq
 rw [e] at h1
 obtain ⟨q',h2,h3⟩:=List.mem_map.1 h1
 exact ⟨q',h2,h3⟩
theorem FoOk.m2 {f:CF} (h:FoOk f) {c i:Nat} (hc:c < 24) (hb:bgn f.ow c = none):FoOk (meF2 f c i):=by
 have h1:FoOk (setO f i ⟨(owA f i).k,(owA f i).l,c⟩):=h.sO (fun _=>rfl) hc (h.oA i).1
 refine h1.ly hc (h.oA i).2 (fun q hq e=>?_)
 obtain ⟨q',h2,h3⟩:=setO_left (p:=⟨(owA f i).k,(owA f i).l,c⟩) (fun _=>rfl) hq
 exact bgn_no hb q' h2 (h3.trans e)
theorem FoOk.f1 {f:CF} (h:FoOk f) (i:Nat):FoOk (fiF1 f i):=h.sO (fun _=>rfl) (h.oA i).2 (h.oA i).1
theorem FoOk.f2 {f:CF} (h:FoOk f) {c i:Nat} (hi:bgn f.ow c = some i) (hn:namF f < 24):FoOk (fiF2 f c i):=by
 obtain ⟨g1,g2⟩:=bgn_lt hi
 have hcl:c < 24:=by rw [← g2];exact (h.oA i).1
 have h1:FoOk (setO f i ⟨3,c,namF f⟩):=h.sO (fun _=>g2.symm) hn hcl
 refine h1.ly hn (h.oA i).2 (fun q hq e=>?_)
 obtain ⟨q',h2,h3⟩:=setO_left (fun _=>g2.symm) hq
 exact nam_ow q' h2 (h3.trans e)
theorem bgn_has {l:List Pr} {c:Nat}:(bgn l c).isSome = true↔∃ p∈l,p.l = c:=by
 constructor
 ·intro h
  obtain ⟨i,hi⟩:=Option.isSome_iff_exists.1 h
  exact ⟨_,bgn_mem hi,(bgn_lt hi).2⟩
 ·rintro ⟨p,hp,rfl⟩
  cases h:bgn l p.l with
  | none=>exact absurd rfl (bgn_no h p hp)
  | some i=>rfl
structure OpOk (N v:Nat) (g:CF):Prop where
 ok:FoOk g
 ln:g.ap.length≤N
 bg:(bgn g.ow (g.cl.getD (1 + v) 0)).isSome = true
theorem setO_has {f:CF} {i:Nat} {p:Pr} {c:Nat} (hl:i < f.ow.length→p.l = (f.ow.getD i pr0).l) (h:(bgn f.ow c).isSome = true):(bgn (setO f i p).ow c).isSome = true:=by
 rw [bgn_has] at h ⊢
 obtain ⟨q,hq,rfl⟩:=h
 have e:=mapl_set hl
 have h1:q.l∈f.ow.map (·.l):=List.mem_map_of_mem (f:=(·.l)) hq
 rw [← e] at h1
 obtain ⟨q',h2,h3⟩:=List.mem_map.1 h1
 exact ⟨q',h2,h3⟩
theorem fiF_ok {N v:Nat} {g:CF} (h:OpOk N v g):∀ x∈(fiF g (g.cl.getD (1 + v) 0)).1,OpOk N v x:=by
 intro x hx
 unfold fiF at hx
 cases hb:bgn g.ow (g.cl.getD (1 + v) 0) with
 | none=>rw [hb] at hx;simp at hx
 | some i =>
  rw [hb] at hx
  simp only [fiI] at hx
  have h1:OpOk N v (fiF1 g i):=⟨h.ok.f1 i,h.ln,setO_has (p:=⟨3,(owA g i).l,(owA g i).r⟩) (fun _=>rfl) h.bg⟩
  split at hx
  ·simp only [List.mem_singleton] at hx
   subst hx
   exact h
  ·split at hx
   ·simp only [List.mem_singleton] at hx
    subst hx
    exact h1
   ·rename_i hn
    simp only [List.mem_cons,List.not_mem_nil,or_false] at hx
    rcases hx with rfl | rfl
    ·exact h1
    ·refine ⟨h.ok.f2 hb (by omega),h.ln,?_⟩
     have:=setO_has (f:=g) (i:=i) (p:=⟨3,g.cl.getD (1 + v) 0,namF g⟩) (fun _=>(bgn_lt hb).2.symm) h.bg
     rw [bgn_has] at this ⊢
     obtain ⟨p,hp,e⟩:=this
     exact ⟨p,List.mem_append_left _ hp,e⟩
theorem meF_ok' {N v:Nat} {f:CF} (hv:v < 4) (h:FoOk f) (hl:f.ap.length≤N) (hb:bgn f.ow (f.cl.getD (1 + v) 0) = none) {i:Nat} (hi:i < f.ow.length):∀ x∈meF f (f.cl.getD (1 + v) 0) i,OpOk N v x:=by
 intro x hx
 unfold meF at hx
 rcases List.mem_append.1 hx with hx | hx
 ·split at hx
  ·simp at hx
  ·rename_i hd
   simp only [List.mem_singleton] at hx
   subst hx
   refine ⟨h.m1 (by simpa using hd),by simpa [meF1,joF] using hl,?_⟩
   have e:(meF1 f (f.cl.getD (1 + v) 0) i).cl.getD (1 + v) 0 = (owA f i).l:=by
    show (f.cl.map _).getD (1 + v) 0 = _
    have h5:=h.c5
    rw [List.getD_eq_getElem?_getD,List.getElem?_map,List.getElem?_eq_getElem (by omega)]
    simp only [Option.map_some,Option.getD_some]
    unfold rnN
    rw [if_pos]
    rw [List.getD_eq_getElem?_getD,List.getElem?_eq_getElem (by omega)]
    rfl
   rw [e,bgn_has]
   refine ⟨rnP (owA f i).l (f.cl.getD (1 + v) 0) (owA f i),List.mem_map_of_mem (owA_mem hi),?_⟩
   show rnN _ _ _ = _
   unfold rnN
   split <;> rfl
 ·split at hx
  ·simp only [List.mem_singleton] at hx
   subst hx
   refine ⟨h.m2 (h.get _) hb,hl,?_⟩
   rw [bgn_has]
   exact ⟨⟨4,f.cl.getD (1 + v) 0,(owA f i).r⟩,List.mem_append_right _ (by simp),rfl⟩
  ·simp at hx
theorem foldl_all {α β:Type} {P:α→Prop} (g:List α × Bool→β→List α × Bool):∀ (l:List β) (r:List α × Bool),(∀ x∈r.1,P x)→(∀ b∈l,∀ r,(∀ x∈r.1,P x)→∀ x∈(g r b).1,P x)→∀ x∈(l.foldl g r).1,P x
 | [],_,hr,_=>hr
 | b :: l,r,hr,hg=>foldl_all g l (g r b) (hg b (by simp) r hr) (fun b' hb'=>hg b' (by simp [hb']))
theorem opF_ok {N v:Nat} {f:CF} (hv:v < 4) (h:FoOk f) (hl:f.ap.length≤N):∀ x∈(opF f v).1,OpOk N v x:=by
 unfold opF
 split
 ·intro x hx;simp at hx
 ·split
  ·rename_i hb
   exact fiF_ok ⟨h,hl,hb⟩
  ·rename_i hb
   have hb':bgn f.ow (f.cl.getD (1 + v) 0) = none:=by simpa using hb
   refine foldl_all (P:=OpOk N v) _ _ _ (fun x hx=>by simp at hx) ?_
   intro i hi r hr
   rw [List.mem_range] at hi
   refine foldl_all (P:=OpOk N v) _ _ _ hr ?_
   intro g hg r hr x hx
   rcases List.mem_append.1 hx with hx | hx
   ·exact hr x hx
   ·exact fiF_ok (meF_ok' hv h hl hb' hi g hg) x hx
theorem parL_ok:∀ (l:List Pr) {g:CF} {c:Nat},FoOk g→c < 24→(∀ p∈l,p.l < 24)→FoOk (l.foldl (fun h p=>parF h c p.l) g)∧(l.foldl (fun h p=>parF h c p.l) g).ap.length = g.ap.length + l.length
 | [],g,c,h,_,_=>⟨h,rfl⟩
 | p :: r,g,c,h,hc,hl=>by
  obtain ⟨h1,h2⟩:=parL_ok r (h.pa hc (hl p (by simp))) hc (fun q hq=>hl q (by simp [hq]))
  refine ⟨h1,?_⟩
  rw [List.foldl_cons,h2]
  simp [parF]
  omega
theorem frG_ok {N v:Nat} {g:CF} (h:OpOk N v g):FoOk (frG g v)∧(frG g v).ap.length≤N + 25:=by
 have h1:=h.ok.tk (bgI g (g.cl.getD (1 + v) 0))
 have h2:=h1.pa (h.ok.get (1 + v)) (h.ok.get 0)
 obtain ⟨g1,g2⟩:=parL_ok (takF g (bgI g (g.cl.getD (1 + v) 0))).ow h2 (h.ok.get (1 + v)) (fun p hp=>(h1.ow p hp).1)
 refine ⟨g1,Nat.le_trans (Nat.le_of_eq g2) ?_⟩
 have hl:=h1.owLen
 have h3:=h.ln
 show ((g.ap ++ [_]).length + _:Nat)≤_
 rw [List.length_append,List.length_singleton]
 omega
theorem folG_ok {N:Nat} {n:Nd} {g:CF} (h:OpOk N n.ai g):FoOk (folG g n)∧(folG g n).ap.length≤N:=⟨h.ok.sC _ (h.ok.oA _).2,h.ln⟩
theorem liG_ok {N:Nat} {n:Nd} {g:CF} (h:OpOk N n.v g):FoOk (liG g n)∧(liG g n).ap.length≤N:=⟨h.ok.sO (fun _=>rfl) (h.ok.cT _ _) (h.ok.oA _).1,h.ln⟩
theorem crG_ok {f:CF} {v:Nat} (h:FoOk f) (hn:namF f < 24):FoOk (crG f v):=(h.ly (p:=⟨3,namF f,f.cl.getD 0 0⟩) hn (h.get 0) nam_ow).sC _ hn
structure Td (f:CF):Prop where
 ok:FoOk f
 ln:f.ap.length≤576
theorem FoOk.tidy {f:CF} (h:FoOk f):Td (tdF f):=⟨h.td,tdF_len h⟩
theorem ofOpen_td {r:List CF × Bool × Bool × Bool} {g:CF→CF} (h:∀ x∈r.1,FoOk (g x)):(∀ x∈(ofOpen r g).nx,Td x)∧∀ x∈(ofOpen r g).ot,Td x:=by
 refine ⟨fun x hx=>?_,fun x hx=>by simp [ofOpen] at hx⟩
 obtain ⟨y,hy,rfl⟩:=List.mem_map.1 hx
 exact (h y hy).tidy
theorem cmO_td {f:CF} (h:FoOk f) (n:Nd):(∀ x∈(cmO f n).1,Td x)∧∀ x∈(cmO f n).2,Td x:=by
 constructor
 ·intro x hx
  simp only [cmO] at hx
  split at hx
  ·simp at hx
  ·rename_i hd
   simp only [List.mem_singleton] at hx
   subst hx
   exact (h.jo (h.get _) (dif_apart (by simpa using hd))).tidy
 ·intro x hx
  simp only [cmO] at hx
  split at hx
  ·simp at hx
  ·simp only [List.mem_singleton] at hx
   subst hx
   exact (h.pa (h.get _) (h.cT _ _)).tidy
theorem efO_td {n:Nd} {f:CF} (hv:n.v < 4) (ha:n.ai < 4) (h:Td f):(∀ x∈(efO n f).nx,Td x)∧∀ x∈(efO n f).ot,Td x:=by
 have one:∀ {g:CF},FoOk g→(∀ x∈[tdF g],Td x):=fun hg x hx=>by rw [List.mem_singleton] at hx;subst hx;exact hg.tidy
 have no:∀ x∈([]:List CF),Td x:=fun x hx=>by simp at hx
 unfold efO
 split
 ·exact ⟨no,no⟩
 ·split
  ·exact ⟨one (h.ok.sC _ (h.ok.cT _ _)),no⟩
  ·split
   ·exact ofOpen_td (fun x hx=>(folG_ok (opF_ok ha h.ok h.ln x hx)).1)
   ·split
    ·exact ofOpen_td (fun x hx=>(liG_ok (opF_ok hv h.ok h.ln x hx)).1)
    ·split
     ·split
      ·exact ⟨no,no⟩
      ·exact ⟨one (crG_ok h.ok (by omega)),no⟩
     ·split
      ·exact ofOpen_td (fun x hx=>(frG_ok (opF_ok hv h.ok h.ln x hx)).1)
      ·split
       ·exact ⟨one h.ok,one h.ok⟩
       ·split
        ·exact cmO_td h.ok n
        ·split
         ·exact (cmO_td h.ok n).symm
         ·exact ⟨one h.ok,no⟩
def eqD (f:CF) (i:Nat):Nat:=((List.range (i + 1)).find? (fun k=>f.cl.getD k 0 == f.cl.getD i 0)).getD 0
def bgD (f:CF) (i:Nat):Nat:=match bgn f.ow (f.cl.getD i 0) with | some j=>(owA f j).k | none=>0
def ptD (f:CF):Nat:=f.ow.countP (fun p=>decide (p.k = 3))
def liD (f:CF):Nat:=f.ow.countP (fun p=>!decide (p.k = 3))
def roB (s t:CF):Bool:=!(decide (ptD s < ptD t) || decide (ptD s + liD s < ptD t + liD t)) && (decide (0 < liD t) || (decide (liD s = 0) && decide (ptD s = ptD t)))
def lk1 (s t:CF) (i:Nat):Bool:=decide (eqD s (eqD t i) = eqD s i) && !(decide (bgD t i = 3) && !decide (bgD s i = 3)) && !(decide (bgD t i = 4) && decide (bgD s i = 0))
def lkB (s t:CF):Bool:=lk1 s t 0 && lk1 s t 1 && lk1 s t 2 && lk1 s t 3 && lk1 s t 4
def wiB (s t:CF):Bool:=roB s t && lkB s t && (match drp s t [0,1,2,3,4] (List.replicate 24 none) with | none=>false | some an=>(fit s t an 128).1)
structure Ent where
 f:CF
 d:Bool
structure Sr where
 kn:List (List Ent)
 wr:List (List Bool)
 lf:Int
 lo:Int
 fu:Bool
 ok:Bool
structure Cd where
 nds:List Nd
 hd:List Bool
 lp:Bool
 bd:Bool
def nd0:Nd:=⟨0,0,0,0,0,0⟩
def spS' (c:Cd) (s:Sr):Sr:={ s with lf:=wrap64 (s.lf - 1),fu:=s.fu || (decide (wrap64 (s.lf - 1) < 0) && c.bd) }
def lkS' (c:Cd) (s:Sr) (n:Nat):Sr:={ s with lo:=wrap64 (s.lo - n),fu:=s.fu || (decide (wrap64 (s.lo - n) < 0) && c.bd) }
def knA (s:Sr) (n:Nat):List Ent:=s.kn.getD n []
def layN (c:Cd) (n:Nat) (f:CF):CF:=if c.hd.getD n false = true then tdF (foF f) else f
def big:Nat:=1000000000000
def bigC:Nat:=900000
def layR (n:Nat) (g:CF) (s:Sr):Sr:={ s with ok:=s.ok && decide ((knA s n).length≤big),kn:=s.kn.set n ((knA s n).filter (fun e=>!wiB e.f g) ++ [⟨g,false⟩]) }
def layS (c:Cd) (n:Nat) (f:CF) (s:Sr):Sr :=
 if (knA s n).any (fun e=>wiB (layN c n f) e.f) = true then { lkS' c s (2 * (knA s n).length) with ok:=s.ok && decide ((knA s n).length≤big) }
 else spS' c (layR n (layN c n f) (lkS' c s (2 * (knA s n).length)))
def loL (f:CF):List Nat:=(List.range f.ow.length).filter (fun i=>!decide ((owA f i).l∈rcL f))
def wiO (f:CF):CF:=tdF { f with ow:=f.ow.filter (fun p=>decide (p.l∈rcL f)) }
def prE' (a b:List Pr):Bool:=decide (a.length = b.length) && (List.range a.length).all (fun i=>prE (a.getD i pr0) (b.getD i pr0))
def saB (f g:CF):Bool:=decide (clL f = clL g) && prE' f.ap g.ap && prE' f.ow g.ow
def neB (cs:List CF) (f:CF):Bool:=!cs.any (fun g=>saB f g)
def fnG (c:Cd) (r:List CF × Sr) (g:CF):List CF × Sr:=if neB r.1 (tdF g) = true then (r.1 ++ [tdF g],spS' c { r.2 with ok:=r.2.ok && decide (r.1.length≤bigC) }) else r
def fnA (f:CF) (a:Nat):Bool:=decide (a∈rcL f) && !decide (a = f.cl.getD 0 0) && !(bgn f.ow a).isSome
def fnS (c:Cd) (f:CF) (i:Nat) (r:List CF × Sr) (a:Nat):List CF × Sr:=if fnA f a = true then (meF f a i).foldl (fnG c) r else r
def fndF (c:Cd) (f:CF) (r:List CF × Sr) (i:Nat):List CF × Sr:=(List.range 24).foldl (fnS c f i) r
def fgS (c:Cd) (g:CF) (r:List CF × Sr) (res:List CF):List CF × List CF × Sr :=
 if loL g = [] then (res ++ [g],r) else (res ++ [wiO g],(loL g).foldl (fndF c g) r)
def fgN (c:Cd):Nat→Nat→List CF→List CF × Sr→List CF × Sr
 | 0,_,res,r=>(res,{ r.2 with ok:=false })
 | n + 1,k,res,r=>if k < r.1.length∧r.2.fu = false then fgN c n (k + 1) (fgS c (r.1.getD k ⟨[],[],[]⟩) r res).1 (fgS c (r.1.getD k ⟨[],[],[]⟩) r res).2 else (res,r.2)
def wrS (n k:Nat) (s:Sr):Sr:={ s with wr:=s.wr.set n ((s.wr.getD n []).set k true) }
def arS (c:Cd) (fuel from_ to_:Nat) (f:CF) (s:Sr):Sr :=
 if c.lp = false∨loL f = [] then layS c to_ f s
 else
  let r:=fgN c fuel 0 [] ([f],wrS from_ 2 s)
  r.1.foldl (fun s g=>layS c to_ g s) r.2
def fuS (b:Bool) (s:Sr):Sr:={ s with fu:=s.fu || b }
def wrI (b:Bool) (n k:Nat) (s:Sr):Sr:=if b = true then wrS n k s else s
def stS (c:Cd) (fuel:Nat) (n:Nat) (f:CF) (s:Sr):Sr :=
 let nd:=c.nds.getD n nd0
 let o:=efO nd f
 let s1:=wrI (decide (nd.op = 0) && !decide (loL f = [])) n 2 s
 let s2:=fuS o.fu (wrI o.da n 4 (wrI o.nu n 3 s1))
 let s3:=o.nx.foldl (fun s g=>arS c fuel n nd.nx g s) s2
 o.ot.foldl (fun s g=>arS c fuel n nd.ot g s) s3
def viN (c:Cd) (fuel n:Nat):List CF→Sr→Sr
 | [],s=>s
 | f :: r,s=>if s.fu = true then s else viN c fuel n r (stS c fuel n f s)
def frE (l:List Ent):List CF:=(l.filter (fun e=>!e.d)).map (·.f)
def viS (c:Cd) (fuel n:Nat) (s:Sr):Sr:=viN c fuel n (frE (knA s n)) { s with kn:=s.kn.set n ((knA s n).map (fun e=>⟨e.f,true⟩)) }
def peS (s:Sr):Option Nat:=s.kn.findIdx? (fun l=>l.any (fun e=>!e.d))
def ruN (c:Cd) (fuel:Nat):Nat→Sr→Sr
 | 0,s=>{ s with ok:=false }
 | n + 1,s=>match peS s with
  | none=>s
  | some k=>if s.fu = true then s else ruN c fuel n (viS c fuel k s)
def hiN (al:List Atm):Nat:=al.foldl (fun m a=>let m1:=if a.lk = 2∧m≤a.li then a.li + 1 else m;if a.rk = 2∧m1≤a.ri then a.ri + 1 else m1) 0
def bkJ (nds:List Nd) (i:Nat):Bool:=decide ((nds.getD i nd0).op = 10) && decide ((nds.getD i nd0).nx < i)
def siB (nds:List Nd) (nv:Nat) (al:List Atm):Bool :=
 !(List.range nds.length).any (bkJ nds) && !al.any (fun a=>decide (a.k = 4)) &&
 decide (nds.countP (fun n=>decide (n.op = 7∨n.op = 8∨n.op = 9))≤5) && decide (nds.countP (fun n=>decide (n.op = 4))≤4) && decide (nv + hiN al≤6) && decide (nv + hiN al + nds.countP (fun n=>decide (n.op = 4))≤8)
def hdL (nds:List Nd):List Bool:=(List.range nds.length).foldl (fun h i=>if bkJ nds i = true then h.set (nds.getD i nd0).nx true else h) (List.replicate nds.length false)
def cdO (nds:List Nd) (nv:Nat) (al:List Atm):Cd:=⟨nds,hdL nds,(List.range nds.length).any (bkJ nds),!siB nds nv al⟩
def sr0 (nds:List Nd):Sr:=⟨List.replicate nds.length [],List.replicate nds.length (List.replicate 5 false),3000,2097152,false,true⟩
def enC (f:CF) (nv:Nat):CF:={ f with cl:=(List.range 5).map (fun i=>if nv < i then f.cl.getD 0 0 else f.cl.getD i 0) }
def enS' (c:Cd) (fuel nv:Nat) (al:List Atm) (s:Sr):Sr:=if falB (cfOf al) = true then s else arS c fuel (c.nds.length - 1) 0 (tdF (enC (cfOf al) nv)) s
structure Rs where
 vd:Nat
 al:List (Nat × Nat)
 kn:List (List CF)
def alL (wr:List (List Bool)):List (Nat × Nat):=(List.range wr.length).flatMap (fun n=>([2,3,4].filter (fun k=>(wr.getD n []).getD k false)).map (fun k=>(n,k)))
def rsO (s:Sr):Rs:=if s.fu = true then ⟨2,[],[]⟩ else ⟨if alL s.wr = [] then 0 else 1,alL s.wr,s.kn.map (fun l=>l.map (·.f))⟩
theorem foS1_ok {f:CF} (h:FoOk f) (k:Nat):FoOk (foS1 f k)∧(foS1 f k).ap = f.ap:=by
 refine ⟨FoOk.mk' h.c5 h.cl' ?_ h.ap ?_ h.kd,rfl⟩
 ·intro p hp
  obtain ⟨q,hq,rfl⟩:=List.mem_map.1 ((tkO_sub _ k).subset hp)
  unfold fo1
  split
  ·exact ⟨(h.ow q hq).1,(h.oA k).2⟩
  ·exact h.ow q hq
 ·have hl:=h.lf
  unfold LfN at hl ⊢
  refine List.Nodup.sublist ((tkO_sub _ k).map _) ?_
  rw [List.map_map]
  have e:((fun x:Pr=>x.l) ∘ fo1 (f.ow.getD k pr0).l (f.ow.getD k pr0).r) = (fun x:Pr=>x.l):=by
   funext x
   simp only [Function.comp,fo1]
   split <;> rfl
  rw [e]
  exact hl
theorem foldN_ok:∀ (n:Nat) {f:CF},FoOk f→FoOk (foldN n f)∧(foldN n f).ap = f.ap
 | 0,_,h=>⟨h,rfl⟩
 | n + 1,f,h=>by
  unfold foldN
  split
  ·exact ⟨h,rfl⟩
  ·rename_i k _
   obtain ⟨h1,h2⟩:=foS1_ok h k
   obtain ⟨g1,g2⟩:=foldN_ok n h1
   exact ⟨g1,g2.trans h2⟩
theorem layN_td {c:Cd} {n:Nat} {f:CF} (h:Td f):Td (layN c n f):=by
 unfold layN
 split
 ·exact (foldN_ok _ h.ok).1.tidy
 ·exact h
def InS (s:Sr):Prop:=∀ l∈s.kn,∀ e∈l,Td e.f
theorem InS.at {s:Sr} (h:InS s) (n:Nat):∀ e∈knA s n,Td e.f:=by
 unfold knA
 intro e he
 by_cases hn:n < s.kn.length
 ·rw [List.getD_eq_getElem?_getD,List.getElem?_eq_getElem hn] at he
  exact h _ (List.getElem_mem hn) e he
 ·rw [List.getD_eq_getElem?_getD,List.getElem?_eq_none (by omega)] at he
  simp at he
theorem InS.set {s:Sr} (h:InS s) (n:Nat) {l:List Ent} (hl:∀ e∈l,Td e.f):∀ l'∈s.kn.set n l,∀ e∈l',Td e.f:=by
 intro l' h' e he
 rcases List.mem_or_eq_of_mem_set h' with h' | rfl
 ·exact h l' h' e he
 ·exact hl e he
theorem layS_in {c:Cd} {n:Nat} {f:CF} {s:Sr} (hf:Td f) (h:InS s):InS (layS c n f s):=by
 unfold layS
 split
 ·exact h
 ·show InS (spS' c (layR n (layN c n f) (lkS' c s _)))
  show ∀ l∈(s.kn.set n _),_
  refine h.set n (fun e he=>?_)
  rcases List.mem_append.1 he with he | he
  ·exact h.at n e (List.mem_filter.1 he).1
  ·rw [List.mem_singleton] at he;subst he;exact layN_td hf
theorem wiO_td {f:CF} (h:FoOk f):Td (wiO f) :=
 FoOk.tidy (FoOk.mk' h.c5 h.cl' (fun p hp=>h.ow p (List.mem_filter.1 hp).1) h.ap (h.lf.sublist (List.filter_sublist.map _)) h.kd)
def CsOk (cs:List CF):Prop:=∀ f∈cs,Td f
theorem meF_fok {f:CF} (h:FoOk f) {a i:Nat} (ha:a < 24) (hb:bgn f.ow a = none):∀ g∈meF f a i,FoOk g:=by
 intro g hg
 unfold meF at hg
 rcases List.mem_append.1 hg with hg | hg
 ·split at hg
  ·simp at hg
  ·rename_i hd
   rw [List.mem_singleton] at hg
   subst hg
   exact h.m1 (by simpa using hd)
 ·split at hg
  ·rw [List.mem_singleton] at hg
   subst hg
   exact h.m2 ha hb
  ·simp at hg
theorem fnG_ok {c:Cd} {r:List CF × Sr} {g:CF} (hr:CsOk r.1) (hg:FoOk g):CsOk (fnG c r g).1∧(fnG c r g).2.kn = r.2.kn∧(fnG c r g).2.wr = r.2.wr:=by
 unfold fnG
 split
 ·refine ⟨fun f hf=>?_,rfl,rfl⟩
  rcases List.mem_append.1 hf with hf | hf
  ·exact hr f hf
  ·rw [List.mem_singleton] at hf;subst hf;exact hg.tidy
 ·exact ⟨hr,rfl,rfl⟩
theorem fnGF_ok {c:Cd}:∀ (l:List CF) {r:List CF × Sr},CsOk r.1→(∀ g∈l,FoOk g)→CsOk (l.foldl (fnG c) r).1∧(l.foldl (fnG c) r).2.kn = r.2.kn∧(l.foldl (fnG c) r).2.wr = r.2.wr
 | [],r,hr,_=>⟨hr,rfl,rfl⟩
 | g :: l,r,hr,hl=>by
  obtain ⟨h1,h2,h3⟩:=fnG_ok (c:=c) hr (hl g (by simp))
  obtain ⟨g1,g2,g3⟩:=fnGF_ok l h1 (fun x hx=>hl x (by simp [hx]))
  exact ⟨g1,g2.trans h2,g3.trans h3⟩
theorem fnS_ok {c:Cd} {f:CF} {i a:Nat} {r:List CF × Sr} (ha:a < 24) (hf:FoOk f) (hr:CsOk r.1):CsOk (fnS c f i r a).1∧(fnS c f i r a).2.kn = r.2.kn∧(fnS c f i r a).2.wr = r.2.wr:=by
 unfold fnS
 split
 ·rename_i h
  unfold fnA at h
  simp only [Bool.and_eq_true,Bool.not_eq_true'] at h
  refine fnGF_ok _ hr (meF_fok hf ha ?_)
  have:=h.2
  cases hb:bgn f.ow a with
  | none=>rfl
  | some j=>rw [hb] at this;simp at this
 ·exact ⟨hr,rfl,rfl⟩
theorem fnSF_ok {c:Cd} {f:CF} {i:Nat} (hf:FoOk f):∀ (l:List Nat) {r:List CF × Sr},(∀ a∈l,a < 24)→CsOk r.1→CsOk (l.foldl (fnS c f i) r).1∧(l.foldl (fnS c f i) r).2.kn = r.2.kn∧(l.foldl (fnS c f i) r).2.wr = r.2.wr
 | [],r,_,hr=>⟨hr,rfl,rfl⟩
 | a :: l,r,hl,hr=>by
  obtain ⟨h1,h2,h3⟩:=fnS_ok (c:=c) (i:=i) (hl a (by simp)) hf hr
  obtain ⟨g1,g2,g3⟩:=fnSF_ok hf l (fun x hx=>hl x (by simp [hx])) h1
  exact ⟨g1,g2.trans h2,g3.trans h3⟩
theorem fndF_ok {c:Cd} {f:CF} (hf:FoOk f) {r:List CF × Sr} (i:Nat) (hr:CsOk r.1):CsOk (fndF c f r i).1∧(fndF c f r i).2.kn = r.2.kn∧(fndF c f r i).2.wr = r.2.wr:=fnSF_ok hf _ (fun a ha=>List.mem_range.1 ha) hr
theorem fndFF_ok {c:Cd} {f:CF} (hf:FoOk f):∀ (l:List Nat) {r:List CF × Sr},CsOk r.1→CsOk (l.foldl (fndF c f) r).1∧(l.foldl (fndF c f) r).2.kn = r.2.kn∧(l.foldl (fndF c f) r).2.wr = r.2.wr
 | [],r,hr=>⟨hr,rfl,rfl⟩
 | i :: l,r,hr=>by
  obtain ⟨h1,h2,h3⟩:=fndF_ok (c:=c) hf i hr
  obtain ⟨g1,g2,g3⟩:=fndFF_ok hf l h1
  exact ⟨g1,g2.trans h2,g3.trans h3⟩
theorem fgS_ok {c:Cd} {g:CF} (hg:Td g) {r:List CF × Sr} {res:List CF} (hr:CsOk r.1) (hs:CsOk res):CsOk (fgS c g r res).1∧CsOk (fgS c g r res).2.1∧(fgS c g r res).2.2.kn = r.2.kn∧(fgS c g r res).2.2.wr = r.2.wr:=by
 have app:∀ {x:CF},Td x→CsOk (res ++ [x]):=fun hx f hf=>by
  rcases List.mem_append.1 hf with hf | hf
  ·exact hs f hf
  ·rw [List.mem_singleton] at hf;subst hf;exact hx
 unfold fgS
 split
 ·exact ⟨app hg,hr,rfl,rfl⟩
 ·exact ⟨app (wiO_td hg.ok),fndFF_ok hg.ok _ hr⟩
theorem fgN_ok {c:Cd}:∀ (n k:Nat) {res:List CF} {r:List CF × Sr},CsOk r.1→CsOk res→CsOk (fgN c n k res r).1∧(fgN c n k res r).2.kn = r.2.kn∧(fgN c n k res r).2.wr = r.2.wr
 | 0,k,res,r,_,hs=>⟨hs,rfl,rfl⟩
 | n + 1,k,res,r,hr,hs=>by
  unfold fgN
  split
  ·rename_i h
   have hg:Td (r.1.getD k ⟨[],[],[]⟩):=by
    rw [List.getD_eq_getElem?_getD,List.getElem?_eq_getElem h.1]
    exact hr _ (List.getElem_mem h.1)
   obtain ⟨h1,h2,h3,h4⟩:=fgS_ok (c:=c) hg hr hs
   obtain ⟨g1,g2,g3⟩:=fgN_ok (c:=c) n (k + 1) h2 h1
   exact ⟨g1,g2.trans h3,g3.trans h4⟩
  ·exact ⟨hs,rfl,rfl⟩
theorem layF_in {c:Cd} {n:Nat}:∀ (l:List CF) {s:Sr},CsOk l→InS s→InS (l.foldl (fun s g=>layS c n g s) s)
 | [],_,_,h=>h
 | g :: l,s,hl,h=>layF_in l (fun x hx=>hl x (by simp [hx])) (layS_in (hl g (by simp)) h)
theorem arS_in {c:Cd} {fuel a b:Nat} {f:CF} {s:Sr} (hf:Td f) (h:InS s):InS (arS c fuel a b f s):=by
 unfold arS
 split
 ·exact layS_in hf h
 ·have h1:CsOk [f]:=fun x hx=>by rw [List.mem_singleton] at hx;subst hx;exact hf
  obtain ⟨g1,g2,-⟩:=fgN_ok (c:=c) fuel 0 (r:=([f],wrS a 2 s)) (res:=[]) h1 (fun x hx=>by simp at hx)
  refine layF_in _ g1 ?_
  unfold InS
  rw [g2]
  exact h
theorem arF_in {c:Cd} {fuel a b:Nat}:∀ (l:List CF) {s:Sr},CsOk l→InS s→InS (l.foldl (fun s g=>arS c fuel a b g s) s)
 | [],_,_,h=>h
 | g :: l,s,hl,h=>arF_in l (fun x hx=>hl x (by simp [hx])) (arS_in (hl g (by simp)) h)
theorem wrI_kn (b:Bool) (n k:Nat) (s:Sr):(wrI b n k s).kn = s.kn:=by unfold wrI;split <;> rfl
theorem stS_in {c:Cd} {fuel n:Nat} {f:CF} {s:Sr} (hv:(c.nds.getD n nd0).v < 4) (ha:(c.nds.getD n nd0).ai < 4) (hf:Td f) (h:InS s):InS (stS c fuel n f s):=by
 obtain ⟨h1,h2⟩:=efO_td hv ha hf
 unfold stS
 refine arF_in _ h2 (arF_in _ h1 ?_)
 unfold InS
 show ∀ l∈(wrI _ n 4 (wrI _ n 3 (wrI _ n 2 s))).kn,_
 rw [wrI_kn,wrI_kn,wrI_kn]
 exact h
theorem w64_in {n:Int} (h1:-9000000000000000000≤n) (h2:n≤9000000000000000000):wrap64 n = n:=by unfold wrap64;omega
def sumB {α:Type} (g:α→Nat):List α→Nat
 | []=>0
 | a :: l=>g a + sumB g l
theorem sumB_set {α:Type} (g:α→Nat) (d:α):∀ (l:List α) (n:Nat) (x:α),sumB g (l.set n x) + (if n < l.length then g (l.getD n d) else 0) = sumB g l + (if n < l.length then g x else 0)
 | [],n,x=>by simp [sumB]
 | a :: l,0,x=>by simp [sumB];omega
 | a :: l,n + 1,x=>by
  have:=sumB_set g d l n x
  simp only [List.set_cons_succ,sumB,List.length_cons,List.getD_cons_succ,Nat.add_lt_add_iff_right]
  omega
theorem sumB_get {α:Type} (g:α→Nat) (d:α):∀ (l:List α) (n:Nat),n < l.length→g (l.getD n d)≤sumB g l
 | [],n,h=>by simp at h
 | a :: l,0,_=>by simp [sumB]
 | a :: l,n + 1,h=>by
  have:=sumB_get g d l n (by simpa using h)
  simp only [sumB,List.getD_cons_succ]
  omega
def entE (s:Sr):Nat:=sumB List.length s.kn
def undU (s:Sr):Nat:=sumB (fun l:List Ent=>l.countP (fun e=>!e.d)) s.kn
structure Gd (m:Nat) (s:Sr):Prop where
 en:(entE s:Int) + s.lf≤3000
 lo:-(m:Int)≤s.lf
 fu:s.fu = false→0≤s.lf
 ok:s.ok = true
theorem Gd.wide {m m':Nat} {s:Sr} (h:Gd m s) (hm:m≤m'):Gd m' s:=⟨h.en,by have:=h.lo;omega,h.fu,h.ok⟩
theorem knA_le (s:Sr) (n:Nat):(knA s n).length≤entE s:=by
 unfold knA
 by_cases hn:n < s.kn.length
 ·exact sumB_get List.length [] s.kn n hn
 ·rw [List.getD_eq_getElem?_getD,List.getElem?_eq_none (by omega)];simp
theorem set_le {g:List Ent→Nat} (hg:∀ l,g []≤l) {s:Sr} {n d:Nat} {x:List Ent} (hx:g x≤g (knA s n) + d):sumB g (s.kn.set n x)≤sumB g s.kn + d:=by
 have h:=sumB_set g [] s.kn n x
 unfold knA at hx
 have:=hg 0
 split at h <;> omega
theorem layS_gd {c:Cd} (hb:c.bd = true) {m n:Nat} (hm:m≤10000000) {f:CF} {s:Sr} (h:Gd m s):Gd (m + 1) (layS c n f s)∧(undU (layS c n f s):Int) + (layS c n f s).lf≤undU s + s.lf∧(layS c n f s).lf≤s.lf:=by
 have hlo:=h.lo
 have hen:=h.en
 have hkn:=knA_le s n
 have hbig:(knA s n).length≤big:=by unfold big;omega
 unfold layS
 split
 ·refine ⟨⟨hen,by show -((m + 1:Nat):Int)≤s.lf;omega,fun hf=>?_,?_⟩,Int.le_refl _,Int.le_refl _⟩
  ·refine h.fu ?_
   have:(s.fu || (decide (wrap64 (s.lo - ((2 * (knA s n).length:Nat):Int)) < 0) && c.bd)) = false:=hf
   simp only [Bool.or_eq_false_iff] at this
   exact this.1
  ·show (s.ok && decide _) = true
   rw [h.ok]
   simpa using hbig
 ·have hw:wrap64 (s.lf - 1) = s.lf - 1:=w64_in (by omega) (by omega)
  have he:entE (layR n (layN c n f) (lkS' c s (2 * (knA s n).length)))≤entE s + 1:=by
   refine set_le (g:=List.length) (fun l=>by simp) (s:=s) (n:=n) (d:=1) ?_
   show (List.length ((knA s n).filter (fun e:Ent=>!wiB e.f (layN c n f)) ++ [(⟨layN c n f,false⟩:Ent)]))≤_
   rw [List.length_append]
   have:=List.length_filter_le (fun e:Ent=>!wiB e.f (layN c n f)) (knA s n)
   simpa using this
  have hu:undU (layR n (layN c n f) (lkS' c s (2 * (knA s n).length)))≤undU s + 1:=by
   refine set_le (g:=fun l:List Ent=>l.countP (fun e=>!e.d)) (fun l=>by simp) (s:=s) (n:=n) (d:=1) ?_
   rw [List.countP_append]
   have h1:List.countP (fun e:Ent=>!e.d) ((knA s n).filter (fun e:Ent=>!wiB e.f (layN c n f)))≤List.countP (fun e:Ent=>!e.d) (knA s n):=List.Sublist.countP_le List.filter_sublist
   have h2:List.countP (fun e:Ent=>!e.d) [(⟨layN c n f,false⟩:Ent)] = 1:=rfl
   show List.countP (fun e:Ent=>!e.d) ((knA s n).filter (fun e:Ent=>!wiB e.f (layN c n f))) + _≤_
   omega
  have e1:(spS' c (layR n (layN c n f) (lkS' c s (2 * (knA s n).length)))).lf = s.lf - 1:=hw
  refine ⟨⟨?_,?_,?_,?_⟩,?_,?_⟩
  ·rw [e1]
   show (entE (layR n (layN c n f) (lkS' c s (2 * (knA s n).length))):Int) + _≤_
   omega
  ·rw [e1];omega
  ·intro hf
   have hf':((s.fu || (decide (wrap64 (s.lo - ((2 * (knA s n).length:Nat):Int)) < 0) && c.bd)) || (decide (wrap64 (s.lf - 1) < 0) && c.bd)) = false:=hf
   rw [hb,hw] at hf'
   simp only [Bool.or_eq_false_iff,Bool.and_true,decide_eq_false_iff_not] at hf'
   rw [e1]
   omega
  ·show (s.ok && decide ((knA s n).length≤big)) = true
   rw [h.ok]
   simpa using hbig
  ·rw [e1]
   show (undU (layR n (layN c n f) (lkS' c s (2 * (knA s n).length))):Int) + _≤_
   omega
  ·rw [e1];omega
theorem layF_gd {c:Cd} (hb:c.bd = true) {n:Nat}:∀ (l:List CF) {m:Nat} {s:Sr},m + l.length≤10000000→Gd m s→Gd (m + l.length) (l.foldl (fun s g=>layS c n g s) s)∧(undU (l.foldl (fun s g=>layS c n g s) s):Int) + (l.foldl (fun s g=>layS c n g s) s).lf≤undU s + s.lf
 | [],m,s,_,h=>⟨h,Int.le_refl _⟩
 | g :: l,m,s,hm,h=>by
  simp only [List.length_cons] at hm
  obtain ⟨h1,h2,-⟩:=layS_gd hb (n:=n) (f:=g) (by omega) h
  obtain ⟨g1,g2⟩:=layF_gd hb (n:=n) l (m:=m + 1) (by omega) h1
  rw [List.foldl_cons]
  exact ⟨g1.wide (by simp only [List.length_cons];omega),Int.le_trans g2 h2⟩
structure Spn (d:Nat) (r r':List CF × Sr):Prop where
 sum:(r'.1.length:Int) + r'.2.lf = r.1.length + r.2.lf
 le:r'.2.lf≤r.2.lf
 lo:r.2.lf - d≤r'.2.lf
 kn:r'.2.kn = r.2.kn
 fu:(r.2.fu = false→0≤r.2.lf)→r'.2.fu = false→0≤r'.2.lf
 ok:r.2.ok = true→r'.2.ok = true
theorem Spn.refl (r:List CF × Sr):Spn 0 r r:=⟨rfl,Int.le_refl _,by simp,rfl,fun h=>h,fun h=>h⟩
theorem Spn.trans {d e:Nat} {r r' r'':List CF × Sr} (h:Spn d r r') (g:Spn e r' r''):Spn (d + e) r r'' :=
 ⟨g.sum.trans h.sum,Int.le_trans g.le h.le,by have:=h.lo;have:=g.lo;omega,g.kn.trans h.kn,fun hf=>g.fu (h.fu hf),fun ho=>g.ok (h.ok ho)⟩
theorem Spn.wide {d e:Nat} {r r':List CF × Sr} (h:Spn d r r') (hd:d≤e):Spn e r r':=⟨h.sum,h.le,by have:=h.lo;omega,h.kn,h.fu,h.ok⟩
theorem fnG_sp {c:Cd} (hb:c.bd = true) {r:List CF × Sr} {g:CF} (h:(r.1.length:Int) + r.2.lf≤3001) (h2:-500000≤r.2.lf):Spn 1 r (fnG c r g):=by
 unfold fnG
 split
 ·have hw:wrap64 (r.2.lf - 1) = r.2.lf - 1:=w64_in (by omega) (by omega)
  have e1:(spS' c { r.2 with ok:=r.2.ok && decide (r.1.length≤bigC) }).lf = r.2.lf - 1:=hw
  refine ⟨?_,?_,?_,rfl,fun hf hf2=>?_,fun ho=>?_⟩
  ·rw [e1,List.length_append,List.length_singleton];omega
  ·rw [e1];omega
  ·rw [e1];omega
  ·have hf':(r.2.fu || (decide (wrap64 (r.2.lf - 1) < 0) && c.bd)) = false:=hf2
   rw [hb,hw] at hf'
   simp only [Bool.or_eq_false_iff,Bool.and_true,decide_eq_false_iff_not] at hf'
   rw [e1];omega
  ·show (r.2.ok && decide (r.1.length≤bigC)) = true
   rw [ho]
   have:r.1.length≤bigC:=by unfold bigC;omega
   simpa using this
 ·exact (Spn.refl r).wide (by omega)
theorem foldl_sp {β:Type} {d:Nat} (g:List CF × Sr→β→List CF × Sr):∀ (l:List β) {r:List CF × Sr},(r.1.length:Int) + r.2.lf≤3001→(-500000:Int) + ((d * l.length:Nat):Int)≤r.2.lf→(∀ b∈l,∀ r,(r.1.length:Int) + r.2.lf≤3001→(-500000:Int) + ((d:Nat):Int)≤r.2.lf→Spn d r (g r b))→Spn (d * l.length) r (l.foldl g r)
 | [],r,_,_,_=>by simpa using Spn.refl r
 | b :: l,r,h1,h2,hg=>by
  have e:d * (b :: l).length = d + d * l.length:=by rw [List.length_cons,Nat.mul_succ];omega
  rw [e] at h2 ⊢
  have s1:=hg b (by simp) r h1 (by omega)
  have:=s1.lo
  exact s1.trans (foldl_sp g l (by rw [s1.sum];exact h1) (by omega) (fun b' hb'=>hg b' (by simp [hb'])))
theorem meF_len (f:CF) (a i:Nat):(meF f a i).length≤2:=by unfold meF;split <;> split <;> simp
theorem fnS_sp {c:Cd} (hb:c.bd = true) {f:CF} {i a:Nat} {r:List CF × Sr} (h:(r.1.length:Int) + r.2.lf≤3001) (h2:(-500000:Int) + ((2:Nat):Int)≤r.2.lf):Spn 2 r (fnS c f i r a):=by
 unfold fnS
 split
 ·have hl:=meF_len f a i
  refine (foldl_sp (d:=1) (fnG c) _ h (by omega) (fun g _ r' h1 h2=>fnG_sp hb h1 (by omega))).wide (by omega)
 ·exact (Spn.refl r).wide (by omega)
theorem fndF_sp {c:Cd} (hb:c.bd = true) {f:CF} {i:Nat} {r:List CF × Sr} (h:(r.1.length:Int) + r.2.lf≤3001) (h2:(-500000:Int) + ((48:Nat):Int)≤r.2.lf):Spn 48 r (fndF c f r i) :=
 foldl_sp (d:=2) (fnS c f i) (List.range 24) h (by simpa using h2) (fun a _ r' h1 h2=>fnS_sp hb h1 h2)
theorem loL_len {f:CF} (h:FoOk f):(loL f).length≤24:=by
 have h1:=List.length_filter_le (fun i=>!decide ((owA f i).l∈rcL f)) (List.range f.ow.length)
 rw [List.length_range] at h1
 exact Nat.le_trans h1 h.owLen
theorem fgS_sp {c:Cd} (hb:c.bd = true) {g:CF} (hg:FoOk g) {r:List CF × Sr} {res:List CF} (h:(r.1.length:Int) + r.2.lf≤3001) (h2:0≤r.2.lf):Spn 1152 r (fgS c g r res).2∧(fgS c g r res).1.length = res.length + 1:=by
 unfold fgS
 split
 ·exact ⟨(Spn.refl r).wide (by omega),by simp⟩
 ·have hl:=loL_len hg
  exact ⟨(foldl_sp (d:=48) (fndF c g) _ h (by omega) (fun i _ r' h1 h2=>fndF_sp hb h1 h2)).wide (by omega),by simp⟩
theorem fgN_gd {c:Cd} (hb:c.bd = true):∀ (n k:Nat) {res:List CF} {r:List CF × Sr} {C0 m:Nat},CsOk r.1→CsOk res→(r.1.length:Int) + r.2.lf = C0→C0≤3001→k≤C0→C0 < n + k→1152≤m→m≤1000000→Gd m r.2 →
  Gd m (fgN c n k res r).2∧(fgN c n k res r).1.length≤res.length + (C0 - k)∧(fgN c n k res r).2.lf≤r.2.lf
 | 0,k,res,r,C0,m,_,_,_,_,hk,hn,_,_,_=>by omega
 | n + 1,k,res,r,C0,m,hr,hs,hC,hC1,hk,hn,hm,hm2,h=>by
  unfold fgN
  split
  ·rename_i hc
   have hg:Td (r.1.getD k ⟨[],[],[]⟩):=by
    rw [List.getD_eq_getElem?_getD,List.getElem?_eq_getElem hc.1]
    exact hr _ (List.getElem_mem hc.1)
   have hlf:=h.fu hc.2
   obtain ⟨sp,hlen⟩:=fgS_sp hb hg.ok (r:=r) (res:=res) (by omega) hlf
   obtain ⟨o1,o2,o3,-⟩:=fgS_ok (c:=c) hg hr hs
   have hE:entE (fgS c (r.1.getD k ⟨[],[],[]⟩) r res).2.2 = entE r.2:=by unfold entE;rw [o3]
   have h1:Gd m (fgS c (r.1.getD k ⟨[],[],[]⟩) r res).2.2:=⟨by have:=h.en;have:=sp.le;rw [hE];omega,by have:=sp.lo;omega,sp.fu h.fu,sp.ok h.ok⟩
   have hC':=sp.sum
   obtain ⟨g1,g2,g3⟩:=fgN_gd hb n (k + 1) (C0:=C0) (m:=m) o2 o1 (by rw [hC'];exact hC) hC1 (by omega) (by omega) hm hm2 h1
   exact ⟨g1,by rw [hlen] at g2;omega,Int.le_trans g3 sp.le⟩
  ·exact ⟨h,Nat.le_add_right _ _,Int.le_refl _⟩
theorem arS_gd {c:Cd} (hb:c.bd = true) {fuel a b:Nat} (hfu:3002≤fuel) {f:CF} {s:Sr} {m:Nat} (hm:1152≤m) (hm2:m≤900000) (hf:Td f) (h:Gd m s) (hlf:s.lf≤3000):Gd (m + 3001) (arS c fuel a b f s)∧(undU (arS c fuel a b f s):Int) + (arS c fuel a b f s).lf≤undU s + s.lf:=by
 unfold arS
 split
 ·obtain ⟨h1,h2,-⟩:=layS_gd hb (n:=b) (f:=f) (by omega) h
  exact ⟨h1.wide (by omega),h2⟩
 ·have h1:CsOk [f]:=fun x hx=>by rw [List.mem_singleton] at hx;subst hx;exact hf
  have hw:Gd m (wrS a 2 s):=⟨h.en,h.lo,h.fu,h.ok⟩
  by_cases hneg:s.lf < -1
  ·
   have hfu':s.fu = true:=by
    cases hx:s.fu with
    | true=>rfl
    | false=>have:=h.fu hx;omega
   have e:fgN c fuel 0 [] ([f],wrS a 2 s) = ([],wrS a 2 s):=by
    match fuel,hfu with
    | n + 1,_ =>
     unfold fgN
     rw [if_neg]
     rintro ⟨-,hx⟩
     have:s.fu = false:=hx
     rw [hfu'] at this
     cases this
   simp only [e,List.foldl_nil]
   exact ⟨hw.wide (by omega),Int.le_refl _⟩
  ·obtain ⟨C0,hC0⟩:∃ C0:Nat,(C0:Int) = 1 + s.lf:=⟨(1 + s.lf).toNat,by omega⟩
   obtain ⟨g1,g2,g3⟩:=fgN_gd hb fuel 0 (res:=[]) (r:=([f],wrS a 2 s)) (C0:=C0) (m:=m) h1 (fun x hx=>by simp at hx) (by rw [hC0];rfl) (by omega) (by omega) (by omega) hm (by omega) hw
   obtain ⟨o1,o2,-⟩:=fgN_ok (c:=c) fuel 0 (r:=([f],wrS a 2 s)) (res:=[]) h1 (fun x hx=>by simp at hx)
   simp only [List.length_nil,Nat.zero_add,Nat.sub_zero] at g2
   obtain ⟨k1,k2⟩:=layF_gd hb (n:=b) (fgN c fuel 0 [] ([f],wrS a 2 s)).1 (m:=m) (by omega) g1
   refine ⟨k1.wide (by omega),Int.le_trans k2 ?_⟩
   have e:undU (fgN c fuel 0 [] ([f],wrS a 2 s)).2 = undU s:=by unfold undU;rw [o2];rfl
   rw [e]
   have:(fgN c fuel 0 [] ([f],wrS a 2 s)).2.lf≤s.lf:=g3
   omega
theorem gd_lf {m:Nat} {s:Sr} (h:Gd m s):s.lf≤3000:=by have:=h.en;omega
theorem arF_gd {c:Cd} (hb:c.bd = true) {fuel a b:Nat} (hfu:3002≤fuel):∀ (l:List CF) {m:Nat} {s:Sr},1152≤m→m + 3001 * l.length≤900000→CsOk l→Gd m s→Gd (m + 3001 * l.length) (l.foldl (fun s g=>arS c fuel a b g s) s)∧(undU (l.foldl (fun s g=>arS c fuel a b g s) s):Int) + (l.foldl (fun s g=>arS c fuel a b g s) s).lf≤undU s + s.lf
 | [],m,s,_,_,_,h=>⟨h,Int.le_refl _⟩
 | g :: l,m,s,hm,hm2,hl,h=>by
  have e:3001 * (g :: l).length = 3001 + 3001 * l.length:=by rw [List.length_cons,Nat.mul_succ];omega
  rw [e] at hm2 ⊢
  obtain ⟨h1,h2⟩:=arS_gd hb (a:=a) (b:=b) hfu hm (by omega) (hl g (by simp)) h (gd_lf h)
  obtain ⟨g1,g2⟩:=arF_gd hb (a:=a) (b:=b) hfu l (m:=m + 3001) (by omega) (by omega) (fun x hx=>hl x (by simp [hx])) h1
  rw [List.foldl_cons]
  exact ⟨g1.wide (by omega),Int.le_trans g2 h2⟩
theorem fiF_len (f:CF) (c:Nat):(fiF f c).1.length≤2:=by
 unfold fiF
 split
 ·simp
 ·unfold fiI
  split
  ·simp
  ·split <;> simp
theorem foldl_len {α β:Type} {d:Nat} (g:List α × Bool→β→List α × Bool):∀ (l:List β) (r:List α × Bool),(∀ b∈l,∀ r,(g r b).1.length≤r.1.length + d)→(l.foldl g r).1.length≤r.1.length + d * l.length
 | [],r,_=>by simp
 | b :: l,r,hg=>by
  have h1:=foldl_len g l (g r b) (fun b' hb'=>hg b' (by simp [hb']))
  have h2:=hg b (by simp) r
  rw [List.foldl_cons,List.length_cons,Nat.mul_succ]
  omega
theorem opF_len {f:CF} (h:FoOk f) (v:Nat):(opF f v).1.length≤96:=by
 unfold opF
 split
 ·simp
 ·split
  ·exact Nat.le_trans (fiF_len _ _) (by omega)
  ·have h1:=foldl_len (d:=4) (fun r i=>opG f v i r) (List.range f.ow.length) (([]:List CF),false) (fun i _ r=>by
    have h2:=foldl_len (d:=2) (fun r g=>fiA r g (g.cl.getD (1 + v) 0)) (meF f (f.cl.getD (1 + v) 0) i) r (fun g _ r=>by
     unfold fiA
     have:=fiF_len g (g.cl.getD (1 + v) 0)
     rw [List.length_append]
     omega)
    have h3:=meF_len f (f.cl.getD (1 + v) 0) i
    exact Nat.le_trans h2 (by omega))
   rw [List.length_range] at h1
   have:=h.owLen
   simp only [List.length_nil] at h1
   exact Nat.le_trans h1 (by omega)
theorem cmO_len (f:CF) (n:Nd):(cmO f n).1.length≤1∧(cmO f n).2.length≤1:=by
 constructor
 ·simp only [cmO];split <;> simp
 ·simp only [cmO];split <;> simp
theorem efO_len {f:CF} (h:FoOk f) (n:Nd):(efO n f).nx.length≤96∧(efO n f).ot.length≤1:=by
 have op:∀ v g,(ofOpen (opF f v) g).nx.length≤96∧(ofOpen (opF f v) g).ot.length≤1:=fun v g=>⟨by simpa [ofOpen] using opF_len h v,by simp [ofOpen]⟩
 have cm:=cmO_len f n
 unfold efO
 split
 ·simp [out0]
 ·split
  ·simp
  ·split
   ·exact op _ _
   ·split
    ·exact op _ _
    ·split
     ·split <;> simp
     ·split
      ·exact op _ _
      ·split
       ·simp
       ·split
        ·exact ⟨Nat.le_trans cm.1 (by omega),cm.2⟩
        ·split
         ·exact ⟨Nat.le_trans cm.2 (by omega),cm.1⟩
         ·simp
theorem wrI_gd {b:Bool} {n k m:Nat} {s:Sr} (h:Gd m s):Gd m (wrI b n k s)∧undU (wrI b n k s) = undU s∧(wrI b n k s).lf = s.lf:=by
 unfold wrI
 split
 ·exact ⟨⟨h.en,h.lo,h.fu,h.ok⟩,rfl,rfl⟩
 ·exact ⟨h,rfl,rfl⟩
theorem stS_gd {c:Cd} (hb:c.bd = true) {fuel n:Nat} (hfu:3002≤fuel) {f:CF} {s:Sr} (hv:(c.nds.getD n nd0).v < 4) (ha:(c.nds.getD n nd0).ai < 4) (hf:Td f) (h:Gd 1152 s):Gd 500000 (stS c fuel n f s)∧(undU (stS c fuel n f s):Int) + (stS c fuel n f s).lf≤undU s + s.lf:=by
 obtain ⟨t1,t2⟩:=efO_td hv ha hf
 obtain ⟨l1,l2⟩:=efO_len hf.ok (c.nds.getD n nd0)
 unfold stS
 obtain ⟨a1,b1,c1⟩:=wrI_gd (b:=decide ((c.nds.getD n nd0).op = 0) && !decide (loL f = [])) (n:=n) (k:=2) h
 obtain ⟨a2,b2,c2⟩:=wrI_gd (b:=(efO (c.nds.getD n nd0) f).nu) (n:=n) (k:=3) a1
 obtain ⟨a3,b3,c3⟩:=wrI_gd (b:=(efO (c.nds.getD n nd0) f).da) (n:=n) (k:=4) a2
 obtain ⟨s3,hs3⟩:∃ s3,s3 = wrI (efO (c.nds.getD n nd0) f).da n 4 (wrI (efO (c.nds.getD n nd0) f).nu n 3 (wrI (decide ((c.nds.getD n nd0).op = 0) && !decide (loL f = [])) n 2 s)):=⟨_,rfl⟩
 rw [← hs3] at a3 b3 c3
 have a4:Gd 1152 (fuS (efO (c.nds.getD n nd0) f).fu s3):=⟨a3.en,a3.lo,fun hx=>a3.fu (by
  have:(s3.fu || (efO (c.nds.getD n nd0) f).fu) = false:=hx
  rw [Bool.or_eq_false_iff] at this
  exact this.1),a3.ok⟩
 obtain ⟨g1,g2⟩:=arF_gd hb (a:=n) (b:=(c.nds.getD n nd0).nx) hfu (efO (c.nds.getD n nd0) f).nx (m:=1152) (by omega) (by omega) t1 a4
 obtain ⟨k1,k2⟩:=arF_gd hb (a:=n) (b:=(c.nds.getD n nd0).ot) hfu (efO (c.nds.getD n nd0) f).ot (m:=1152 + 3001 * (efO (c.nds.getD n nd0) f).nx.length) (by omega) (by omega) t2 g1
 simp only [← hs3]
 refine ⟨k1.wide (by omega),?_⟩
 refine Int.le_trans k2 (Int.le_trans g2 ?_)
 show (undU s3:Int) + s3.lf≤_
 rw [b3,c3,b2,c2,b1,c1]
 exact Int.le_refl _
def NdV (c:Cd):Prop:=∀ n,(c.nds.getD n nd0).v < 4∧(c.nds.getD n nd0).ai < 4
theorem viN_gd {c:Cd} (hb:c.bd = true) (hc:NdV c) {fuel n:Nat} (hfu:3002≤fuel):∀ (l:List CF) {s:Sr},CsOk l→InS s→Gd 500000 s→Gd 500000 (viN c fuel n l s)∧InS (viN c fuel n l s)∧(undU (viN c fuel n l s):Int) + (viN c fuel n l s).lf≤undU s + s.lf
 | [],s,_,hi,h=>⟨h,hi,Int.le_refl _⟩
 | f :: r,s,hl,hi,h=>by
  unfold viN
  split
  ·exact ⟨h,hi,Int.le_refl _⟩
  ·rename_i hf
   have hlf:=h.fu (by simpa using hf)
   have h':Gd 1152 s:=⟨h.en,by omega,h.fu,h.ok⟩
   obtain ⟨g1,g2⟩:=stS_gd hb hfu (hc n).1 (hc n).2 (hl f (by simp)) h'
   obtain ⟨k1,k2,k3⟩:=viN_gd hb hc hfu r (fun x hx=>hl x (by simp [hx])) (stS_in (hc n).1 (hc n).2 (hl f (by simp)) hi) g1
   exact ⟨k1,k2,Int.le_trans k3 g2⟩
theorem frE_ok {l:List Ent} (h:∀ e∈l,Td e.f):CsOk (frE l):=by
 intro f hf
 obtain ⟨e,he,rfl⟩:=List.mem_map.1 hf
 exact h e (List.mem_filter.1 he).1
theorem viS_gd {c:Cd} (hb:c.bd = true) (hc:NdV c) {fuel n:Nat} (hfu:3002≤fuel) {s:Sr} (hi:InS s) (h:Gd 500000 s) (hp:peS s = some n):Gd 500000 (viS c fuel n s)∧InS (viS c fuel n s)∧(undU (viS c fuel n s):Int) + (viS c fuel n s).lf + 1≤undU s + s.lf:=by
 have hp':=List.findIdx?_eq_some_iff_getElem.1 hp
 obtain ⟨hn,hany,-⟩:=hp'
 have hkn:knA s n = s.kn[n]:=by unfold knA;rw [List.getD_eq_getElem?_getD,List.getElem?_eq_getElem hn];rfl
 have hu:undU { s with kn:=s.kn.set n ((knA s n).map (fun e=>⟨e.f,true⟩)) } + 1≤undU s:=by
  have h1:=sumB_set (fun l:List Ent=>l.countP (fun e=>!e.d)) [] s.kn n ((knA s n).map (fun e=>⟨e.f,true⟩))
  rw [if_pos hn,if_pos hn] at h1
  have h2:List.countP (fun e:Ent=>!e.d) ((knA s n).map (fun e=>(⟨e.f,true⟩:Ent))) = 0:=by
   rw [List.countP_eq_zero]
   intro e he
   obtain ⟨x,-,rfl⟩:=List.mem_map.1 he
   simp
  have h3:0 < List.countP (fun e:Ent=>!e.d) (s.kn.getD n []):=by
   rw [List.countP_pos_iff]
   obtain ⟨e,he,hd⟩:=List.any_eq_true.1 hany
   exact ⟨e,by rw [List.getD_eq_getElem?_getD,List.getElem?_eq_getElem hn];exact he,hd⟩
  unfold undU
  simp only [h2] at h1
  show sumB (fun l:List Ent=>l.countP (fun e=>!e.d)) (s.kn.set n ((knA s n).map (fun e=>(⟨e.f,true⟩:Ent)))) + 1≤_
  omega
 have he:entE { s with kn:=s.kn.set n ((knA s n).map (fun e=>⟨e.f,true⟩)) }≤entE s:=by
  have:=set_le (g:=List.length) (fun l=>by simp) (s:=s) (n:=n) (d:=0) (x:=(knA s n).map (fun e=>(⟨e.f,true⟩:Ent))) (by simp)
  simpa [entE] using this
 have h':Gd 500000 { s with kn:=s.kn.set n ((knA s n).map (fun e=>⟨e.f,true⟩)) }:=⟨by have:=h.en;show (entE _:Int) + s.lf≤3000;omega,h.lo,h.fu,h.ok⟩
 have hi':InS { s with kn:=s.kn.set n ((knA s n).map (fun e=>⟨e.f,true⟩)) }:=hi.set n (fun e he=>by
  obtain ⟨x,hx,rfl⟩:=List.mem_map.1 he
  exact hi.at n x hx)
 obtain ⟨g1,g2,g3⟩:=viN_gd hb hc (n:=n) hfu (frE (knA s n)) (frE_ok (hi.at n)) hi' h'
 refine ⟨g1,g2,?_⟩
 show (undU (viN c fuel n (frE (knA s n)) { s with kn:=s.kn.set n ((knA s n).map (fun e=>⟨e.f,true⟩)) }):Int) + (viN c fuel n (frE (knA s n)) { s with kn:=s.kn.set n ((knA s n).map (fun e=>⟨e.f,true⟩)) }).lf + 1≤_
 have:({ s with kn:=s.kn.set n ((knA s n).map (fun e=>⟨e.f,true⟩)) }:Sr).lf = s.lf:=rfl
 rw [this] at g3
 omega
theorem ruN_gd {c:Cd} (hb:c.bd = true) (hc:NdV c) {fuel:Nat} (hfu:3002≤fuel):∀ (n:Nat) {s:Sr},InS s→Gd 500000 s→(undU s:Int) + s.lf < n→0 < n→(ruN c fuel n s).ok = true
 | 0,s,_,_,_,h=>by omega
 | n + 1,s,hi,h,hn,_=>by
  unfold ruN
  split
  ·exact h.ok
  ·rename_i k hk
   split
   ·exact h.ok
   ·rename_i hf
    obtain ⟨g1,g2,g3⟩:=viS_gd hb hc hfu hi h hk
    have hlf:=h.fu (by simpa using hf)
    have hu:0 < undU s:=by
     obtain ⟨h1,h2,-⟩:=List.findIdx?_eq_some_iff_getElem.1 hk
     have h3:=sumB_get (fun l:List Ent=>l.countP (fun e=>!e.d)) [] s.kn k h1
     have h4:0 < List.countP (fun e:Ent=>!e.d) (s.kn.getD k []):=by
      rw [List.countP_pos_iff]
      obtain ⟨e,he,hd⟩:=List.any_eq_true.1 h2
      exact ⟨e,by rw [List.getD_eq_getElem?_getD,List.getElem?_eq_getElem h1];exact he,hd⟩
     unfold undU
     omega
    exact ruN_gd hb hc hfu n g2 g1 (by omega) (by omega)
end Go.Proofs.YtciihepbeacppaaGreat
