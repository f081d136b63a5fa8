import Derived.Test.YtciihepbeacppaaGreatM10
import Derived.Deep.Cut
import Derived.Deep.CutRange
import Derived.Deep.DeepCutAuto
set_option maxRecDepth 100000
set_option maxHeartbeats 0
namespace Go.Proofs.YtciihepbeacppaaGreat
open Tryz Go.RowKit List World Below
set_option linter.unusedVariables false
structure JI where
 nx:List CF
 ot:List CF
 nu:Bool
 da:Bool
 fu:Bool
def DC:JI:=⟨[],[],false,false,false⟩
def qE(f:CF)(k i:Nat):Nat:=if k=1 then f.cl.getD (1+i) 0 else f.cl.getD 0 0
def nZ(f:CF)(i c:Nat):CF:={ f with cl:=f.cl.set i c }
def yz(f:CF)(p:Pr):CF:={ f with ow:=f.ow++[p] }
def dx(f:CF)(a b:Nat):CF:={ f with ap:=f.ap++[⟨2,a,b⟩] }
def setO(f:CF)(i:Nat)(p:Pr):CF:={ f with ow:=f.ow.set i p }
def jD(f:CF)(i:Nat):CF:={ f with ow:=Gv f.ow i }
def owA(f:CF)(i:Nat):Pr:=f.ow.getD i aE
def kF(f:CF)(c i:Nat):CF:=wH f (owA f i).l c
def Be(f:CF)(c i:Nat):CF:=yz (setO f i ⟨(owA f i).k,(owA f i).l,c⟩) ⟨4,c,(owA f i).r⟩
def gO(f:CF)(c i:Nat):List CF:=(if gi f c (owA f i).l=true then [] else [kF f c i])++(if (owA f i).k=4 then [Be f c i] else [])
def qa(f:CF)(i:Nat):CF:=setO f i ⟨3,(owA f i).l,(owA f i).r⟩
def Ai(f:CF)(c i:Nat):CF:=yz (setO f i ⟨3,c,a8 f⟩) ⟨4,a8 f,(owA f i).r⟩
def Vw(f:CF)(c i:Nat):List CF × Bool:=if (owA f i).k=3 then ([f],false) else if 24<=a8 f then ([qa f i],true) else ([qa f i,Ai f c i],false)
def oG(f:CF)(c:Nat):List CF × Bool:=match er f.ow c with|none=>([],false)|some i=>Vw f c i
def BY(r:List CF × Bool)(g:CF)(c:Nat):List CF × Bool:=(r.1++(oG g c).1,r.2||(oG g c).2)
def wP(f:CF)(v i:Nat)(r:List CF × Bool):List CF × Bool:=(gO f (f.cl.getD (1+v) 0) i).foldl (λr g=>BY r g (g.cl.getD (1+v) 0)) r
def jV(f:CF)(v:Nat):List CF × Bool × Bool × Bool :=
 if f.cl.getD (1+v) 0=f.cl.getD 0 0 then ([],true,false,false)
 else if (er f.ow (f.cl.getD (1+v) 0)).isSome=true then ((oG f (f.cl.getD (1+v) 0)).1,false,false,(oG f (f.cl.getD (1+v) 0)).2)
 else
  let r:=(range f.ow.length).foldl (λr i=>wP f v i r) ([],false)
  (r.1,!gi f (f.cl.getD (1+v) 0) (f.cl.getD 0 0),true,r.2)
def pV(f:CF)(c:Nat):Nat:=(er f.ow c).getD 0
def jd(g:CF)(n:Nd):CF:=nZ g (1+n.v) (owA g (pV g (g.cl.getD (1+n.ai) 0))).r
def uU(g:CF)(n:Nd):CF:=let i:=pV g (g.cl.getD (1+n.v) 0);setO g i ⟨(owA g i).k,(owA g i).l,qE g n.ak n.ai⟩
def xV(g:CF)(v:Nat):CF :=
 let c:=g.cl.getD (1+v) 0
 let t:=jD g (pV g c)
 t.ow.foldl (λh p=>dx h c p.l) (dx t c (t.cl.getD 0 0))
def I6(f:CF)(v:Nat):CF:=nZ (yz f ⟨3,a8 f,f.cl.getD 0 0⟩) (1+v) (a8 f)
def cH(r:List CF × Bool × Bool × Bool)(g:CF->CF):JI:=⟨r.1.map (λx=>bR (g x)),[],r.2.1,r.2.2.1,r.2.2.2⟩
def og(f:CF)(n:Nd):List CF × List CF :=
 let a:=f.cl.getD (1+n.v) 0
 let b:=qE f n.ak n.ai
 (if gi f a b=true then [] else [bR (wH f a b)],if a=b then [] else [bR (dx f a b)])
def cN(n:Nd)(f:CF):JI :=
 if n.op=0 then DC
 else if n.op=1 then ⟨[bR (nZ f (1+n.v) (qE f n.ak n.ai))],[],false,false,false⟩
 else if n.op=2 then cH (jV f n.ai) (λg=>jd g n)
 else if n.op=3 then cH (jV f n.v) (λg=>uU g n)
 else if n.op=4 then (if 24<=a8 f then ⟨[],[],false,false,true⟩ else ⟨[bR (I6 f n.v)],[],false,false,false⟩)
 else if n.op=5 then cH (jV f n.v) (λg=>xV g n.v)
 else if n.op=7 then ⟨[bR f],[bR f],false,false,false⟩
 else if n.op=8 then ⟨(og f n).1,(og f n).2,false,false,false⟩
 else if n.op=9 then ⟨(og f n).2,(og f n).1,false,false,false⟩
 else ⟨[bR f],[],false,false,false⟩
theorem im{f:CF}{i:Nat}(hi:i<5):f.cl.getD i 0∈kg f:=by
 have:i=0\/i=1\/i=2\/i=3\/i=4:=by omega
 rcases this with rfl|rfl|rfl|rfl|rfl <;> simp[kg]
theorem rH{f:CF}(h5:f.cl.length=5):kg f=f.cl:=by
 match hc:f.cl,h5 with
 |[a,b,c,d,e],_=>simp[kg,hc]
theorem au.mk'{f:CF}(c5:f.cl.length=5)(cl:∀c∈f.cl,c<24)(ow:∀p∈f.ow,p.l<24/\p.r<24)(ap:∀p∈f.ap,p.l<24/\p.r<24)(lf:Eh f.ow)(kd:∀p∈f.ap,p.k=2):au f:=⟨c5,by rw[rH c5];exact cl,ow,ap,lf,kd⟩
theorem au.cl'{f:CF}(h:au f):∀c∈f.cl,c<24:=by rw[<-rH h.c5];exact h.cl
theorem au.get{f:CF}(h:au f)(i:Nat):f.cl.getD i 0<24:=by
 by_cases hi:i<5
 .exact h.cl _ (im hi)
 .rw[getD_eq_getElem?_getD,getElem?_eq_none (by have:=h.c5;omega)];decide
theorem au.cT{f:CF}(h:au f)(k i:Nat):qE f k i<24:=by unfold qE;split <;> exact h.get _
theorem au.oA{f:CF}(h:au f)(i:Nat):(owA f i).l<24/\(owA f i).r<24:=by
 unfold owA;by_cases hi:i<f.ow.length
 .exact h.ow _ (dl hi)
 .rw[getD_eq_getElem?_getD,getElem?_eq_none (by omega)];decide
theorem au.sC{f:CF}(h:au f)(i:Nat){c:Nat}(hc:c<24):au (nZ f i c):=by
 refine au.mk' ?_ ?_ h.ow h.ap h.lf h.kd
 .simpa[nZ] using h.c5
 .intro d hd;rcases mem_or_eq_of_mem_set hd with hd|rfl
  .exact h.cl' d hd
  .exact hc
theorem au.ly{f:CF}(h:au f){p:Pr}(h1:p.l<24)(h2:p.r<24)(hn:∀q∈f.ow,q.l≠p.l):au (yz f p):=by
 refine au.mk' h.c5 h.cl' ?_ h.ap ?_ h.kd
 .intro q hq;rcases mem_append.1 hq with hq|hq
  .exact h.ow q hq
  .rw[mem_singleton]at hq;subst hq;exact⟨h1,h2⟩
 .have hl:=h.lf;unfold Eh at hl ⊢;show((f.ow++[p]).map (·.l)).Nodup;rw[map_append,nodup_append];refine⟨hl,by simp,?_⟩;intro a ha b hb e;obtain⟨q,hq,rfl⟩:=mem_map.1 ha;simp only[map_cons,map_nil,mem_singleton]at hb;exact hn q hq (e.trans hb)
theorem au.pa{f:CF}(h:au f){a b:Nat}(h1:a<24)(h2:b<24):au (dx f a b):=by
 refine au.mk' h.c5 h.cl' h.ow ?_ h.lf ?_
 .intro q hq;rcases mem_append.1 hq with hq|hq
  .exact h.ap q hq
  .rw[mem_singleton]at hq;subst hq;exact⟨h1,h2⟩
 .intro q hq;rcases mem_append.1 hq with hq|hq
  .exact h.kd q hq
  .rw[mem_singleton]at hq;subst hq;rfl
theorem tI{l:List Pr}{i:Nat}{p:Pr}(hp:i<l.length->p.l=(l.getD i aE).l):(l.set i p).map (·.l)=l.map (·.l):=by
 rw[map_set];by_cases hi:i<l.length
 .rw[hp hi,gx hi];conv=>rhs;rw[<-@List.set_getElem_self _ (l.map (·.l)) i (by simpa using hi)]
  simp
 .rw[set_eq_of_length_le (by simp;omega)]
theorem au.sO{f:CF}(h:au f){i:Nat}{p:Pr}(hl:i<f.ow.length->p.l=(f.ow.getD i aE).l)(h2:p.r<24)(h1:p.l<24):au (setO f i p):=by
 refine au.mk' h.c5 h.cl' ?_ h.ap ?_ h.kd
 .intro q hq;rcases mem_or_eq_of_mem_set hq with hq|rfl
  .exact h.ow q hq
  .exact⟨h1,h2⟩
 .have:=h.lf;unfold Eh at this ⊢;show((f.ow.set i p).map (·.l)).Nodup;rw[tI hl];exact this
theorem mM(l:List Pr)(i:Nat):(Gv l i).Sublist l:=by
 have e:l=(range l.length).map (λj=>l.getD j aE):=by
  refine ext_getElem (by simp) (λj h1 h2=>?_);rw[getElem_map,getElem_range,gx h1]
 unfold Gv qW;conv=>rhs;rw[e]
 exact filter_sublist.map _
theorem au.tk{f:CF}(h:au f)(i:Nat):au (jD f i):=au.mk' h.c5 h.cl' (λp hp=>h.ow p ((mM f.ow i).subset hp)) h.ap (h.lf.sublist ((mM f.ow i).map _)) h.kd
theorem tZ{k g c:Nat}(h1:k<24)(h2:c<24):l8 k g c<24:=by unfold l8;split <;> assumption
theorem au.jo{f:CF}(h:au f){a b:Nat}(ha:a<24)(aY:a=b\/(∀p∈f.ow,p.l≠a)\/∀p∈f.ow,p.l≠b):au (wH f a b):=by
 refine au.mk' ?_ ?_ ?_ ?_ ?_ ?_
 .show(f.cl.map _).length=5;simpa using h.c5
 .intro c hc;obtain⟨d,hd,rfl⟩:=mem_map.1 hc;exact tZ ha (h.cl' d hd)
 .intro p hp;obtain⟨q,hq,rfl⟩:=mem_map.1 hp;exact⟨tZ ha (h.ow q hq).1,tZ ha (h.ow q hq).2⟩
 .intro p hp;obtain⟨q,hq,rfl⟩:=mem_map.1 hp;exact⟨tZ ha (h.ap q hq).1,tZ ha (h.ap q hq).2⟩
 .have hl:=h.lf;unfold Eh at hl ⊢;show((f.ow.map (DM a b)).map (·.l)).Nodup;have e:((λx:Pr=>x.l) ∘ DM a b)=(l8 a b) ∘ (λx:Pr=>x.l):=rfl;rw[map_map,e,<-map_map];unfold List.Nodup at hl ⊢;rw[pairwise_map];refine List.Pairwise.imp_of_mem ?_ hl;intro x y hx hy hxy e2;obtain⟨p,hp,rfl⟩:=mem_map.1 hx;obtain⟨q,hq,rfl⟩:=mem_map.1 hy;unfold l8 at e2;rcases aY with rfl|aY|aY
  .split at e2 <;> split at e2 <;> omega
  .have:=aY p hp;have:=aY q hq;split at e2 <;> split at e2 <;> omega
  .rw[if_neg (aY p hp),if_neg (aY q hq)]at e2;exact hxy e2
 .intro p hp;obtain⟨q,hq,rfl⟩:=mem_map.1 hp;exact h.kd q hq
theorem pW:∀{l:List Pr} {c:Nat},er l c=none->∀p∈l,p.l≠c
 |[],_,_,p,hp=>by simp at hp
 |q::r,c,h,p,hp=>by
  unfold er at h;split at h
  .cases h
  .rename_i hq;rcases mem_cons.1 hp with rfl|hp
   .exact hq
   .exact pW (Option.map_eq_none_iff.1 h) p hp
theorem mn{f:CF}{a b:Nat}(h:gi f a b=false):a=b\/(∀p∈f.ow,p.l≠a)\/∀p∈f.ow,p.l≠b:=by
 unfold gi at h;split at h
 .exact zq0 (by assumption)
 .rw[Bool.or_eq_false_iff]at h;have h2:=h.2;unfold sM at h2;right;cases ha:er f.ow a with
  |none=>exact zq0 (pW ha)
  |some i =>
   cases hb:er f.ow b with
   |none=>exact zq1 (pW hb)
   |some j=>rw[ha,hb]at h2;simp at h2
theorem nV:∀(l:List Pr) (m:Nat),m<=qS m l/\∀p∈l,p.l<=qS m l/\p.r<=qS m l
 |[],m=>⟨zq4 _,λp hp=>by simp at hp⟩
 |q::r,m=>by
  obtain⟨h1,h2⟩:=nV r (max (max m q.l) q.r);have e:qS m (q::r)=qS (max (max m q.l) q.r) r:=rfl;rw[e];refine⟨by omega,λp hp=>?_⟩;rcases mem_cons.1 hp with rfl|hp
  .exact⟨by omega,by omega⟩
  .exact h2 p hp
theorem MZ{f:CF}:∀q∈f.ow,q.l≠a8 f:=by
 intro q hq;unfold a8;have h1:=((nV f.ow (tM f)).2 q hq).1;have h2:=(nV f.ap (qS (tM f) f.ow)).1;omega
theorem rY{f:CF}{i:Nat}(h:i<f.ow.length):owA f i∈f.ow:=dl h
theorem au.m1{f:CF}(h:au f){c i:Nat}(hd:gi f c (owA f i).l=false):au (kF f c i) :=
 h.jo (h.oA i).1 (by rcases mn hd with e|e|e;exact zq0 e.symm;exact zq1 (zq1 e);exact zq1 (zq0 e))
theorem xe{f:CF}{i:Nat}{p q:Pr}(hl:i<f.ow.length->p.l=(f.ow.getD i aE).l)(hq:q∈(setO f i p).ow):∃q'∈f.ow,q'.l=q.l:=by
 have e:=tI hl;have h1:q.l∈(f.ow.set i p).map (·.l):=mem_map_of_mem (f:=(·.l)) hq;rw[e]at h1;obtain⟨q',h2,h3⟩:=mem_map.1 h1;exact⟨q',h2,h3⟩
theorem au.m2{f:CF}(h:au f){c i:Nat}(hc:c<24)(hb:er f.ow c=none):au (Be f c i):=by
 have h1:au (setO f i ⟨(owA f i).k,(owA f i).l,c⟩):=h.sO (λ_=>rfl) hc (h.oA i).1;refine h1.ly hc (h.oA i).2 (λq hq e=>?_);obtain⟨q',h2,h3⟩:=xe (p:=⟨(owA f i).k,(owA f i).l,c⟩) (λ_=>rfl) hq;exact pW hb q' h2 (h3.trans e)
theorem au.f1{f:CF}(h:au f)(i:Nat):au (qa f i):=h.sO (λ_=>rfl) (h.oA i).2 (h.oA i).1
theorem au.f2{f:CF}(h:au f){c i:Nat}(hi:er f.ow c=some i)(hn:a8 f<24):au (Ai f c i):=by
 obtain⟨g1,g2⟩:=gg hi;have fY:c<24:=by rw[<-g2];exact(h.oA i).1
 have h1:au (setO f i ⟨3,c,a8 f⟩):=h.sO (λ_=>g2.symm) hn fY;refine h1.ly hn (h.oA i).2 (λq hq e=>?_);obtain⟨q',h2,h3⟩:=xe (λ_=>g2.symm) hq;exact MZ q' h2 (h3.trans e)
theorem rG{l:List Pr}{c:Nat}:(er l c).isSome=true↔∃p∈l,p.l=c:=by
 constructor
 .intro h;obtain⟨i,hi⟩:=Option.isSome_iff_exists.1 h;exact⟨_,xJ hi,(gg hi).2⟩
 .rintro⟨p,hp,rfl⟩;cases h:er l p.l with
  |none=>exact absurd rfl (pW h p hp)
  |some i=>rfl
structure pT(N v:Nat)(g:CF):Prop where
 ok:au g
 ln:g.ap.length<=N
 bg:(er g.ow (g.cl.getD (1+v) 0)).isSome=true
theorem BC{f:CF}{i:Nat}{p:Pr}{c:Nat}(hl:i<f.ow.length->p.l=(f.ow.getD i aE).l)(h:(er f.ow c).isSome=true):(er (setO f i p).ow c).isSome=true:=by
 rw[rG]at h ⊢;obtain⟨q,hq,rfl⟩:=h;have e:=tI hl;have h1:q.l∈f.ow.map (·.l):=mem_map_of_mem (f:=(·.l)) hq;rw[<-e]at h1;obtain⟨q',h2,h3⟩:=mem_map.1 h1;exact⟨q',h2,h3⟩
theorem KN{N v:Nat}{g:CF}(h:pT N v g):∀x∈(oG g (g.cl.getD (1+v) 0)).1,pT N v x:=by
 intro x hx;unfold oG at hx;cases hb:er g.ow (g.cl.getD (1+v) 0) with
 |none=>rw[hb]at hx;simp at hx
 |some i =>
  rw[hb]at hx;simp only[Vw]at hx;have h1:pT N v (qa g i):=⟨h.ok.f1 i,h.ln,BC (p:=⟨3,(owA g i).l,(owA g i).r⟩) (λ_=>rfl) h.bg⟩;split at hx
  .simp only[mem_singleton]at hx;subst hx;exact h
  .split at hx
   .simp only[mem_singleton]at hx;subst hx;exact h1
   .rename_i hn;simp only[mem_cons,not_mem_nil,or_false]at hx;rcases hx with rfl|rfl
    .exact h1
    .refine⟨h.ok.f2 hb (by omega),h.ln,?_⟩;have:=BC (f:=g) (i:=i) (p:=⟨3,g.cl.getD (1+v) 0,a8 g⟩) (λ_=>(gg hb).2.symm) h.bg;rw[rG]at this ⊢;obtain⟨p,hp,e⟩:=this;exact⟨p,mem_append_left _ hp,e⟩
theorem yK{N v:Nat}{f:CF}(hv:v<4)(h:au f)(hl:f.ap.length<=N)(hb:er f.ow (f.cl.getD (1+v) 0)=none){i:Nat}(hi:i<f.ow.length):∀x∈gO f (f.cl.getD (1+v) 0) i,pT N v x:=by
 intro x hx;unfold gO at hx;rcases mem_append.1 hx with hx|hx
 .split at hx
  .simp at hx
  .rename_i hd;simp only[mem_singleton]at hx;subst hx;refine⟨h.m1 (by simpa using hd),by simpa[kF,wH] using hl,?_⟩;have e:(kF f (f.cl.getD (1+v) 0) i).cl.getD (1+v) 0=(owA f i).l:=by
    show(f.cl.map _).getD (1+v) 0=_;have h5:=h.c5;rw[getD_eq_getElem?_getD,getElem?_map,getElem?_eq_getElem (by omega)];simp only[Option.map_some,Option.getD_some];unfold l8;rw[if_pos];rw[getD_eq_getElem?_getD,getElem?_eq_getElem (by omega)];rfl
   rw[e,rG];refine⟨DM (owA f i).l (f.cl.getD (1+v) 0) (owA f i),mem_map_of_mem (rY hi),?_⟩;show l8 _ _ _=_;unfold l8;split <;> rfl
 .split at hx
  .simp only[mem_singleton]at hx;subst hx;refine⟨h.m2 (h.get _) hb,hl,?_⟩;rw[rG];exact⟨⟨4,f.cl.getD (1+v) 0,(owA f i).r⟩,mem_append_right _ (by simp),rfl⟩
  .simp at hx
theorem qc{α β:Type}{P:α->Prop}(g:List α × Bool->β->List α × Bool):∀(l:List β) (r:List α × Bool),(∀x∈r.1,P x)->(∀b∈l,∀r,(∀x∈r.1,P x)->∀x∈(g r b).1,P x)->∀x∈(l.foldl g r).1,P x
 |[],_,hr,_=>hr
 |b::l,r,hr,hg=>qc g l (g r b) (hg b (by simp) r hr) (λb' uI=>hg b' (by simp[uI]))
theorem lX{N v:Nat}{f:CF}(hv:v<4)(h:au f)(hl:f.ap.length<=N):∀x∈(jV f v).1,pT N v x:=by
 unfold jV;split
 .intro x hx;simp at hx
 .split
  .rename_i hb;exact KN ⟨h,hl,hb⟩
  .rename_i hb;have uI:er f.ow (f.cl.getD (1+v) 0)=none:=(by simpa using hb);refine qc (P:=pT N v) _ _ _ (λx hx=>by simp at hx) ?_;intro i hi r hr;rw[mem_range]at hi;refine qc (P:=pT N v) _ _ _ hr ?_;intro g hg r hr x hx;rcases mem_append.1 hx with hx|hx
   .exact hr x hx
   .exact KN (yK hv h hl uI hi g hg) x hx
theorem F9:∀(l:List Pr) {g:CF} {c:Nat},au g->c<24->(∀p∈l,p.l<24)->au (l.foldl (λh p=>dx h c p.l) g)/\(l.foldl (λh p=>dx h c p.l) g).ap.length=g.ap.length+l.length
 |[],g,c,h,_,_=>⟨h,rfl⟩
 |p::r,g,c,h,hc,hl=>by
  obtain⟨h1,h2⟩:=F9 r (h.pa hc (hl p (by simp))) hc (λq hq=>hl q (by simp[hq]));refine⟨h1,?_⟩;rw[foldl_cons,h2];simp[dx];omega
theorem CW{N v:Nat}{g:CF}(h:pT N v g):au (xV g v)/\(xV g v).ap.length<=N+25:=by
 have h1:=h.ok.tk (pV g (g.cl.getD (1+v) 0));have h2:=h1.pa (h.ok.get (1+v)) (h.ok.get 0);obtain⟨g1,g2⟩:=F9 (jD g (pV g (g.cl.getD (1+v) 0))).ow h2 (h.ok.get (1+v)) (λp hp=>(h1.ow p hp).1);refine⟨g1,zq3 (Nat.le_of_eq g2) ?_⟩;have hl:=h1.owLen;have h3:=h.ln;show((g.ap++[_]).length+_:Nat)<=_;rw[length_append,length_singleton];omega
theorem xT{N:Nat}{n:Nd}{g:CF}(h:pT N n.ai g):au (jd g n)/\(jd g n).ap.length<=N:=⟨h.ok.sC _ (h.ok.oA _).2,h.ln⟩
theorem Du{N:Nat}{n:Nd}{g:CF}(h:pT N n.v g):au (uU g n)/\(uU g n).ap.length<=N:=⟨h.ok.sO (λ_=>rfl) (h.ok.cT _ _) (h.ok.oA _).1,h.ln⟩
theorem CJ{f:CF}{v:Nat}(h:au f)(hn:a8 f<24):au (I6 f v):=(h.ly (p:=⟨3,a8 f,f.cl.getD 0 0⟩) hn (h.get 0) MZ).sC _ hn
structure Td(f:CF):Prop where
 ok:au f
 ln:f.ap.length<=576
theorem au.tidy{f:CF}(h:au f):Td (bR f):=⟨h.td,St h⟩
theorem qq{r:List CF × Bool × Bool × Bool}{g:CF->CF}(h:∀x∈r.1,au (g x)):(∀x∈(cH r g).nx,Td x)/\∀x∈(cH r g).ot,Td x:=by
 refine⟨λx hx=>?_,λx hx=>by simp[cH]at hx⟩;obtain⟨y,hy,rfl⟩:=mem_map.1 hx;exact(h y hy).tidy
theorem Kb{f:CF}(h:au f)(n:Nd):(∀x∈(og f n).1,Td x)/\∀x∈(og f n).2,Td x:=by
 constructor
 .intro x hx;simp only[og]at hx;split at hx
  .simp at hx
  .rename_i hd;simp only[mem_singleton]at hx;subst hx;exact(h.jo (h.get _) (mn (by simpa using hd))).tidy
 .intro x hx;simp only[og]at hx;split at hx
  .simp at hx
  .simp only[mem_singleton]at hx;subst hx;exact(h.pa (h.get _) (h.cT _ _)).tidy
theorem lB{n:Nd}{f:CF}(hv:n.v<4)(ha:n.ai<4)(h:Td f):(∀x∈(cN n f).nx,Td x)/\∀x∈(cN n f).ot,Td x:=by
 have one:∀{g:CF},au g->(∀x∈[bR g],Td x):=λhg x hx=>by rw[mem_singleton]at hx;subst hx;exact hg.tidy
 have no:∀x∈([]:List CF),Td x:=λx hx=>by simp at hx
 unfold cN;split
 .exact⟨no,no⟩
 .split
  .exact⟨one (h.ok.sC _ (h.ok.cT _ _)),no⟩
  .split
   .exact qq (λx hx=>(xT (lX ha h.ok h.ln x hx)).1)
   .split
    .exact qq (λx hx=>(Du (lX hv h.ok h.ln x hx)).1)
    .split
     .split
      .exact⟨no,no⟩
      .exact⟨one (CJ h.ok (by omega)),no⟩
     .split
      .exact qq (λx hx=>(CW (lX hv h.ok h.ln x hx)).1)
      .split
       .exact⟨one h.ok,one h.ok⟩
       .split
        .exact Kb h.ok n
        .split
         .exact(Kb h.ok n).symm
         .exact⟨one h.ok,no⟩
def Ag(f:CF)(i:Nat):Nat:=((range (i+1)).find? (λk=>f.cl.getD k 0==f.cl.getD i 0)).getD 0
def zw(f:CF)(i:Nat):Nat:=match er f.ow (f.cl.getD i 0) with|some j=>(owA f j).k|none=>0
def Nt(f:CF):Nat:=f.ow.countP (λp=>decide (p.k=3))
def Rn(f:CF):Nat:=f.ow.countP (λp=>!decide (p.k=3))
def Ye(s t:CF):Bool:=!(decide (Nt s<Nt t)||decide (Nt s+Rn s<Nt t+Rn t))&&(decide (0<Rn t)||(decide (Rn s=0)&&decide (Nt s=Nt t)))
def FD(s t:CF)(i:Nat):Bool:=decide (Ag s (Ag t i)=Ag s i)&&!(decide (zw t i=3)&&!decide (zw s i=3))&&!(decide (zw t i=4)&&decide (zw s i=0))
def O6(s t:CF):Bool:=FD s t 0&&FD s t 1&&FD s t 2&&FD s t 3&&FD s t 4
def Cm(s t:CF):Bool:=Ye s t&&O6 s t&&(match BX s t [0,1,2,3,4] (replicate 24 none) with|none=>false|some an=>(Y8 s t an 128).1)
structure fS where
 f:CF
 d:Bool
structure Sr where
 kn:List (List fS)
 wr:List (List Bool)
 lf:Int
 lo:Int
 fu:Bool
 ok:Bool
structure Cd where
 nds:List Nd
 hd:List Bool
 lp:Bool
 bd:Bool
def aK:Nd:=⟨0,0,0,0,0,0⟩
def ru(c:Cd)(s:Sr):Sr:={ s with lf:=wrap64 (s.lf-1),fu:=s.fu||(decide (wrap64 (s.lf-1)<0)&&c.bd) }
def nS(c:Cd)(s:Sr)(n:Nat):Sr:={ s with lo:=wrap64 (s.lo-n),fu:=s.fu||(decide (wrap64 (s.lo-n)<0)&&c.bd) }
def bf(s:Sr)(n:Nat):List fS:=s.kn.getD n []
def cG(c:Cd)(n:Nat)(f:CF):CF:=if c.hd.getD n false=true then bR (OM f) else f
def q8:Nat:=1000000000000
def gh:Nat:=900000
def oZ(n:Nat)(g:CF)(s:Sr):Sr:={ s with ok:=s.ok&&decide ((bf s n).length<=q8),kn:=s.kn.set n ((bf s n).filter (λe=>!Cm e.f g)++[⟨g,false⟩]) }
def bq(c:Cd)(n:Nat)(f:CF)(s:Sr):Sr :=
 if (bf s n).any (λe=>Cm (cG c n f) e.f)=true then { nS c s (2*(bf s n).length) with ok:=s.ok&&decide ((bf s n).length<=q8) }
 else ru c (oZ n (cG c n f) (nS c s (2*(bf s n).length)))
def fA(f:CF):List Nat:=(range f.ow.length).filter (λi=>!decide ((owA f i).l∈nX f))
def SF(f:CF):CF:=bR { f with ow:=f.ow.filter (λp=>decide (p.l∈nX f)) }
def pz(a b:List Pr):Bool:=decide (a.length=b.length)&&(range a.length).all (λi=>Bu (a.getD i aE) (b.getD i aE))
def R4(f g:CF):Bool:=decide (kg f=kg g)&&pz f.ap g.ap&&pz f.ow g.ow
def XA(cs:List CF)(f:CF):Bool:=!cs.any (λg=>R4 f g)
def k8(c:Cd)(r:List CF × Sr)(g:CF):List CF × Sr:=if XA r.1 (bR g)=true then (r.1++[bR g],ru c { r.2 with ok:=r.2.ok&&decide (r.1.length<=gh) }) else r
def Y9(f:CF)(a:Nat):Bool:=decide (a∈nX f)&&!decide (a=f.cl.getD 0 0)&&!(er f.ow a).isSome
def mo(c:Cd)(f:CF)(i:Nat)(r:List CF × Sr)(a:Nat):List CF × Sr:=if Y9 f a=true then (gO f a i).foldl (k8 c) r else r
def ez(c:Cd)(f:CF)(r:List CF × Sr)(i:Nat):List CF × Sr:=(range 24).foldl (mo c f i) r
def pO(c:Cd)(g:CF)(r:List CF × Sr)(res:List CF):List CF × List CF × Sr :=
 if fA g=[] then (res++[g],r) else (res++[SF g],(fA g).foldl (ez c g) r)
def fU(c:Cd):Nat->Nat->List CF->List CF × Sr->List CF × Sr
 |0,_,res,r=>(res,{ r.2 with ok:=false })
 |n+1,k,res,r=>if k<r.1.length/\r.2.fu=false then fU c n (k+1) (pO c (r.1.getD k ⟨[],[],[]⟩) r res).1 (pO c (r.1.getD k ⟨[],[],[]⟩) r res).2 else (res,r.2)
def gV(n k:Nat)(s:Sr):Sr:={ s with wr:=s.wr.set n ((s.wr.getD n []).set k true) }
def cZ(c:Cd)(fuel from_ to_:Nat)(f:CF)(s:Sr):Sr :=
 if c.lp=false\/fA f=[] then bq c to_ f s
 else
  let r:=fU c fuel 0 [] ([f],gV from_ 2 s)
  r.1.foldl (λs g=>bq c to_ g s) r.2
def fuS(b:Bool)(s:Sr):Sr:={ s with fu:=s.fu||b }
def wrI(b:Bool)(n k:Nat)(s:Sr):Sr:=if b=true then gV n k s else s
def mf(c:Cd)(fuel:Nat)(n:Nat)(f:CF)(s:Sr):Sr :=
 let nd:=c.nds.getD n aK
 let o:=cN nd f
 let s1:=wrI (decide (nd.op=0)&&!decide (fA f=[])) n 2 s
 let s2:=fuS o.fu (wrI o.da n 4 (wrI o.nu n 3 s1))
 let s3:=o.nx.foldl (λs g=>cZ c fuel n nd.nx g s) s2
 o.ot.foldl (λs g=>cZ c fuel n nd.ot g s) s3
def mg(c:Cd)(fuel n:Nat):List CF->Sr->Sr
 |[],s=>s
 |f::r,s=>if s.fu=true then s else mg c fuel n r (mf c fuel n f s)
def lH(l:List fS):List CF:=(l.filter (λe=>!e.d)).map (·.f)
def mZ(c:Cd)(fuel n:Nat)(s:Sr):Sr:=mg c fuel n (lH (bf s n)) { s with kn:=s.kn.set n ((bf s n).map (λe=>⟨e.f,true⟩)) }
def rq(s:Sr):Option Nat:=s.kn.findIdx? (λl=>l.any (λe=>!e.d))
def jY(c:Cd)(fuel:Nat):Nat->Sr->Sr
 |0,s=>{ s with ok:=false }
 |n+1,s=>match rq s with
  |none=>s
  |some k=>if s.fu=true then s else jY c fuel n (mZ c fuel k s)
def vt(al:List cf):Nat:=al.foldl (λm a=>let m1:=if a.lk=2/\m<=a.li then a.li+1 else m;if a.rk=2/\m1<=a.ri then a.ri+1 else m1) 0
def gU(nds:List Nd)(i:Nat):Bool:=decide ((nds.getD i aK).op=10)&&decide ((nds.getD i aK).nx<i)
def Jp(nds:List Nd)(nv:Nat)(al:List cf):Bool :=
 !(range nds.length).any (gU nds)&&!al.any (λa=>decide (a.k=4)) &&
 decide (nds.countP (λn=>decide (n.op=7\/n.op=8\/n.op=9))<=5)&&decide (nds.countP (λn=>decide (n.op=4))<=4)&&decide (nv+vt al<=6)&&decide (nv+vt al+nds.countP (λn=>decide (n.op=4))<=8)
def O0(nds:List Nd):List Bool:=(range nds.length).foldl (λh i=>if gU nds i=true then h.set (nds.getD i aK).nx true else h) (replicate nds.length false)
def Ey(nds:List Nd)(nv:Nat)(al:List cf):Cd:=⟨nds,O0 nds,(range nds.length).any (gU nds),!Jp nds nv al⟩
def md(nds:List Nd):Sr:=⟨replicate nds.length [],replicate nds.length (replicate 5 false),3000,2097152,false,true⟩
def Af(f:CF)(nv:Nat):CF:={ f with cl:=(range 5).map (λi=>if nv<i then f.cl.getD 0 0 else f.cl.getD i 0) }
def fT(c:Cd)(fuel nv:Nat)(al:List cf)(s:Sr):Sr:=if kz (ej al)=true then s else cZ c fuel (c.nds.length-1) 0 (bR (Af (ej al) nv)) s
structure Rs where
 vd:Nat
 al:List (Nat × Nat)
 kn:List (List CF)
def U5(wr:List (List Bool)):List (Nat × Nat):=(range wr.length).flatMap (λn=>([2,3,4].filter (λk=>(wr.getD n []).getD k false)).map (λk=>(n,k)))
def Ck(s:Sr):Rs:=if s.fu=true then ⟨2,[],[]⟩ else ⟨if U5 s.wr=[] then 0 else 1,U5 s.wr,s.kn.map (λl=>l.map (·.f))⟩
theorem Qg{f:CF}(h:au f)(k:Nat):au (Am f k)/\(Am f k).ap=f.ap:=by
 refine⟨au.mk' h.c5 h.cl' ?_ h.ap ?_ h.kd,rfl⟩
 .intro p hp;obtain⟨q,hq,rfl⟩:=mem_map.1 ((mM _ k).subset hp);unfold oh;split
  .exact⟨(h.ow q hq).1,(h.oA k).2⟩
  .exact h.ow q hq
 .have hl:=h.lf;unfold Eh at hl ⊢;refine List.Nodup.sublist ((mM _ k).map _) ?_;rw[map_map];have e:((λx:Pr=>x.l) ∘ oh (f.ow.getD k aE).l (f.ow.getD k aE).r)=(λx:Pr=>x.l):=by
   funext x;simp only[Function.comp,oh];split <;> rfl
  rw[e];exact hl
theorem sX:∀(n:Nat) {f:CF},au f->au (m8 n f)/\(m8 n f).ap=f.ap
 |0,_,h=>⟨h,rfl⟩
 |n+1,f,h=>by
  unfold m8;split
  .exact⟨h,rfl⟩
  .rename_i k _;obtain⟨h1,h2⟩:=Qg h k;obtain⟨g1,g2⟩:=sX n h1;exact⟨g1,g2.trans h2⟩
theorem yA{c:Cd}{n:Nat}{f:CF}(h:Td f):Td (cG c n f):=by
 unfold cG;split
 .exact(sX _ h.ok).1.tidy
 .exact h
def pK(s:Sr):Prop:=∀l∈s.kn,∀e∈l,Td e.f
theorem pK.at{s:Sr}(h:pK s)(n:Nat):∀e∈bf s n,Td e.f:=by
 unfold bf;intro e he;by_cases hn:n<s.kn.length
 .rw[getD_eq_getElem?_getD,getElem?_eq_getElem hn]at he;exact h _ (getElem_mem hn) e he
 .rw[getD_eq_getElem?_getD,getElem?_eq_none (by omega)]at he;simp at he
theorem pK.set{s:Sr}(h:pK s)(n:Nat){l:List fS}(hl:∀e∈l,Td e.f):∀l'∈s.kn.set n l,∀e∈l',Td e.f:=by
 intro l' h' e he;rcases mem_or_eq_of_mem_set h' with h'|rfl
 .exact h l' h' e he
 .exact hl e he
theorem yB{c:Cd}{n:Nat}{f:CF}{s:Sr}(hf:Td f)(h:pK s):pK (bq c n f s):=by
 unfold bq;split
 .exact h
 .show pK (ru c (oZ n (cG c n f) (nS c s _)));show ∀l∈(s.kn.set n _),_;refine h.set n (λe he=>?_);rcases mem_append.1 he with he|he
  .exact h.at n e (mem_filter.1 he).1
  .rw[mem_singleton]at he;subst he;exact yA hf
theorem Ov{f:CF}(h:au f):Td (SF f) :=
 au.tidy (au.mk' h.c5 h.cl' (λp hp=>h.ow p (mem_filter.1 hp).1) h.ap (h.lf.sublist (filter_sublist.map _)) h.kd)
def cy(cs:List CF):Prop:=∀f∈cs,Td f
theorem FL{f:CF}(h:au f){a i:Nat}(ha:a<24)(hb:er f.ow a=none):∀g∈gO f a i,au g:=by
 intro g hg;unfold gO at hg;rcases mem_append.1 hg with hg|hg
 .split at hg
  .simp at hg
  .rename_i hd;rw[mem_singleton]at hg;subst hg;exact h.m1 (by simpa using hd)
 .split at hg
  .rw[mem_singleton]at hg;subst hg;exact h.m2 ha hb
  .simp at hg
theorem VA{c:Cd}{r:List CF × Sr}{g:CF}(hr:cy r.1)(hg:au g):cy (k8 c r g).1/\(k8 c r g).2.kn=r.2.kn/\(k8 c r g).2.wr=r.2.wr:=by
 unfold k8;split
 .refine⟨λf hf=>?_,rfl,rfl⟩;rcases mem_append.1 hf with hf|hf
  .exact hr f hf
  .rw[mem_singleton]at hf;subst hf;exact hg.tidy
 .exact⟨hr,rfl,rfl⟩
theorem EM{c:Cd}:∀(l:List CF) {r:List CF × Sr},cy r.1->(∀g∈l,au g)->cy (l.foldl (k8 c) r).1/\(l.foldl (k8 c) r).2.kn=r.2.kn/\(l.foldl (k8 c) r).2.wr=r.2.wr
 |[],r,hr,_=>⟨hr,rfl,rfl⟩
 |g::l,r,hr,hl=>by
  obtain⟨h1,h2,h3⟩:=VA (c:=c) hr (hl g (by simp));obtain⟨g1,g2,g3⟩:=EM l h1 (λx hx=>hl x (by simp[hx]));exact⟨g1,g2.trans h2,g3.trans h3⟩
theorem VE{c:Cd}{f:CF}{i a:Nat}{r:List CF × Sr}(ha:a<24)(hf:au f)(hr:cy r.1):cy (mo c f i r a).1/\(mo c f i r a).2.kn=r.2.kn/\(mo c f i r a).2.wr=r.2.wr:=by
 unfold mo;split
 .rename_i h;unfold Y9 at h;simp only[Bool.and_eq_true,Bool.not_eq_true']at h;refine EM _ hr (FL hf ha ?_);have:=h.2;cases hb:er f.ow a with
  |none=>rfl
  |some j=>rw[hb]at this;simp at this
 .exact⟨hr,rfl,rfl⟩
theorem EO{c:Cd}{f:CF}{i:Nat}(hf:au f):∀(l:List Nat) {r:List CF × Sr},(∀a∈l,a<24)->cy r.1->cy (l.foldl (mo c f i) r).1/\(l.foldl (mo c f i) r).2.kn=r.2.kn/\(l.foldl (mo c f i) r).2.wr=r.2.wr
 |[],r,_,hr=>⟨hr,rfl,rfl⟩
 |a::l,r,hl,hr=>by
  obtain⟨h1,h2,h3⟩:=VE (c:=c) (i:=i) (hl a (by simp)) hf hr;obtain⟨g1,g2,g3⟩:=EO hf l (λx hx=>hl x (by simp[hx])) h1;exact⟨g1,g2.trans h2,g3.trans h3⟩
theorem Qc{c:Cd}{f:CF}(hf:au f){r:List CF × Sr}(i:Nat)(hr:cy r.1):cy (ez c f r i).1/\(ez c f r i).2.kn=r.2.kn/\(ez c f r i).2.wr=r.2.wr:=EO hf _ (λa ha=>mem_range.1 ha) hr
theorem Al{c:Cd}{f:CF}(hf:au f):∀(l:List Nat) {r:List CF × Sr},cy r.1->cy (l.foldl (ez c f) r).1/\(l.foldl (ez c f) r).2.kn=r.2.kn/\(l.foldl (ez c f) r).2.wr=r.2.wr
 |[],r,hr=>⟨hr,rfl,rfl⟩
 |i::l,r,hr=>by
  obtain⟨h1,h2,h3⟩:=Qc (c:=c) hf i hr;obtain⟨g1,g2,g3⟩:=Al hf l h1;exact⟨g1,g2.trans h2,g3.trans h3⟩
theorem KL{c:Cd}{g:CF}(hg:Td g){r:List CF × Sr}{res:List CF}(hr:cy r.1)(hs:cy res):cy (pO c g r res).1/\cy (pO c g r res).2.1/\(pO c g r res).2.2.kn=r.2.kn/\(pO c g r res).2.2.wr=r.2.wr:=by
 have app:∀{x:CF},Td x->cy (res++[x]):=λhx f hf=>by
  rcases mem_append.1 hf with hf|hf
  .exact hs f hf
  .rw[mem_singleton]at hf;subst hf;exact hx
 unfold pO;split
 .exact⟨app hg,hr,rfl,rfl⟩
 .exact⟨app (Ov hg.ok),Al hg.ok _ hr⟩
theorem lD{c:Cd}:∀(n k:Nat) {res:List CF} {r:List CF × Sr},cy r.1->cy res->cy (fU c n k res r).1/\(fU c n k res r).2.kn=r.2.kn/\(fU c n k res r).2.wr=r.2.wr
 |0,k,res,r,_,hs=>⟨hs,rfl,rfl⟩
 |n+1,k,res,r,hr,hs=>by
  unfold fU;split
  .rename_i h;have hg:Td (r.1.getD k ⟨[],[],[]⟩):=by
    rw[getD_eq_getElem?_getD,getElem?_eq_getElem h.1];exact hr _ (getElem_mem h.1)
   obtain⟨h1,h2,h3,h4⟩:=KL (c:=c) hg hr hs;obtain⟨g1,g2,g3⟩:=lD (c:=c) n (k+1) h2 h1;exact⟨g1,g2.trans h3,g3.trans h4⟩
  .exact⟨hs,rfl,rfl⟩
theorem Fu{c:Cd}{n:Nat}:∀(l:List CF) {s:Sr},cy l->pK s->pK (l.foldl (λs g=>bq c n g s) s)
 |[],_,_,h=>h
 |g::l,s,hl,h=>Fu l (λx hx=>hl x (by simp[hx])) (yB (hl g (by simp)) h)
theorem JR{c:Cd}{fuel a b:Nat}{f:CF}{s:Sr}(hf:Td f)(h:pK s):pK (cZ c fuel a b f s):=by
 unfold cZ;split
 .exact yB hf h
 .have h1:cy [f]:=λx hx=>by rw[mem_singleton]at hx;subst hx;exact hf
  obtain⟨g1,g2,-⟩:=lD (c:=c) fuel 0 (r:=([f],gV a 2 s)) (res:=[]) h1 (λx hx=>by simp at hx);refine Fu _ g1 ?_;unfold pK;rw[g2];exact h
theorem Cy{c:Cd}{fuel a b:Nat}:∀(l:List CF) {s:Sr},cy l->pK s->pK (l.foldl (λs g=>cZ c fuel a b g s) s)
 |[],_,_,h=>h
 |g::l,s,hl,h=>Cy l (λx hx=>hl x (by simp[hx])) (JR (hl g (by simp)) h)
theorem n9(b:Bool)(n k:Nat)(s:Sr):(wrI b n k s).kn=s.kn:=by unfold wrI;split <;> rfl
theorem Yu{c:Cd}{fuel n:Nat}{f:CF}{s:Sr}(hv:(c.nds.getD n aK).v<4)(ha:(c.nds.getD n aK).ai<4)(hf:Td f)(h:pK s):pK (mf c fuel n f s):=by
 obtain⟨h1,h2⟩:=lB hv ha hf;unfold mf;refine Cy _ h2 (Cy _ h1 ?_);unfold pK;show ∀l∈(wrI _ n 4 (wrI _ n 3 (wrI _ n 2 s))).kn,_;rw[n9,n9,n9];exact h
def JH(s:Sr)(n:Nat)(P:CF->Prop):Prop:=∃e∈bf s n,P e.f
structure Up(P:CF->Prop):Prop where
 wi:∀{f g:CF},au f->au g->Cm f g=true->P f->P g
 fo:∀{f:CF},au f->P f->P (bR (OM f))
def Tl(s:Sr)(n k:Nat):Bool:=(s.wr.getD n []).getD k false
def Sf(s:Sr):Prop:=s.fu=false/\∀n k,k=2\/k=3\/k=4->Tl s n k=false
structure eM(N:Nat)(s:Sr):Prop where
 kn:s.kn.length=N
 wr:s.wr.length=N
 rw:∀r∈s.wr,r.length=5
 td:pK s
structure m6(s s':Sr):Prop where
 fu:s.fu=true->s'.fu=true
 fl:∀n k,Tl s n k=true->Tl s' n k=true
 kn:∀n P,Up P->JH s n P->JH s' n P
theorem m6.refl(s:Sr):m6 s s:=⟨λh=>h,λ_ _ h=>h,λ_ _ _ h=>h⟩
theorem m6.trans{a b c:Sr}(h:m6 a b)(h':m6 b c):m6 a c:=⟨λx=>h'.fu (h.fu x),λn k x=>h'.fl n k (h.fl n k x),λn P hc x=>h'.kn n P hc (h.kn n P hc x)⟩
theorem m6.sf{a b:Sr}(h:m6 a b)(hs:Sf b):Sf a:=by
 refine⟨?_,λn k hk=>?_⟩
 .cases hf:a.fu with
  |false=>rfl
  |true=>have:=h.fu hf;rw[hs.1]at this;cases this
 .cases hf:Tl a n k with
  |false=>rfl
  |true=>have:=h.fl n k hf;rw[hs.2 n k hk]at this;cases this
section
variable {c:Cd} {N n:Nat} {f:CF} {s:Sr} {cs:List (Int × Int)} {t:Nat->Int}
theorem MH{P:CF->Prop}(hP:Up P)(hk:au f)(h:P f):P (cG c n f):=by
 unfold cG;split
 .exact hP.fo hk h
 .exact h
theorem lT{l:List fS}(hn:n<s.kn.length)(m:Nat):(s.kn.set n l).getD m []=if n=m then l else bf s m:=b8 _ _ _ _ _ hn
theorem mz(hf:Td f)(hs:eM N s)(hn:n<N):m6 s (bq c n f s)/\eM N (bq c n f s)/\∀P,Up P->P f->JH (bq c n f s) n P:=by
 have rh:pK (bq c n f s):=yB hf hs.td;have hg:Td (cG c n f):=yA hf;have f7:n<s.kn.length:=by rw[hs.kn];exact hn
 unfold bq at rh ⊢;split
 .rename_i oI;rw[if_pos oI]at rh;refine⟨⟨λh=>?_,λ_ _ h=>h,λ_ _ _ h=>h⟩,⟨hs.kn,hs.wr,hs.rw,rh⟩,λP hc h=>?_⟩
  .show(s.fu||_)=true;rw[h];rfl
  .obtain⟨e,he,hw⟩:=any_eq_true.1 oI;exact⟨e,he,hc.wi hg.ok (hs.td.at n e he).ok hw (MH hc hf.ok h)⟩
 .rename_i oI;rw[if_neg oI]at rh;have hkA:∀m,bf (ru c (oZ n (cG c n f) (nS c s (2*(bf s n).length)))) m=if n=m then (bf s n).filter (λe=>!Cm e.f (cG c n f))++[⟨cG c n f,false⟩] else bf s m:=λm=>lT f7 m
  refine⟨⟨λh=>?_,λ_ _ h=>h,λm P hc h=>?_⟩,⟨?_,hs.wr,hs.rw,rh⟩,λP hc h=>?_⟩
  .show((s.fu||_)||_)=true;rw[h];rfl
  .obtain⟨e,he,O1⟩:=h;unfold JH;rw[hkA];by_cases e0:n=m
   .subst e0;rw[if_pos rfl];by_cases hw:Cm e.f (cG c n f)=true
    .exact⟨⟨cG c n f,false⟩,by simp,hc.wi (hs.td.at n e he).ok hg.ok hw O1⟩
    .exact⟨e,mem_append_left _ (mem_filter.2 ⟨he,by simpa using hw⟩),O1⟩
   .rw[if_neg e0];exact⟨e,he,O1⟩
  .show(s.kn.set n _).length=N;rw[length_set];exact hs.kn
  .unfold JH;rw[hkA,if_pos rfl];exact⟨⟨cG c n f,false⟩,by simp,MH hc hf.ok h⟩
theorem rU:∀(l:List CF) {s:Sr},cy l->eM N s->n<N->m6 s (l.foldl (λs g=>bq c n g s) s)/\eM N (l.foldl (λs g=>bq c n g s) s)
 |[],s,_,h,_=>⟨m6.refl s,h⟩
 |g::l,s,hl,h,hn=>by
  rw[foldl_cons];obtain⟨h1,h2,-⟩:=mz (c:=c) (hl g (by simp)) h hn;obtain⟨h3,h4⟩:=rU l (λx hx=>hl x (by simp[hx])) h2 hn;exact⟨h1.trans h3,h4⟩
theorem xS{k:Nat}(hs:eM N s)(hn:n<N)(hk:k<5)(m j:Nat):Tl (gV n k s) m j=if n=m/\k=j then true else Tl s m j:=by
 have hw:n<s.wr.length:=by rw[hs.wr];exact hn
 have hr:(s.wr.getD n []).length=5:=by
  rw[getD_eq_getElem?_getD,getElem?_eq_getElem hw];exact hs.rw _ (getElem_mem hw)
 unfold Tl;show((s.wr.set n ((s.wr.getD n []).set k true)).getD m []).getD j false=_;rw[b8 _ _ _ _ _ hw];by_cases e:n=m
 .subst e;rw[if_pos rfl,b8 _ _ _ _ _ (by omega)];by_cases e2:k=j
  .rw[if_pos e2,if_pos ⟨rfl,e2⟩]
  .rw[if_neg e2,if_neg (λh=>e2 h.2)]
 .rw[if_neg e,if_neg (λh=>e h.1)]
theorem zp{k:Nat}(hs:eM N s)(hn:n<N)(hk:k<5):m6 s (gV n k s)/\eM N (gV n k s):=by
 refine⟨⟨λh=>h,λm j h=>?_,λ_ _ _ h=>h⟩,⟨hs.kn,?_,λr hr=>?_,hs.td⟩⟩
 .rw[xS hs hn hk];split
  .rfl
  .exact h
 .show(s.wr.set n _).length=N;rw[length_set];exact hs.wr
 .rcases mem_or_eq_of_mem_set (show r∈s.wr.set n _ from hr) with h|rfl
  .exact hs.rw r h
  .rw[length_set];have hw:n<s.wr.length:=(by rw[hs.wr];exact hn);rw[getD_eq_getElem?_getD,getElem?_eq_getElem hw];exact hs.rw _ (getElem_mem hw)
theorem dC{b:Bool}{k:Nat}(hs:eM N s)(hn:n<N)(hk:k<5):m6 s (wrI b n k s)/\eM N (wrI b n k s)/\(k=2\/k=3\/k=4->Sf (wrI b n k s)->b=false):=by
 unfold wrI;split
 .obtain⟨h1,h2⟩:=zp hs hn hk;refine⟨h1,h2,λll hS=>?_⟩;have:=hS.2 n k ll;rw[xS hs hn hk,if_pos ⟨rfl,rfl⟩]at this;cases this
 .rename_i hb;exact⟨m6.refl s,hs,λ_ _=>by simpa using hb⟩
theorem CQ:∀(m k:Nat) {res:List CF} {r:List CF × Sr},r.2.fu=true->(fU c m k res r).2.fu=true
 |0,_,_,_,h=>h
 |m+1,k,res,r,h=>by
  unfold fU;rw[if_neg (λh2=>by rw[h]at h2;cases h2.2)];exact h
theorem nF{fuel a b:Nat}(hf:Td f)(hs:eM N s)(ha:a<N)(hb:b<N):m6 s (cZ c fuel a b f s)/\eM N (cZ c fuel a b f s)/\(Sf (cZ c fuel a b f s)->∀P,Up P->P f->JH (cZ c fuel a b f s) b P):=by
 unfold cZ;split
 .obtain⟨h1,h2,h3⟩:=mz (c:=c) hf hs hb;exact⟨h1,h2,λ_=>h3⟩
 .simp only;obtain⟨g1,g2⟩:=zp hs ha (k:=2) (by omega);obtain⟨k1,k2,k3⟩:=lD (c:=c) fuel 0 (res:=[]) (r:=([f],gV a 2 s)) (λg hg=>by rw[mem_singleton.1 hg];exact hf) (λg hg=>by simp at hg);have hL:m6 (gV a 2 s) (fU c fuel 0 [] ([f],gV a 2 s)).2:=by
   refine⟨λh=>CQ fuel 0 h,λm k h=>?_,λm P hc h=>?_⟩
   .unfold Tl;rw[k3];exact h
   .unfold JH bf;rw[k2];exact h
  have hS:eM N (fU c fuel 0 [] ([f],gV a 2 s)).2:=⟨by rw[k2];exact g2.kn,by rw[k3];exact g2.wr,λr hr=>by rw[k3]at hr;exact g2.rw r hr,λl hl=>by rw[k2]at hl;exact g2.td l hl⟩;obtain⟨q1,q2⟩:=rU (c:=c) (n:=b) (fU c fuel 0 [] ([f],gV a 2 s)).1 k1 hS hb;refine⟨g1.trans (hL.trans q1),q2,λhsf=>?_⟩;have h9:=((hL.trans q1).sf hsf).2 a 2 (zq0 rfl);rw[xS hs ha (by omega),if_pos ⟨rfl,rfl⟩]at h9;cases h9
theorem iE{fuel a b:Nat}(ha:a<N):∀(l:List CF) {s:Sr},(l≠[]->b<N)->cy l->eM N s->m6 s (l.foldl (λs g=>cZ c fuel a b g s) s)/\eM N (l.foldl (λs g=>cZ c fuel a b g s) s) /\
  (Sf (l.foldl (λs g=>cZ c fuel a b g s) s)->∀g∈l,∀P,Up P->P g->JH (l.foldl (λs g=>cZ c fuel a b g s) s) b P)
 |[],s,_,_,h=>⟨m6.refl s,h,λ_ g hg=>by simp at hg⟩
 |g::l,s,hb,hl,h=>by
  rw[foldl_cons];have hbN:=hb (by simp);obtain⟨h1,h2,h3⟩:=nF (c:=c) (fuel:=fuel) (hl g (by simp)) h ha hbN;obtain⟨h4,h5,h6⟩:=iE ha l (λ_=>hbN) (λx hx=>hl x (by simp[hx])) h2;refine⟨h1.trans h4,h5,λhS x hx P hc O1=>?_⟩;rcases mem_cons.1 hx with rfl|hx
  .exact h4.kn _ _ hc (h3 (h4.sf hS) P hc O1)
  .exact h6 hS x hx P hc O1
structure YO(c:Cd)(s:Sr)(n:Nat)(f:CF):Prop where
 nu:(cN (c.nds.getD n aK) f).nu=false
 da:(cN (c.nds.getD n aK) f).da=false
 fu:(cN (c.nds.getD n aK) f).fu=false
 en:(c.nds.getD n aK).op=0->fA f=[]
 nx:∀g∈(cN (c.nds.getD n aK) f).nx,∀P,Up P->P g->JH s (c.nds.getD n aK).nx P
 ot:∀g∈(cN (c.nds.getD n aK) f).ot,∀P,Up P->P g->JH s (c.nds.getD n aK).ot P
theorem YO.mono{s':Sr}(h:YO c s n f)(hl:m6 s s'):YO c s' n f:=⟨h.nu,h.da,h.fu,h.en,λg hg P hc hf=>hl.kn _ _ hc (h.nx g hg P hc hf),λg hg P hc hf=>hl.kn _ _ hc (h.ot g hg P hc hf)⟩
end
theorem ew.congr{bl:List Bool}{s t:List Nat}(h:ew bl s)(he:∀c,c∈s↔c∈t):ew bl t:=⟨h.1,λc hc=>(h.2 c hc).trans (he c)⟩
structure Rng(f:CF):Prop where
 cl:∀c∈kg f,c<24
 ow:Rm f
 ap:RmA f
theorem xQ(w:World):Ob (w.alloc (.cells (cR (replicate 24 false)).toArray 240)) 240 24 w.heap.size (cR (replicate 24 false)) :=
 ownsRow_lit (base:=0) (e:=240) (size:=24) w (cR (replicate 24 false)).toArray 1 (zq5 _) (by simp[maxLen]) rfl
theorem Ah:ew (replicate 24 false) []:=⟨by simp,λc hc=>by rw[getD_eq_getElem?_getD,getElem?_replicate,if_pos hc];simp⟩
theorem wf{l:List Pr}{P:Pr->Bool}{k:Nat}(hk:k<l.length):(l.take (k+1)).filter P=(l.take k).filter P++(if P (l.getD k aE) then [l.getD k aE] else []):=by
 rw[iW hk,take_add_one,getElem?_eq_getElem hk,filter_append];congr 1;simp only[Option.toList];cases h:P l[k] <;> simp[h]
theorem G7{l:List Pr}{k:Nat}(hk:k<l.length):(l.take (k+1)).flatMap (λp=>[p.l,p.r])=(l.take k).flatMap (λp=>[p.l,p.r])++[(l.getD k aE).l,(l.getD k aE).r]:=by
 rw[iW hk,take_add_one,getElem?_eq_getElem hk,flatMap_append];simp
theorem Rv{S T:List Nat}{a b d:Nat}:d∈b::a::(S++T)↔d∈S++(T++[a,b]):=by
 simp only[mem_cons,mem_append,not_mem_nil,or_false];exact⟨λh=>by rcases h with h|h|h|h <;> simp[h],λh=>by rcases h with h|h|h|h <;> simp[h]⟩
section
variable {w:World} {A:Nat} {f:CF} {av ov:Value}
theorem CU(h:Fm w A f av ov)(hR:Rng f)(ha:f.ap.length<=100000)(ho:f.ow.length<=100000):Calls prog 197 #[.pointer (some ⟨A,0,none⟩)] w λe w'=>e=.returned (.tuple #[])/\∃av',Fm w' A (EH f) av' ov/\aq (aG A av ov) w (aG A av' ov) w':=by
 obtain⟨i0,jN,fW,fy,fJ⟩:=info_parts infoPair;obtain⟨oa,oc,fx,-,-⟩:=aj h.is.ow;subst fx;obtain⟨aa,ac,jK,-,-⟩:=aj h.is.ap;subst jK;obtain⟨w0,kW⟩:∃w0,w0=w.alloc (.cells (cR (replicate 24 false)).toArray 240):=⟨_,rfl⟩;have s9:Below w.heap.size w w0:=by rw[kW];exact ah w _
 have Qo:Ob w0 240 24 w.heap.size (cR (replicate 24 false)):=by rw[kW];exact xQ w
 have h0:=h.is.below s9;have x0:=h0.cls (i:=0) (by omega);have x1:=h0.cls (i:=1) (by omega);have x2:=h0.cls (i:=2) (by omega);have x3:=h0.cls (i:=3) (by omega);have x4:=h0.cls (i:=4) (by omega);unfold fX at x0 x1 x2 x3 x4;have fY:=hR.cl;unfold kg at fY;have hcL:kg f=[f.cl.getD 0 0,f.cl.getD 1 0,f.cl.getD 2 0,f.cl.getD 3 0,f.cl.getD 4 0]:=rfl;obtain⟨y0,e0⟩:∃y,y=f.cl.getD 0 0:=⟨_,rfl⟩;obtain⟨y1,e1⟩:∃y,y=f.cl.getD 1 0:=⟨_,rfl⟩;obtain⟨y2,e2⟩:∃y,y=f.cl.getD 2 0:=⟨_,rfl⟩;obtain⟨y3,e3⟩:∃y,y=f.cl.getD 3 0:=⟨_,rfl⟩;obtain⟨y4,e4⟩:∃y,y=f.cl.getD 4 0:=⟨_,rfl⟩;rw[<-e0,<-e1,<-e2,<-e3,<-e4]at fY hcL;rw[<-e0]at x0;rw[<-e1]at x1;rw[<-e2]at x2;rw[<-e3]at x3;rw[<-e4]at x4;have l0:y0<24:=fY y0 (by simp);have l1:y1<24:=fY y1 (by simp);have l2:y2<24:=fY y2 (by simp);have l3:y3<24:=fY y3 (by simp);have l4:y4<24:=fY y4 (by simp);have j0:=yp (.int .i64 (y0:Int)) (.int .i64 (y1:Int)) (.int .i64 (y2:Int)) (.int .i64 (y3:Int)) (.int .i64 (y4:Int));have j1:=yq (.int .i64 (y0:Int)) (.int .i64 (y1:Int)) (.int .i64 (y2:Int)) (.int .i64 (y3:Int)) (.int .i64 (y4:Int));have j2:=yr (.int .i64 (y0:Int)) (.int .i64 (y1:Int)) (.int .i64 (y2:Int)) (.int .i64 (y3:Int)) (.int .i64 (y4:Int));have j3:=yt (.int .i64 (y0:Int)) (.int .i64 (y1:Int)) (.int .i64 (y2:Int)) (.int .i64 (y3:Int)) (.int .i64 (y4:Int));have j4:=yu (.int .i64 (y0:Int)) (.int .i64 (y1:Int)) (.int .i64 (y2:Int)) (.int .i64 (y3:Int)) (.int .i64 (y4:Int));have H:=ab h;have uA:=ab hcL;have HR:=ab hR;have cd:Hid (Ob w0 240 24 w.heap.size (cR (replicate 24 false))/\ew (replicate 24 false) ([y0,y1,y2,y3,y4].take 0)/\Below w.heap.size w w0):=ab ⟨Qo,Ah,s9⟩;clear h e0 e1 e2 e3 e4 fY hcL hR h0 Qo s9;simp only[cR,replicate,map_cons,map_nil]at kW;go_enter func197,ntmps197;go_upto_region 1 with fail;rw[<-kW];clear kW;go_wp2_with fail
 go_loopw [14] (λi wx=>∃(k:Nat) (bl:List Bool),k<=5/\i=.int .i64 k/\Hid (Ob wx 240 24 w.heap.size (cR bl)/\ew bl ([y0,y1,y2,y3,y4].take k)/\Below w.heap.size w wx)) (λi _=>5-(intOf i).toNat)
 case atStart=>exact⟨0,_,zq5 _,rfl,cd⟩
 case round =>
  clear cd x0 x1 x2 x3 x4;obtain⟨k,bl,hk,rfl,hI⟩:=hrel;have aS:∀c,c<24->(∃u,wr.cell? ⟨w.heap.size,c,none⟩=some u)/\wr.frozen? ⟨w.heap.size,c,none⟩=false:=λc hc=>⟨⟨_,(ownsRow.cellAt (uh hI).1 c (by omega)).trans (eG (by rw[(uh hI).2.1.1];exact hc))⟩,ownsRow.frozenAt (uh hI).1 c⟩;have vy:∀c,c<24->∀t,(∀d,d∈c::([y0,y1,y2,y3,y4].take k)↔d∈t)->Ob (wr.setCell ⟨w.heap.size,c,none⟩ (.bool true)) 240 24 w.heap.size (cR (bl.set c true))/\ew (bl.set c true) t/\Below w.heap.size w (wr.setCell ⟨w.heap.size,c,none⟩ (.bool true)):=λc hc t ht =>
   ⟨by have:=(uh hI).1.stored c (.bool true);rwa [kt]at this,((uh hI).2.1.add hc).congr ht,(uh hI).2.2.setCell (p:=⟨w.heap.size,c,none⟩) (zq4 _) _⟩
  have od:=ab vy;clear vy;have th:k=0\/k=1\/k=2\/k=3\/k=4\/k=5:=by omega
  rcases th with rfl|rfl|rfl|rfl|rfl|rfl
  .obtain⟨⟨u,hu⟩,hz⟩:=aS y0 l0;clear aS;go_wp2_with fail
   go_roundw
   case rel=>exact⟨1,_,by omega,by go_num,ab (uh od y0 l0 _ (λd=>by simp))⟩
   case measure=>simp[intOf]
  .obtain⟨⟨u,hu⟩,hz⟩:=aS y1 l1;clear aS;go_wp2_with fail
   go_roundw
   case rel=>exact⟨2,_,by omega,by go_num,ab (uh od y1 l1 _ (λd=>by simp;try omega))⟩
   case measure=>simp[intOf]
  .obtain⟨⟨u,hu⟩,hz⟩:=aS y2 l2;clear aS;go_wp2_with fail
   go_roundw
   case rel=>exact⟨3,_,by omega,by go_num,ab (uh od y2 l2 _ (λd=>by simp;try omega))⟩
   case measure=>simp[intOf]
  .obtain⟨⟨u,hu⟩,hz⟩:=aS y3 l3;clear aS;go_wp2_with fail
   go_roundw
   case rel=>exact⟨4,_,by omega,by go_num,ab (uh od y3 l3 _ (λd=>by simp;try omega))⟩
   case measure=>simp[intOf]
  .obtain⟨⟨u,hu⟩,hz⟩:=aS y4 l4;clear aS;go_wp2_with fail
   go_roundw
   case rel=>exact⟨5,_,by omega,by go_num,ab (uh od y4 l4 _ (λd=>by simp;try omega))⟩
   case measure=>simp[intOf]
  .clear aS od;rw[show((5:Nat):Int)=(5:Int) from rfl];have h1:=(uh H).is.below (uh hI).2.2;have c6:=h1.c6;obtain⟨D,hD⟩:∃D,D=w.heap.size:=⟨_,rfl⟩;have dJ:Hid (Ob wr 240 24 D (cR bl)/\ew bl ([y0,y1,y2,y3,y4]++(f.ow.take 0).flatMap (λp=>[p.l,p.r]))/\Below w.heap.size w wr):=ab ⟨by rw[hD];exact(uh hI).1,(uh hI).2.1,(uh hI).2.2⟩;have HD:=ab hD;clear hI h1 j0 j1 j2 j3 j4 l0 l1 l2 l3 l4;rw[<-hD];clear hD;go_wp2_with fail
   go_loopw [25] (λi wx=>∃(k:Nat) (bl:List Bool),k<=f.ow.length/\i=.int .i64 k/\Hid (Ob wx 240 24 D (cR bl)/\ew bl ([y0,y1,y2,y3,y4]++(f.ow.take k).flatMap (λp=>[p.l,p.r]))/\Below w.heap.size w wx)) (λi _=>f.ow.length-(intOf i).toNat)
   case atStart=>exact⟨0,bl,zq5 _,rfl,dJ⟩
   case round =>
    clear dJ c6;obtain⟨k,bl,hk,rfl,hI⟩:=hrel;have h1:=(uh H).is.below (uh hI).2.2;by_cases ar:k<f.ow.length
    .have hd:decide ((k:Int)<(f.ow.length:Int))=true:=(by simp;omega);obtain⟨g,cap,c9,-,-⟩:=aD h1.ow ar;simp only[Value.slice.injEq,true_and]at c9;obtain⟨rfl,rfl⟩:=c9;obtain⟨x0,x1,x2⟩:=aA h1.ow ar;obtain⟨lr,uQ⟩:=(uh HR).ow.at k;have oq:=G7 ar;obtain⟨p,hp⟩:∃p,p=f.ow.getD k aE:=⟨_,rfl⟩;rw[<-hp]at x0 x1 x2 lr uQ oq;obtain⟨-,n1,n2⟩:=Dy wr (Value.int .i64 p.k) (.int .i64 p.l) (.int .i64 p.r) 182;have Ze:D<wr.heap.size:=(ownsRow.lt (uh hI).1 D rfl).2;have o0:=(uh hI).1.alloc (.cells #[Value.int .i64 p.k,.int .i64 p.l,.int .i64 p.r] 182);obtain⟨⟨u1,hu1⟩,aiy⟩:=o0.some (j:=p.l) lr;have o1:=(uh hI).1.stored p.l (.bool true);rw[kt]at o1;obtain⟨⟨u3,hu3⟩,aop⟩:=o1.some (j:=p.r) uQ;have o2:=o1.stored p.r (.bool true);rw[kt]at o2;have n2':((wr.alloc (.cells #[Value.int .i64 p.k,.int .i64 p.l,.int .i64 p.r] 182)).setCell ⟨D,p.l,none⟩ (.bool true)).cell? ⟨wr.heap.size,2,none⟩=some (.int .i64 (p.r:Int)):=by
      rw[cell?_setCell_other _ _ _ _ (by intro e;simp at e;try omega)];exact n2
     have xX:=(((uh hI).2.2.setCell (p:=⟨D,p.l,none⟩) (Nat.le_of_eq (uh HD).symm) (.bool true)).setCell (p:=⟨D,p.r,none⟩) (Nat.le_of_eq (uh HD).symm) (.bool true));have HO2:=ab (o2.alloc (.cells #[Value.int .i64 p.k,.int .i64 p.l,.int .i64 p.r] 182));have OJ:Hid (ew ((bl.set p.l true).set p.r true) ([y0,y1,y2,y3,y4]++(f.ow.take (k+1)).flatMap (λp=>[p.l,p.r]))):=ab ((((uh hI).2.1.add lr).add uQ).congr (λd=>by rw[oq];exact Rv));have Ju:=ab (xX.alloc xX.size (.cells #[Value.int .i64 p.k,.int .i64 p.l,.int .i64 p.r] 182));have i1:(0:Int)<=(k:Int):=(by omega);have i2:(k:Int)<(f.ow.length:Int):=(by omega);clear o0 o1 o2 hp oq h1 hI xX;go_wp2_with fail
     go_roundw
     case rel=>exact⟨k+1,_,by omega,by go_num,ab ⟨uh HO2,uh OJ,uh Ju⟩⟩
     case measure=>simp[intOf];omega
    .have hd:decide ((k:Int)<(f.ow.length:Int))=false:=(by simp;omega);have jl:k=f.ow.length:=(by omega);have c5:=(h1.alloc (.cells #[] 182)).c5;have OJ:Hid (ew bl (dO f)):=ab (by
      have:=(uh hI).2.1;rw[jl,take_length]at this;unfold dO;rw[uh uA];exact this)
     have HOD:=ab (uh hI).1;have Pi:=ab (uh hI).2.2;have ss:Hid ((wr.alloc (.cells #[] 182)).ownsRow wr.heap.size 182 3 (.slice (some ⟨wr.heap.size,0,none⟩) 0 0) 0 []/\Below wr.heap.size wr (wr.alloc (.cells #[] 182))):=ab ⟨ownsRow_lit (base:=wr.heap.size) (e:=182) (size:=3) wr #[] 0 (zq4 _) (by simp[maxLen]) rfl,ah wr _⟩;have H1:=ab h1;clear h1 hI jl;obtain⟨wz,hwz⟩:∃wz,wz=wr:=⟨_,rfl⟩;rw[<-hwz]at HOD Pi ss H1 c5 ⊢;clear hwz;go_wp2_with fail
     go_loopw [7,42] (λrv j wx=>∃(k:Nat),k<=f.ap.length/\j=.int .i64 k/\Hid (wx.ownsRow wz.heap.size 182 3 rv ((f.ap.take k).filter (xR f)).length (af ((f.ap.take k).filter (xR f)))/\Below wz.heap.size wz wx)) (λ_ j _=>f.ap.length-(intOf j).toNat)
     case atStart=>exact⟨0,zq5 _,rfl,ss⟩
     case round =>
      clear ss c5;obtain⟨k,hk,rfl,hI⟩:=hrel;have hF:=(uh H1).below (uh hI).2;have Zr:=(uh HOD).of_eq (w':=wr) ((uh hI).2.block D (ownsRow.lt (uh HOD) D rfl).2);obtain⟨ra,rc,Jl,-,-⟩:=aj (uh hI).1;subst Jl;by_cases ar:k<f.ap.length
      .have hd:decide ((k:Int)<(f.ap.length:Int))=true:=(by simp;omega);obtain⟨g2,cap2,c9,-,-⟩:=aD hF.ap ar;simp only[Value.slice.injEq,true_and]at c9;obtain⟨rfl,rfl⟩:=c9;obtain⟨x0,x1,x2⟩:=aA hF.ap ar;obtain⟨lr,uQ⟩:=(uh HR).ap (f.ap.getD k aE) (by rw[iW ar];exact getElem_mem ar);have aS:=wf (P:=xR f) ar;obtain⟨p,hp⟩:∃p,p=f.ap.getD k aE:=⟨_,rfl⟩;rw[<-hp]at x0 x1 x2 lr uQ aS;obtain⟨-,n1,n2⟩:=Dy wr (Value.int .i64 p.k) (.int .i64 p.l) (.int .i64 p.r) 182;have Ze:D<wr.heap.size:=(ownsRow.lt Zr D rfl).2;obtain⟨⟨-,-⟩,aiy⟩:=Zr.some (j:=p.l) lr;have d1:=(ownsRow.cellAt Zr p.l (by omega)).trans (eG (by rw[(uh OJ).1];exact lr));have d2:=(ownsRow.cellAt Zr p.r (by omega)).trans (eG (by rw[(uh OJ).1];exact uQ));obtain⟨b1,bB⟩:∃b,b=bl.getD p.l false:=⟨_,rfl⟩;obtain⟨b2,aR⟩:∃b,b=bl.getD p.r false:=⟨_,rfl⟩;rw[<-bB]at d1;rw[<-aR]at d2;have e1:decide (p.l∈dO f)=b1:=(by rw[bB];have:=(uh OJ).2 p.l lr;cases h:bl.getD p.l false <;> simp_all);have e2:decide (p.r∈dO f)=b2:=(by rw[aR];have:=(uh OJ).2 p.r uQ;cases h:bl.getD p.r false <;> simp_all);have cI:=ab aS;have HP:Hid (xR f p=(b1&&b2&&!sM f p.l p.r)):=ab (by unfold xR;rw[e1,e2]);have eU:=ab ((uh hI).2.alloc (uh hI).2.size (.cells #[.int .i64 (p.k:Int),.int .i64 (p.l:Int),.int .i64 (p.r:Int)] 182));have Y0:=ab ((uh hI).1.alloc (.cells #[.int .i64 (p.k:Int),.int .i64 (p.l:Int),.int .i64 (p.r:Int)] 182));have Cr:=ab (hF.alloc (.cells #[.int .i64 (p.k:Int),.int .i64 (p.l:Int),.int .i64 (p.r:Int)] 182));have i1:(0:Int)<=(k:Int):=(by omega);have i2:(k:Int)<(f.ap.length:Int):=(by omega);have db:((f.ap.take k).filter (xR f)).length<=k:=zq3 (length_filter_le _ _) (by simp;omega);obtain⟨L,hL⟩:∃L,L=(f.ap.take k).filter (xR f):=⟨_,rfl⟩;rw[<-hL]at cI Y0 hI db ⊢;clear hp aS hF Zr bB aR e1 e2 hL;have no:xR f p=false->(f.ap.take (k+1)).filter (xR f)=L:=λh=>by rw[uh cI,h];simp
       have yes:xR f p=true->(f.ap.take (k+1)).filter (xR f)=L++[p]:=λh=>by rw[uh cI,h];simp
       have NO:=ab no;have YES:=ab yes;clear no yes;cases b1
       .go_wp2_with fail
        go_roundw
        case rel=>exact⟨k+1,by omega,by go_num,ab (by rw[uh NO (by rw[uh HP];rfl)];exact⟨uh Y0,uh eU⟩)⟩
        case measure=>simp[intOf];omega
       .cases b2
        .go_wp2_with fail
         go_roundw
         case rel=>exact⟨k+1,by omega,by go_num,ab (by rw[uh NO (by rw[uh HP];rfl)];exact⟨uh Y0,uh eU⟩)⟩
         case measure=>simp[intOf];omega
        .go_wp2_with fail
         refine(vZ p.l p.r (uh Cr)).mono ?_;rintro e w1 ⟨rfl,rfl⟩;cases fY:sM f p.l p.r
         .have HY:=ab (uh YES (by rw[uh HP,fY];rfl));clear YES NO HP fY;go_wp2_with (at_builtin;refine aQ _ rfl (.tmp 65) (.tmp 67) 177 rfl wz.heap.size 182 i0 _ 3 24 underlying177 jN fW fy fJ rfl (by decide) _ L.length (af L) rfl ((uh Y0).alloc _) ⟨_,0,none⟩ 1 [.int .i64 (p.k:Int),.int .i64 (p.l:Int),.int .i64 (p.r:Int)] rfl rfl (aM _ _ (by simp) [.int .i64 (p.k:Int),.int .i64 (p.l:Int),.int .i64 (p.r:Int)] _) (px p) (by omega) (by omega) (by have:=(uh eU).size;simp at this ⊢;omega) ?_)
          intro g4 cap4 w4 gI dM iL;have HN:Hid (w4.ownsRow wz.heap.size 182 3 (.slice (some ⟨g4,0,none⟩) (L.length+1) cap4) ((f.ap.take (k+1)).filter (xR f)).length (af ((f.ap.take (k+1)).filter (xR f)))/\Below wz.heap.size wz w4):=ab (by
           rw[uh HY,length_append,length_singleton,dZ];refine⟨gI,?_⟩;have hb:=(uh eU).alloc (uh eU).size (.cells #[.int .i64 (p.k:Int),.int .i64 (p.l:Int),.int .i64 (p.r:Int)] 182);exact hb.grown dM hb.size (λk hk=>((uh Y0).lt k hk).1))
          clear gI dM iL;go_wp2_with fail
          go_roundw
          case rel=>exact⟨k+1,by omega,by go_num,HN⟩
          case measure=>simp[intOf];omega
         .go_wp2_with fail
          go_roundw
          case rel=>exact⟨k+1,by omega,by go_num,ab (by rw[uh NO (by rw[uh HP,fY];rfl)];exact⟨uh Y0,uh eU⟩)⟩
          case measure=>simp[intOf];omega
      .have hd:decide ((k:Int)<(f.ap.length:Int))=false:=(by simp;omega);have jl:k=f.ap.length:=(by omega);have QE:=(uh Pi).trans ((uh hI).2.mono (uh Pi).size);have hs:aq (Value.slice aa f.ap.length ac).ownBlock.toList w (Value.slice ra ((f.ap.take k).filter (xR f)).length rc).ownBlock.toList wr:=(aq.ofBw (F:=(Value.slice aa f.ap.length ac).ownBlock.toList) QE).foots (λj hj=>zq1 (zq3 (uh Pi).size ((uh hI).1.lt j (by simpa using hj)).1));have hN:=(uh H).newAv (ap':=(f.ap.take k).filter (xR f)) hs (v':=.slice ra ((f.ap.take k).filter (xR f)).length rc) (λj hj=>by simpa using hj) (dB (uh hI).1 (zq5 _));have HN:=ab hN;have HE:Hid (EH f={ f with ap:=(f.ap.take k).filter (xR f) }):=ab (by unfold EH;rw[jl,take_length]);have c5:=hF.c5;have f5:=ownsRow.frozenAt hF.ob 5;clear hs hN jl hF QE Zr;go_wp2_with fail
       go_end0
       exact⟨rfl,_,by rw[uh HE];exact(uh HN).1,(uh HN).2⟩
end
