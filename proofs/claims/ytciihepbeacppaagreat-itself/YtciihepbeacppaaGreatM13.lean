import Derived.Test.YtciihepbeacppaaGreatM12
namespace Go.Proofs.YtciihepbeacppaaGreat
open Go.RowKit List
set_option linter.unusedVariables false
structure Lz where
 nx:List CF
 ot:List CF
 nu:Bool
 da:Bool
 fu:Bool
def uF:Lz:=⟨[],[],false,false,false⟩
def nV(f:CF)(k i:Nat):Nat:=if k=1 then f.cl.getD (1+i) 0 else f.cl.getD 0 0
def setC(f:CF)(i c:Nat):CF:={ f with cl:=f.cl.set i c }
def qW(f:CF)(p:Pr):CF:={ f with ow:=f.ow++[p] }
def cC(f:CF)(a b:Nat):CF:={ f with ap:=f.ap++[⟨2,a,b⟩] }
def setO(f:CF)(i:Nat)(p:Pr):CF:={ f with ow:=f.ow.set i p }
def jh(f:CF)(i:Nat):CF:={ f with ow:=rp f.ow i }
def owA(f:CF)(i:Nat):Pr:=f.ow.getD i au
def kO(f:CF)(c i:Nat):CF:=sS f (owA f i).l c
def Cn(f:CF)(c i:Nat):CF:=qW (setO f i ⟨(owA f i).k,(owA f i).l,c⟩) ⟨4,c,(owA f i).r⟩
def gP(f:CF)(c i:Nat):List CF:=(if dS f c (owA f i).l=true then [] else [kO f c i])++(if (owA f i).k=4 then [Cn f c i] else [])
def nY(f:CF)(i:Nat):CF:=setO f i ⟨3,(owA f i).l,(owA f i).r⟩
def Bq(f:CF)(c i:Nat):CF:=qW (setO f i ⟨3,c,aI f⟩) ⟨4,aI f,(owA f i).r⟩
def MV(f:CF)(c i:Nat):List CF × Bool:=if (owA f i).k=3 then ([f],false) else if 24<=aI f then ([nY f i],true) else ([nY f i,Bq f c i],false)
def lD(f:CF)(c:Nat):List CF × Bool:=match cR f.ow c with|none=>([],false)|some i=>MV f c i
def Db(r:List CF × Bool)(g:CF)(c:Nat):List CF × Bool:=(r.1++(lD g c).1,r.2||(lD g c).2)
def xP(f:CF)(v i:Nat)(r:List CF × Bool):List CF × Bool:=(gP f (f.cl.getD (1+v) 0) i).foldl (λr g=>Db r g (g.cl.getD (1+v) 0)) r
def fC(f:CF)(v:Nat):List CF × Bool × Bool × Bool :=
 if f.cl.getD (1+v) 0=f.cl.getD 0 0 then ([],true,false,false)
 else if (cR f.ow (f.cl.getD (1+v) 0)).isSome=true then ((lD f (f.cl.getD (1+v) 0)).1,false,false,(lD f (f.cl.getD (1+v) 0)).2)
 else
  let r:=(range f.ow.length).foldl (λr i=>xP f v i r) ([],false)
  (r.1,!dS f (f.cl.getD (1+v) 0) (f.cl.getD 0 0),true,r.2)
def oZ(f:CF)(c:Nat):Nat:=(cR f.ow c).getD 0
def gG(g:CF)(n:Nd):CF:=setC g (1+n.v) (owA g (oZ g (g.cl.getD (1+n.ai) 0))).r
def qX(g:CF)(n:Nd):CF:=let i:=oZ g (g.cl.getD (1+n.v) 0);setO g i ⟨(owA g i).k,(owA g i).l,nV g n.ak n.ai⟩
def qK(g:CF)(v:Nat):CF :=
 let c:=g.cl.getD (1+v) 0
 let t:=jh g (oZ g c)
 t.ow.foldl (λh p=>cC h c p.l) (cC t c (t.cl.getD 0 0))
def C9(f:CF)(v:Nat):CF:=setC (qW f ⟨3,aI f,f.cl.getD 0 0⟩) (1+v) (aI f)
def br(r:List CF × Bool × Bool × Bool)(g:CF->CF):Lz:=⟨r.1.map (λx=>bz (g x)),[],r.2.1,r.2.2.1,r.2.2.2⟩
def jM(f:CF)(n:Nd):List CF × List CF :=
 let a:=f.cl.getD (1+n.v) 0
 let b:=nV f n.ak n.ai
 (if dS f a b=true then [] else [bz (sS f a b)],if a=b then [] else [bz (cC f a b)])
def b8(n:Nd)(f:CF):Lz :=
 if n.op=0 then uF
 else if n.op=1 then ⟨[bz (setC f (1+n.v) (nV f n.ak n.ai))],[],false,false,false⟩
 else if n.op=2 then br (fC f n.ai) (λg=>gG g n)
 else if n.op=3 then br (fC f n.v) (λg=>qX g n)
 else if n.op=4 then (if 24<=aI f then ⟨[],[],false,false,true⟩ else ⟨[bz (C9 f n.v)],[],false,false,false⟩)
 else if n.op=5 then br (fC f n.v) (λg=>qK g n.v)
 else if n.op=7 then ⟨[bz f],[bz f],false,false,false⟩
 else if n.op=8 then ⟨(jM f n).1,(jM f n).2,false,false,false⟩
 else if n.op=9 then ⟨(jM f n).2,(jM f n).1,false,false,false⟩
 else ⟨[bz f],[],false,false,false⟩
theorem eI{f:CF}{i:Nat}(hi:i<5):f.cl.getD i 0∈jJ f:=by
 have:i=0\/i=1\/i=2\/i=3\/i=4:=by omega
 rcases this with rfl|rfl|rfl|rfl|rfl <;> simp[jJ]
theorem pf{f:CF}(h5:f.cl.length=5):jJ f=f.cl:=by
 match hc:f.cl,h5 with
 |[a,b,c,d,e],_=>simp[jJ,hc]
theorem am.mk'{f:CF}(c5:f.cl.length=5)(cl:∀c∈f.cl,c<24)(ow:∀p∈f.ow,p.l<24/\p.r<24)(ap:∀p∈f.ap,p.l<24/\p.r<24)(lf:vt f.ow)(kd:∀p∈f.ap,p.k=2):am f:=⟨c5,by rw[pf c5];exact cl,ow,ap,lf,kd⟩
theorem am.cl'{f:CF}(h:am f):∀c∈f.cl,c<24:=by rw[<-pf h.c5];exact h.cl
theorem am.get{f:CF}(h:am f)(i:Nat):f.cl.getD i 0<24:=by
 by_cases hi:i<5
 .exact h.cl _ (eI hi)
 .rw[getD_eq_getElem?_getD,getElem?_eq_none (by have:=h.c5;omega)];decide
theorem am.cT{f:CF}(h:am f)(k i:Nat):nV f k i<24:=by unfold nV;split <;> exact h.get _
theorem am.oA{f:CF}(h:am f)(i:Nat):(owA f i).l<24/\(owA f i).r<24:=by
 unfold owA;by_cases hi:i<f.ow.length
 .exact h.ow _ (aZ hi)
 .rw[getD_eq_getElem?_getD,getElem?_eq_none (by omega)];decide
theorem am.sC{f:CF}(h:am f)(i:Nat){c:Nat}(hc:c<24):am (setC f i c):=by
 refine am.mk' ?_ ?_ h.ow h.ap h.lf h.kd
 .simpa[setC] using h.c5
 .intro d hd;rcases mem_or_eq_of_mem_set hd with hd|rfl
  .exact h.cl' d hd
  .exact hc
theorem am.ly{f:CF}(h:am f){p:Pr}(h1:p.l<24)(h2:p.r<24)(hn:∀q∈f.ow,q.l≠p.l):am (qW f p):=by
 refine am.mk' h.c5 h.cl' ?_ h.ap ?_ h.kd
 .intro q hq;rcases mem_append.1 hq with hq|hq
  .exact h.ow q hq
  .rw[mem_singleton]at hq;subst hq;exact⟨h1,h2⟩
 .have hl:=h.lf;unfold vt at hl ⊢;show((f.ow++[p]).map (·.l)).Nodup;rw[map_append,nodup_append];refine⟨hl,by simp,?_⟩;intro a ha b hb e;obtain⟨q,hq,rfl⟩:=mem_map.1 ha;simp only[map_cons,map_nil,mem_singleton]at hb;exact hn q hq (e.trans hb)
theorem am.pa{f:CF}(h:am f){a b:Nat}(h1:a<24)(h2:b<24):am (cC f a b):=by
 refine am.mk' h.c5 h.cl' h.ow ?_ h.lf ?_
 .intro q hq;rcases mem_append.1 hq with hq|hq
  .exact h.ap q hq
  .rw[mem_singleton]at hq;subst hq;exact⟨h1,h2⟩
 .intro q hq;rcases mem_append.1 hq with hq|hq
  .exact h.kd q hq
  .rw[mem_singleton]at hq;subst hq;rfl
theorem pL{l:List Pr}{i:Nat}{p:Pr}(hp:i<l.length->p.l=(l.getD i au).l):(l.set i p).map (·.l)=l.map (·.l):=by
 rw[map_set];by_cases hi:i<l.length
 .rw[hp hi,bK hi];conv=>rhs;rw[<-@List.set_getElem_self _ (l.map (·.l)) i (by simpa using hi)]
  simp
 .rw[set_eq_of_length_le (by simp;omega)]
theorem am.sO{f:CF}(h:am f){i:Nat}{p:Pr}(hl:i<f.ow.length->p.l=(f.ow.getD i au).l)(h2:p.r<24)(h1:p.l<24):am (setO f i p):=by
 refine am.mk' h.c5 h.cl' ?_ h.ap ?_ h.kd
 .intro q hq;rcases mem_or_eq_of_mem_set hq with hq|rfl
  .exact h.ow q hq
  .exact⟨h1,h2⟩
 .have:=h.lf;unfold vt at this ⊢;show((f.ow.set i p).map (·.l)).Nodup;rw[pL hl];exact this
theorem kR(l:List Pr)(i:Nat):(rp l i).Sublist l:=by
 have e:l=(range l.length).map (λj=>l.getD j au):=by
  refine ext_getElem (by simp) (λj h1 h2=>?_);rw[getElem_map,getElem_range,bK h1]
 unfold rp pZ;conv=>rhs;rw[e]
 exact filter_sublist.map _
theorem am.tk{f:CF}(h:am f)(i:Nat):am (jh f i):=am.mk' h.c5 h.cl' (λp hp=>h.ow p ((kR f.ow i).subset hp)) h.ap (h.lf.sublist ((kR f.ow i).map _)) h.kd
theorem uR{k g c:Nat}(h1:k<24)(h2:c<24):gW k g c<24:=by unfold gW;split <;> assumption
theorem am.jo{f:CF}(h:am f){a b:Nat}(ha:a<24)(aJ:a=b\/(∀p∈f.ow,p.l≠a)\/∀p∈f.ow,p.l≠b):am (sS f a b):=by
 refine am.mk' ?_ ?_ ?_ ?_ ?_ ?_
 .show(f.cl.map _).length=5;simpa using h.c5
 .intro c hc;obtain⟨d,hd,rfl⟩:=mem_map.1 hc;exact uR ha (h.cl' d hd)
 .intro p hp;obtain⟨q,hq,rfl⟩:=mem_map.1 hp;exact⟨uR ha (h.ow q hq).1,uR ha (h.ow q hq).2⟩
 .intro p hp;obtain⟨q,hq,rfl⟩:=mem_map.1 hp;exact⟨uR ha (h.ap q hq).1,uR ha (h.ap q hq).2⟩
 .have hl:=h.lf;unfold vt at hl ⊢;show((f.ow.map (wF a b)).map (·.l)).Nodup;have e:((λx:Pr=>x.l) ∘ wF a b)=(gW a b) ∘ (λx:Pr=>x.l):=rfl;rw[map_map,e,<-map_map];unfold List.Nodup at hl ⊢;rw[pairwise_map];refine List.Pairwise.imp_of_mem ?_ hl;intro x y hx hy hxy e2;obtain⟨p,hp,rfl⟩:=mem_map.1 hx;obtain⟨q,hq,rfl⟩:=mem_map.1 hy;unfold gW at e2;rcases aJ with rfl|aJ|aJ
  .split at e2 <;> split at e2 <;> omega
  .have:=aJ p hp;have:=aJ q hq;split at e2 <;> split at e2 <;> omega
  .rw[if_neg (aJ p hp),if_neg (aJ q hq)]at e2;exact hxy e2
 .intro p hp;obtain⟨q,hq,rfl⟩:=mem_map.1 hp;exact h.kd q hq
theorem qy:∀{l:List Pr} {c:Nat},cR l c=none->∀p∈l,p.l≠c
 |[],_,_,p,hp=>by simp at hp
 |q::r,c,h,p,hp=>by
  unfold cR at h;split at h
  .cases h
  .rename_i hq;rcases mem_cons.1 hp with rfl|hp
   .exact hq
   .exact qy (Option.map_eq_none_iff.1 h) p hp
theorem gi{f:CF}{a b:Nat}(h:dS f a b=false):a=b\/(∀p∈f.ow,p.l≠a)\/∀p∈f.ow,p.l≠b:=by
 unfold dS at h;split at h
 .exact zq0 (by assumption)
 .rw[Bool.or_eq_false_iff]at h;have h2:=h.2;unfold qA at h2;right;cases ha:cR f.ow a with
  |none=>exact zq0 (qy ha)
  |some i =>
   cases hb:cR f.ow b with
   |none=>exact zq1 (qy hb)
   |some j=>rw[ha,hb]at h2;simp at h2
theorem iR:∀(l:List Pr) (m:Nat),m<=qq m l/\∀p∈l,p.l<=qq m l/\p.r<=qq m l
 |[],m=>⟨zq4 _,λp hp=>by simp at hp⟩
 |q::r,m=>by
  obtain⟨h1,h2⟩:=iR r (max (max m q.l) q.r);have e:qq m (q::r)=qq (max (max m q.l) q.r) r:=rfl;rw[e];refine⟨by omega,λp hp=>?_⟩;rcases mem_cons.1 hp with rfl|hp
  .exact⟨by omega,by omega⟩
  .exact h2 p hp
theorem O8{f:CF}:∀q∈f.ow,q.l≠aI f:=by
 intro q hq;unfold aI;have h1:=((iR f.ow (pN f)).2 q hq).1;have h2:=(iR f.ap (qq (pN f) f.ow)).1;omega
theorem mJ{f:CF}{i:Nat}(h:i<f.ow.length):owA f i∈f.ow:=aZ h
theorem am.m1{f:CF}(h:am f){c i:Nat}(hd:dS f c (owA f i).l=false):am (kO f c i) :=
 h.jo (h.oA i).1 (by rcases gi hd with e|e|e;exact zq0 e.symm;exact zq1 (zq1 e);exact zq1 (zq0 e))
theorem xY{f:CF}{i:Nat}{p q:Pr}(hl:i<f.ow.length->p.l=(f.ow.getD i au).l)(hq:q∈(setO f i p).ow):∃q'∈f.ow,q'.l=q.l:=by
 have e:=pL hl;have h1:q.l∈(f.ow.set i p).map (·.l):=mem_map_of_mem (f:=(·.l)) hq;rw[e]at h1;obtain⟨q',h2,h3⟩:=mem_map.1 h1;exact⟨q',h2,h3⟩
theorem am.m2{f:CF}(h:am f){c i:Nat}(hc:c<24)(hb:cR f.ow c=none):am (Cn f c i):=by
 have h1:am (setO f i ⟨(owA f i).k,(owA f i).l,c⟩):=h.sO (λ_=>rfl) hc (h.oA i).1;refine h1.ly hc (h.oA i).2 (λq hq e=>?_);obtain⟨q',h2,h3⟩:=xY (p:=⟨(owA f i).k,(owA f i).l,c⟩) (λ_=>rfl) hq;exact qy hb q' h2 (h3.trans e)
theorem am.f1{f:CF}(h:am f)(i:Nat):am (nY f i):=h.sO (λ_=>rfl) (h.oA i).2 (h.oA i).1
theorem am.f2{f:CF}(h:am f){c i:Nat}(hi:cR f.ow c=some i)(hn:aI f<24):am (Bq f c i):=by
 obtain⟨g1,g2⟩:=eO hi;have du:c<24:=by rw[<-g2];exact(h.oA i).1
 have h1:am (setO f i ⟨3,c,aI f⟩):=h.sO (λ_=>g2.symm) hn du;refine h1.ly hn (h.oA i).2 (λq hq e=>?_);obtain⟨q',h2,h3⟩:=xY (λ_=>g2.symm) hq;exact O8 q' h2 (h3.trans e)
theorem o6{l:List Pr}{c:Nat}:(cR l c).isSome=true↔∃p∈l,p.l=c:=by
 constructor
 .intro h;obtain⟨i,hi⟩:=Option.isSome_iff_exists.1 h;exact⟨_,yr hi,(eO hi).2⟩
 .rintro⟨p,hp,rfl⟩;cases h:cR l p.l with
  |none=>exact absurd rfl (qy h p hp)
  |some i=>rfl
structure qw(N v:Nat)(g:CF):Prop where
 ok:am g
 ln:g.ap.length<=N
 bg:(cR g.ow (g.cl.getD (1+v) 0)).isSome=true
theorem CL{f:CF}{i:Nat}{p:Pr}{c:Nat}(hl:i<f.ow.length->p.l=(f.ow.getD i au).l)(h:(cR f.ow c).isSome=true):(cR (setO f i p).ow c).isSome=true:=by
 rw[o6]at h ⊢;obtain⟨q,hq,rfl⟩:=h;have e:=pL hl;have h1:q.l∈f.ow.map (·.l):=mem_map_of_mem (f:=(·.l)) hq;rw[<-e]at h1;obtain⟨q',h2,h3⟩:=mem_map.1 h1;exact⟨q',h2,h3⟩
theorem MU{N v:Nat}{g:CF}(h:qw N v g):∀x∈(lD g (g.cl.getD (1+v) 0)).1,qw N v x:=by
 intro x hx;unfold lD at hx;cases hb:cR g.ow (g.cl.getD (1+v) 0) with
 |none=>rw[hb]at hx;simp at hx
 |some i =>
  rw[hb]at hx;simp only[MV]at hx;have h1:qw N v (nY g i):=⟨h.ok.f1 i,h.ln,CL (p:=⟨3,(owA g i).l,(owA g i).r⟩) (λ_=>rfl) h.bg⟩;split at hx
  .simp only[mem_singleton]at hx;subst hx;exact h
  .split at hx
   .simp only[mem_singleton]at hx;subst hx;exact h1
   .rename_i hn;simp only[mem_cons,not_mem_nil,or_false]at hx;rcases hx with rfl|rfl
    .exact h1
    .refine⟨h.ok.f2 hb (by omega),h.ln,?_⟩;have:=CL (f:=g) (i:=i) (p:=⟨3,g.cl.getD (1+v) 0,aI g⟩) (λ_=>(eO hb).2.symm) h.bg;rw[o6]at this ⊢;obtain⟨p,hp,e⟩:=this;exact⟨p,mem_append_left _ hp,e⟩
theorem zw{N v:Nat}{f:CF}(hv:v<4)(h:am f)(hl:f.ap.length<=N)(hb:cR f.ow (f.cl.getD (1+v) 0)=none){i:Nat}(hi:i<f.ow.length):∀x∈gP f (f.cl.getD (1+v) 0) i,qw N v x:=by
 intro x hx;unfold gP at hx;rcases mem_append.1 hx with hx|hx
 .split at hx
  .simp at hx
  .rename_i hd;simp only[mem_singleton]at hx;subst hx;refine⟨h.m1 (by simpa using hd),by simpa[kO,sS] using hl,?_⟩;have e:(kO f (f.cl.getD (1+v) 0) i).cl.getD (1+v) 0=(owA f i).l:=by
    show(f.cl.map _).getD (1+v) 0=_;have h5:=h.c5;rw[getD_eq_getElem?_getD,getElem?_map,getElem?_eq_getElem (by omega)];simp only[Option.map_some,Option.getD_some];unfold gW;rw[if_pos];rw[getD_eq_getElem?_getD,getElem?_eq_getElem (by omega)];rfl
   rw[e,o6];refine⟨wF (owA f i).l (f.cl.getD (1+v) 0) (owA f i),mem_map_of_mem (mJ hi),?_⟩;show gW _ _ _=_;unfold gW;split <;> rfl
 .split at hx
  .simp only[mem_singleton]at hx;subst hx;refine⟨h.m2 (h.get _) hb,hl,?_⟩;rw[o6];exact⟨⟨4,f.cl.getD (1+v) 0,(owA f i).r⟩,mem_append_right _ (by simp),rfl⟩
  .simp at hx
theorem qI{α β:Type}{P:α->Prop}(g:List α × Bool->β->List α × Bool):∀(l:List β) (r:List α × Bool),(∀x∈r.1,P x)->(∀b∈l,∀r,(∀x∈r.1,P x)->∀x∈(g r b).1,P x)->∀x∈(l.foldl g r).1,P x
 |[],_,hr,_=>hr
 |b::l,r,hr,hg=>qI g l (g r b) (hg b (by simp) r hr) (λb' rF=>hg b' (by simp[rF]))
theorem iU{N v:Nat}{f:CF}(hv:v<4)(h:am f)(hl:f.ap.length<=N):∀x∈(fC f v).1,qw N v x:=by
 unfold fC;split
 .intro x hx;simp at hx
 .split
  .rename_i hb;exact MU ⟨h,hl,hb⟩
  .rename_i hb;have rF:cR f.ow (f.cl.getD (1+v) 0)=none:=(by simpa using hb);refine qI (P:=qw N v) _ _ _ (λx hx=>by simp at hx) ?_;intro i hi r hr;rw[mem_range]at hi;refine qI (P:=qw N v) _ _ _ hr ?_;intro g hg r hr x hx;rcases mem_append.1 hx with hx|hx
   .exact hr x hx
   .exact MU (zw hv h hl rF hi g hg) x hx
theorem Ih:∀(l:List Pr) {g:CF} {c:Nat},am g->c<24->(∀p∈l,p.l<24)->am (l.foldl (λh p=>cC h c p.l) g)/\(l.foldl (λh p=>cC h c p.l) g).ap.length=g.ap.length+l.length
 |[],g,c,h,_,_=>⟨h,rfl⟩
 |p::r,g,c,h,hc,hl=>by
  obtain⟨h1,h2⟩:=Ih r (h.pa hc (hl p (by simp))) hc (λq hq=>hl q (by simp[hq]));refine⟨h1,?_⟩;rw[foldl_cons,h2];simp[cC];omega
theorem qL{N v:Nat}{g:CF}(h:qw N v g):am (qK g v)/\(qK g v).ap.length<=N+25:=by
 have h1:=h.ok.tk (oZ g (g.cl.getD (1+v) 0));have h2:=h1.pa (h.ok.get (1+v)) (h.ok.get 0);obtain⟨g1,g2⟩:=Ih (jh g (oZ g (g.cl.getD (1+v) 0))).ow h2 (h.ok.get (1+v)) (λp hp=>(h1.ow p hp).1);refine⟨g1,zq3 (Nat.le_of_eq g2) ?_⟩;have hl:=h1.owLen;have h3:=h.ln;show((g.ap++[_]).length+_:Nat)<=_;rw[length_append,length_singleton];omega
theorem yF{N:Nat}{n:Nd}{g:CF}(h:qw N n.ai g):am (gG g n)/\(gG g n).ap.length<=N:=⟨h.ok.sC _ (h.ok.oA _).2,h.ln⟩
theorem EM{N:Nat}{n:Nd}{g:CF}(h:qw N n.v g):am (qX g n)/\(qX g n).ap.length<=N:=⟨h.ok.sO (λ_=>rfl) (h.ok.cT _ _) (h.ok.oA _).1,h.ln⟩
theorem qB{f:CF}{v:Nat}(h:am f)(hn:aI f<24):am (C9 f v):=(h.ly (p:=⟨3,aI f,f.cl.getD 0 0⟩) hn (h.get 0) O8).sC _ hn
structure Td(f:CF):Prop where
 ok:am f
 ln:f.ap.length<=576
theorem am.tidy{f:CF}(h:am f):Td (bz f):=⟨h.td,U1 h⟩
theorem q9{r:List CF × Bool × Bool × Bool}{g:CF->CF}(h:∀x∈r.1,am (g x)):(∀x∈(br r g).nx,Td x)/\∀x∈(br r g).ot,Td x:=by
 refine⟨λx hx=>?_,λx hx=>by simp[br]at hx⟩;obtain⟨y,hy,rfl⟩:=mem_map.1 hx;exact(h y hy).tidy
theorem Me{f:CF}(h:am f)(n:Nd):(∀x∈(jM f n).1,Td x)/\∀x∈(jM f n).2,Td x:=by
 constructor
 .intro x hx;simp only[jM]at hx;split at hx
  .simp at hx
  .rename_i hd;simp only[mem_singleton]at hx;subst hx;exact(h.jo (h.get _) (gi (by simpa using hd))).tidy
 .intro x hx;simp only[jM]at hx;split at hx
  .simp at hx
  .simp only[mem_singleton]at hx;subst hx;exact(h.pa (h.get _) (h.cT _ _)).tidy
theorem lQ{n:Nd}{f:CF}(hv:n.v<4)(ha:n.ai<4)(h:Td f):(∀x∈(b8 n f).nx,Td x)/\∀x∈(b8 n f).ot,Td x:=by
 have one:∀{g:CF},am g->(∀x∈[bz g],Td x):=λhg x hx=>by rw[mem_singleton]at hx;subst hx;exact hg.tidy
 have no:∀x∈([]:List CF),Td x:=λx hx=>by simp at hx
 unfold b8;split
 .exact⟨no,no⟩
 .split
  .exact⟨one (h.ok.sC _ (h.ok.cT _ _)),no⟩
  .split
   .exact q9 (λx hx=>(yF (iU ha h.ok h.ln x hx)).1)
   .split
    .exact q9 (λx hx=>(EM (iU hv h.ok h.ln x hx)).1)
    .split
     .split
      .exact⟨no,no⟩
      .exact⟨one (qB h.ok (by omega)),no⟩
     .split
      .exact q9 (λx hx=>(qL (iU hv h.ok h.ln x hx)).1)
      .split
       .exact⟨one h.ok,one h.ok⟩
       .split
        .exact Me h.ok n
        .split
         .exact(Me h.ok n).symm
         .exact⟨one h.ok,no⟩
def Bo(f:CF)(i:Nat):Nat:=((range (i+1)).find? (λk=>f.cl.getD k 0==f.cl.getD i 0)).getD 0
def Am(f:CF)(i:Nat):Nat:=match cR f.ow (f.cl.getD i 0) with|some j=>(owA f j).k|none=>0
def PB(f:CF):Nat:=f.ow.countP (λp=>decide (p.k=3))
def TX(f:CF):Nat:=f.ow.countP (λp=>!decide (p.k=3))
def roB(s t:CF):Bool:=!(decide (PB s<PB t)||decide (PB s+TX s<PB t+TX t))&&(decide (0<TX t)||(decide (TX s=0)&&decide (PB s=PB t)))
def Hj(s t:CF)(i:Nat):Bool:=decide (Bo s (Bo t i)=Bo s i)&&!(decide (Am t i=3)&&!decide (Am s i=3))&&!(decide (Am t i=4)&&decide (Am s i=0))
def Rf(s t:CF):Bool:=Hj s t 0&&Hj s t 1&&Hj s t 2&&Hj s t 3&&Hj s t 4
def zZ(s t:CF):Bool:=roB s t&&Rf s t&&(match rC s t [0,1,2,3,4] (replicate 24 none) with|none=>false|some an=>(xj s t an 128).1)
structure f9 where
 f:CF
 d:Bool
structure Sr where
 kn:List (List f9)
 wr:List (List Bool)
 lf:Int
 lo:Int
 fu:Bool
 ok:Bool
structure Cd where
 nds:List Nd
 hd:List Bool
 lp:Bool
 bd:Bool
def aS:Nd:=⟨0,0,0,0,0,0⟩
def pV(c:Cd)(s:Sr):Sr:={ s with lf:=wrap64 (s.lf-1),fu:=s.fu||(decide (wrap64 (s.lf-1)<0)&&c.bd) }
def mb(c:Cd)(s:Sr)(n:Nat):Sr:={ s with lo:=wrap64 (s.lo-n),fu:=s.fu||(decide (wrap64 (s.lo-n)<0)&&c.bd) }
def bh(s:Sr)(n:Nat):List f9:=s.kn.getD n []
def ch(c:Cd)(n:Nat)(f:CF):CF:=if c.hd.getD n false=true then bz (Jq f) else f
def rX:Nat:=1000000000000
def gh:Nat:=900000
def m9(n:Nat)(g:CF)(s:Sr):Sr:={ s with ok:=s.ok&&decide ((bh s n).length<=rX),kn:=s.kn.set n ((bh s n).filter (λe=>!zZ e.f g)++[⟨g,false⟩]) }
def bG(c:Cd)(n:Nat)(f:CF)(s:Sr):Sr :=
 if (bh s n).any (λe=>zZ (ch c n f) e.f)=true then { mb c s (2*(bh s n).length) with ok:=s.ok&&decide ((bh s n).length<=rX) }
 else pV c (m9 n (ch c n f) (mb c s (2*(bh s n).length)))
def eY(f:CF):List Nat:=(range f.ow.length).filter (λi=>!decide ((owA f i).l∈oJ f))
def Vg(f:CF):CF:=bz { f with ow:=f.ow.filter (λp=>decide (p.l∈oJ f)) }
def pS(a b:List Pr):Bool:=decide (a.length=b.length)&&(range a.length).all (λi=>CC (a.getD i au) (b.getD i au))
def UK(f g:CF):Bool:=decide (jJ f=jJ g)&&pS f.ap g.ap&&pS f.ow g.ow
def neB(cs:List CF)(f:CF):Bool:=!cs.any (λg=>UK f g)
def ny(c:Cd)(r:List CF × Sr)(g:CF):List CF × Sr:=if neB r.1 (bz g)=true then (r.1++[bz g],pV c { r.2 with ok:=r.2.ok&&decide (r.1.length<=gh) }) else r
def fnA(f:CF)(a:Nat):Bool:=decide (a∈oJ f)&&!decide (a=f.cl.getD 0 0)&&!(cR f.ow a).isSome
def pm(c:Cd)(f:CF)(i:Nat)(r:List CF × Sr)(a:Nat):List CF × Sr:=if fnA f a=true then (gP f a i).foldl (ny c) r else r
def fI(c:Cd)(f:CF)(r:List CF × Sr)(i:Nat):List CF × Sr:=(range 24).foldl (pm c f i) r
def vW(c:Cd)(g:CF)(r:List CF × Sr)(res:List CF):List CF × List CF × Sr :=
 if eY g=[] then (res++[g],r) else (res++[Vg g],(eY g).foldl (fI c g) r)
def iF(c:Cd):Nat->Nat->List CF->List CF × Sr->List CF × Sr
 |0,_,res,r=>(res,{ r.2 with ok:=false })
 |n+1,k,res,r=>if k<r.1.length/\r.2.fu=false then iF c n (k+1) (vW c (r.1.getD k ⟨[],[],[]⟩) r res).1 (vW c (r.1.getD k ⟨[],[],[]⟩) r res).2 else (res,r.2)
def kT(n k:Nat)(s:Sr):Sr:={ s with wr:=s.wr.set n ((s.wr.getD n []).set k true) }
def dG(c:Cd)(fuel from_ to_:Nat)(f:CF)(s:Sr):Sr :=
 if c.lp=false\/eY f=[] then bG c to_ f s
 else
  let r:=iF c fuel 0 [] ([f],kT from_ 2 s)
  r.1.foldl (λs g=>bG c to_ g s) r.2
def fuS(b:Bool)(s:Sr):Sr:={ s with fu:=s.fu||b }
def wrI(b:Bool)(n k:Nat)(s:Sr):Sr:=if b=true then kT n k s else s
def nH(c:Cd)(fuel:Nat)(n:Nat)(f:CF)(s:Sr):Sr :=
 let nd:=c.nds.getD n aS
 let o:=b8 nd f
 let s1:=wrI (decide (nd.op=0)&&!decide (eY f=[])) n 2 s
 let s2:=fuS o.fu (wrI o.da n 4 (wrI o.nu n 3 s1))
 let s3:=o.nx.foldl (λs g=>dG c fuel n nd.nx g s) s2
 o.ot.foldl (λs g=>dG c fuel n nd.ot g s) s3
def lL(c:Cd)(fuel n:Nat):List CF->Sr->Sr
 |[],s=>s
 |f::r,s=>if s.fu=true then s else lL c fuel n r (nH c fuel n f s)
def kH(l:List f9):List CF:=(l.filter (λe=>!e.d)).map (·.f)
def qd(c:Cd)(fuel n:Nat)(s:Sr):Sr:=lL c fuel n (kH (bh s n)) { s with kn:=s.kn.set n ((bh s n).map (λe=>⟨e.f,true⟩)) }
def E1(s:Sr):Option Nat:=s.kn.findIdx? (λl=>l.any (λe=>!e.d))
def ng(c:Cd)(fuel:Nat):Nat->Sr->Sr
 |0,s=>{ s with ok:=false }
 |n+1,s=>match E1 s with
  |none=>s
  |some k=>if s.fu=true then s else ng c fuel n (qd c fuel k s)
def v9(al:List bC):Nat:=al.foldl (λm a=>let m1:=if a.lk=2/\m<=a.li then a.li+1 else m;if a.rk=2/\m1<=a.ri then a.ri+1 else m1) 0
def lG(nds:List Nd)(i:Nat):Bool:=decide ((nds.getD i aS).op=10)&&decide ((nds.getD i aS).nx<i)
def K6(nds:List Nd)(nv:Nat)(al:List bC):Bool :=
 !(range nds.length).any (lG nds)&&!al.any (λa=>decide (a.k=4)) &&
 decide (nds.countP (λn=>decide (n.op=7\/n.op=8\/n.op=9))<=5)&&decide (nds.countP (λn=>decide (n.op=4))<=4)&&decide (nv+v9 al<=6)&&decide (nv+v9 al+nds.countP (λn=>decide (n.op=4))<=8)
def hdL(nds:List Nd):List Bool:=(range nds.length).foldl (λh i=>if lG nds i=true then h.set (nds.getD i aS).nx true else h) (replicate nds.length false)
def Ao(nds:List Nd)(nv:Nat)(al:List bC):Cd:=⟨nds,hdL nds,(range nds.length).any (lG nds),!K6 nds nv al⟩
def jH(nds:List Nd):Sr:=⟨replicate nds.length [],replicate nds.length (replicate 5 false),3000,2097152,false,true⟩
def sG(f:CF)(nv:Nat):CF:={ f with cl:=(range 5).map (λi=>if nv<i then f.cl.getD 0 0 else f.cl.getD i 0) }
def dL(c:Cd)(fuel nv:Nat)(al:List bC)(s:Sr):Sr:=if dT (aG al)=true then s else dG c fuel (c.nds.length-1) 0 (bz (sG (aG al) nv)) s
structure Rs where
 vd:Nat
 al:List (Nat × Nat)
 kn:List (List CF)
def RS(wr:List (List Bool)):List (Nat × Nat):=(range wr.length).flatMap (λn=>([2,3,4].filter (λk=>(wr.getD n []).getD k false)).map (λk=>(n,k)))
def AM(s:Sr):Rs:=if s.fu=true then ⟨2,[],[]⟩ else ⟨if RS s.wr=[] then 0 else 1,RS s.wr,s.kn.map (λl=>l.map (·.f))⟩
theorem Gu{f:CF}(h:am f)(k:Nat):am (qH f k)/\(qH f k).ap=f.ap:=by
 refine⟨am.mk' h.c5 h.cl' ?_ h.ap ?_ h.kd,rfl⟩
 .intro p hp;obtain⟨q,hq,rfl⟩:=mem_map.1 ((kR _ k).subset hp);unfold fo1;split
  .exact⟨(h.ow q hq).1,(h.oA k).2⟩
  .exact h.ow q hq
 .have hl:=h.lf;unfold vt at hl ⊢;refine List.Nodup.sublist ((kR _ k).map _) ?_;rw[map_map];have e:((λx:Pr=>x.l) ∘ fo1 (f.ow.getD k au).l (f.ow.getD k au).r)=(λx:Pr=>x.l):=by
   funext x;simp only[Function.comp,fo1];split <;> rfl
  rw[e];exact hl
theorem gH:∀(n:Nat) {f:CF},am f->am (fX n f)/\(fX n f).ap=f.ap
 |0,_,h=>⟨h,rfl⟩
 |n+1,f,h=>by
  unfold fX;split
  .exact⟨h,rfl⟩
  .rename_i k _;obtain⟨h1,h2⟩:=Gu h k;obtain⟨g1,g2⟩:=gH n h1;exact⟨g1,g2.trans h2⟩
theorem zn{c:Cd}{n:Nat}{f:CF}(h:Td f):Td (ch c n f):=by
 unfold ch;split
 .exact(gH _ h.ok).1.tidy
 .exact h
def lB(s:Sr):Prop:=∀l∈s.kn,∀e∈l,Td e.f
theorem lB.at{s:Sr}(h:lB s)(n:Nat):∀e∈bh s n,Td e.f:=by
 unfold bh;intro e he;by_cases hn:n<s.kn.length
 .rw[getD_eq_getElem?_getD,getElem?_eq_getElem hn]at he;exact h _ (getElem_mem hn) e he
 .rw[getD_eq_getElem?_getD,getElem?_eq_none (by omega)]at he;simp at he
theorem lB.set{s:Sr}(h:lB s)(n:Nat){l:List f9}(hl:∀e∈l,Td e.f):∀l'∈s.kn.set n l,∀e∈l',Td e.f:=by
 intro l' h' e he;rcases mem_or_eq_of_mem_set h' with h'|rfl
 .exact h l' h' e he
 .exact hl e he
theorem zo{c:Cd}{n:Nat}{f:CF}{s:Sr}(hf:Td f)(h:lB s):lB (bG c n f s):=by
 unfold bG;split
 .exact h
 .show lB (pV c (m9 n (ch c n f) (mb c s _)));show ∀l∈(s.kn.set n _),_;refine h.set n (λe he=>?_);rcases mem_append.1 he with he|he
  .exact h.at n e (mem_filter.1 he).1
  .rw[mem_singleton]at he;subst he;exact zn hf
theorem QG{f:CF}(h:am f):Td (Vg f) :=
 am.tidy (am.mk' h.c5 h.cl' (λp hp=>h.ow p (mem_filter.1 hp).1) h.ap (h.lf.sublist (filter_sublist.map _)) h.kd)
def cG(cs:List CF):Prop:=∀f∈cs,Td f
theorem Hs{f:CF}(h:am f){a i:Nat}(ha:a<24)(hb:cR f.ow a=none):∀g∈gP f a i,am g:=by
 intro g hg;unfold gP at hg;rcases mem_append.1 hg with hg|hg
 .split at hg
  .simp at hg
  .rename_i hd;rw[mem_singleton]at hg;subst hg;exact h.m1 (by simpa using hd)
 .split at hg
  .rw[mem_singleton]at hg;subst hg;exact h.m2 ha hb
  .simp at hg
theorem Yv{c:Cd}{r:List CF × Sr}{g:CF}(hr:cG r.1)(hg:am g):cG (ny c r g).1/\(ny c r g).2.kn=r.2.kn/\(ny c r g).2.wr=r.2.wr:=by
 unfold ny;split
 .refine⟨λf hf=>?_,rfl,rfl⟩;rcases mem_append.1 hf with hf|hf
  .exact hr f hf
  .rw[mem_singleton]at hf;subst hf;exact hg.tidy
 .exact⟨hr,rfl,rfl⟩
theorem Gq{c:Cd}:∀(l:List CF) {r:List CF × Sr},cG r.1->(∀g∈l,am g)->cG (l.foldl (ny c) r).1/\(l.foldl (ny c) r).2.kn=r.2.kn/\(l.foldl (ny c) r).2.wr=r.2.wr
 |[],r,hr,_=>⟨hr,rfl,rfl⟩
 |g::l,r,hr,hl=>by
  obtain⟨h1,h2,h3⟩:=Yv (c:=c) hr (hl g (by simp));obtain⟨g1,g2,g3⟩:=Gq l h1 (λx hx=>hl x (by simp[hx]));exact⟨g1,g2.trans h2,g3.trans h3⟩
theorem Yy{c:Cd}{f:CF}{i a:Nat}{r:List CF × Sr}(ha:a<24)(hf:am f)(hr:cG r.1):cG (pm c f i r a).1/\(pm c f i r a).2.kn=r.2.kn/\(pm c f i r a).2.wr=r.2.wr:=by
 unfold pm;split
 .rename_i h;unfold fnA at h;simp only[Bool.and_eq_true,Bool.not_eq_true']at h;refine Gq _ hr (Hs hf ha ?_);have:=h.2;cases hb:cR f.ow a with
  |none=>rfl
  |some j=>rw[hb]at this;simp at this
 .exact⟨hr,rfl,rfl⟩
theorem Gr{c:Cd}{f:CF}{i:Nat}(hf:am f):∀(l:List Nat) {r:List CF × Sr},(∀a∈l,a<24)->cG r.1->cG (l.foldl (pm c f i) r).1/\(l.foldl (pm c f i) r).2.kn=r.2.kn/\(l.foldl (pm c f i) r).2.wr=r.2.wr
 |[],r,_,hr=>⟨hr,rfl,rfl⟩
 |a::l,r,hl,hr=>by
  obtain⟨h1,h2,h3⟩:=Yy (c:=c) (i:=i) (hl a (by simp)) hf hr;obtain⟨g1,g2,g3⟩:=Gr hf l (λx hx=>hl x (by simp[hx])) h1;exact⟨g1,g2.trans h2,g3.trans h3⟩
theorem SN{c:Cd}{f:CF}(hf:am f){r:List CF × Sr}(i:Nat)(hr:cG r.1):cG (fI c f r i).1/\(fI c f r i).2.kn=r.2.kn/\(fI c f r i).2.wr=r.2.wr:=Gr hf _ (λa ha=>mem_range.1 ha) hr
theorem Bt{c:Cd}{f:CF}(hf:am f):∀(l:List Nat) {r:List CF × Sr},cG r.1->cG (l.foldl (fI c f) r).1/\(l.foldl (fI c f) r).2.kn=r.2.kn/\(l.foldl (fI c f) r).2.wr=r.2.wr
 |[],r,hr=>⟨hr,rfl,rfl⟩
 |i::l,r,hr=>by
  obtain⟨h1,h2,h3⟩:=SN (c:=c) hf i hr;obtain⟨g1,g2,g3⟩:=Bt hf l h1;exact⟨g1,g2.trans h2,g3.trans h3⟩
theorem MS{c:Cd}{g:CF}(hg:Td g){r:List CF × Sr}{res:List CF}(hr:cG r.1)(hs:cG res):cG (vW c g r res).1/\cG (vW c g r res).2.1/\(vW c g r res).2.2.kn=r.2.kn/\(vW c g r res).2.2.wr=r.2.wr:=by
 have app:∀{x:CF},Td x->cG (res++[x]):=λhx f hf=>by
  rcases mem_append.1 hf with hf|hf
  .exact hs f hf
  .rw[mem_singleton]at hf;subst hf;exact hx
 unfold vW;split
 .exact⟨app hg,hr,rfl,rfl⟩
 .exact⟨app (QG hg.ok),Bt hg.ok _ hr⟩
theorem lS{c:Cd}:∀(n k:Nat) {res:List CF} {r:List CF × Sr},cG r.1->cG res->cG (iF c n k res r).1/\(iF c n k res r).2.kn=r.2.kn/\(iF c n k res r).2.wr=r.2.wr
 |0,k,res,r,_,hs=>⟨hs,rfl,rfl⟩
 |n+1,k,res,r,hr,hs=>by
  unfold iF;split
  .rename_i h;have hg:Td (r.1.getD k ⟨[],[],[]⟩):=by
    rw[getD_eq_getElem?_getD,getElem?_eq_getElem h.1];exact hr _ (getElem_mem h.1)
   obtain⟨h1,h2,h3,h4⟩:=MS (c:=c) hg hr hs;obtain⟨g1,g2,g3⟩:=lS (c:=c) n (k+1) h2 h1;exact⟨g1,g2.trans h3,g3.trans h4⟩
  .exact⟨hs,rfl,rfl⟩
theorem Hd{c:Cd}{n:Nat}:∀(l:List CF) {s:Sr},cG l->lB s->lB (l.foldl (λs g=>bG c n g s) s)
 |[],_,_,h=>h
 |g::l,s,hl,h=>Hd l (λx hx=>hl x (by simp[hx])) (zo (hl g (by simp)) h)
theorem DO{c:Cd}{fuel a b:Nat}{f:CF}{s:Sr}(hf:Td f)(h:lB s):lB (dG c fuel a b f s):=by
 unfold dG;split
 .exact zo hf h
 .have h1:cG [f]:=λx hx=>by rw[mem_singleton]at hx;subst hx;exact hf
  obtain⟨g1,g2,-⟩:=lS (c:=c) fuel 0 (r:=([f],kT a 2 s)) (res:=[]) h1 (λx hx=>by simp at hx);refine Hd _ g1 ?_;unfold lB;rw[g2];exact h
theorem DL{c:Cd}{fuel a b:Nat}:∀(l:List CF) {s:Sr},cG l->lB s->lB (l.foldl (λs g=>dG c fuel a b g s) s)
 |[],_,_,h=>h
 |g::l,s,hl,h=>DL l (λx hx=>hl x (by simp[hx])) (DO (hl g (by simp)) h)
theorem gw(b:Bool)(n k:Nat)(s:Sr):(wrI b n k s).kn=s.kn:=by unfold wrI;split <;> rfl
theorem Qa{c:Cd}{fuel n:Nat}{f:CF}{s:Sr}(hv:(c.nds.getD n aS).v<4)(ha:(c.nds.getD n aS).ai<4)(hf:Td f)(h:lB s):lB (nH c fuel n f s):=by
 obtain⟨h1,h2⟩:=lQ hv ha hf;unfold nH;refine DL _ h2 (DL _ h1 ?_);unfold lB;show ∀l∈(wrI _ n 4 (wrI _ n 3 (wrI _ n 2 s))).kn,_;rw[gw,gw,gw];exact h
theorem QD{n:Int}(h1:-9000000000000000000<=n)(h2:n<=9000000000000000000):wrap64 n=n:=by unfold wrap64;omega
def aY{α:Type}(g:α->Nat):List α->Nat
 |[]=>0
 |a::l=>g a+aY g l
theorem uZ{α:Type}(g:α->Nat)(d:α):∀(l:List α) (n:Nat) (x:α),aY g (l.set n x)+(if n<l.length then g (l.getD n d) else 0)=aY g l+(if n<l.length then g x else 0)
 |[],n,x=>by simp[aY]
 |a::l,0,x=>by simp[aY];omega
 |a::l,n+1,x=>by
  have:=uZ g d l n x;simp only[set_cons_succ,aY,length_cons,getD_cons_succ,Nat.add_lt_add_iff_right];omega
theorem uX{α:Type}(g:α->Nat)(d:α):∀(l:List α) (n:Nat),n<l.length->g (l.getD n d)<=aY g l
 |[],n,h=>by simp at h
 |a::l,0,_=>by simp[aY]
 |a::l,n+1,h=>by
  have:=uX g d l n (by simpa using h);simp only[aY,getD_cons_succ];omega
def qF(s:Sr):Nat:=aY List.length s.kn
def eR(s:Sr):Nat:=aY (λl:List f9=>l.countP (λe=>!e.d)) s.kn
structure Gd(m:Nat)(s:Sr):Prop where
 en:(qF s:Int)+s.lf<=3000
 lo:-(m:Int)<=s.lf
 fu:s.fu=false->0<=s.lf
 ok:s.ok=true
theorem Gd.wide{m m':Nat}{s:Sr}(h:Gd m s)(hm:m<=m'):Gd m' s:=⟨h.en,by have:=h.lo;omega,h.fu,h.ok⟩
theorem Z9(s:Sr)(n:Nat):(bh s n).length<=qF s:=by
 unfold bh;by_cases hn:n<s.kn.length
 .exact uX List.length [] s.kn n hn
 .rw[getD_eq_getElem?_getD,getElem?_eq_none (by omega)];simp
theorem Fb{g:List f9->Nat}(hg:∀l,g []<=l){s:Sr}{n d:Nat}{x:List f9}(hx:g x<=g (bh s n)+d):aY g (s.kn.set n x)<=aY g s.kn+d:=by
 have h:=uZ g [] s.kn n x;unfold bh at hx;have:=hg 0;split at h <;> omega
theorem Hf{c:Cd}(hb:c.bd=true){m n:Nat}(hm:m<=10000000){f:CF}{s:Sr}(h:Gd m s):Gd (m+1) (bG c n f s)/\(eR (bG c n f s):Int)+(bG c n f s).lf<=eR s+s.lf/\(bG c n f s).lf<=s.lf:=by
 have rH:=h.lo;have hen:=h.en;have eV:=Z9 s n;have jD:(bh s n).length<=rX:=by unfold rX;omega
 unfold bG;split
 .refine⟨⟨hen,by show -((m+1:Nat):Int)<=s.lf;omega,λhf=>?_,?_⟩,Int.le_refl _,Int.le_refl _⟩
  .refine h.fu ?_;have:(s.fu||(decide (wrap64 (s.lo-((2*(bh s n).length:Nat):Int))<0)&&c.bd))=false:=hf;simp only[Bool.or_eq_false_iff]at this;exact this.1
  .show(s.ok&&decide _)=true;rw[h.ok];simpa using jD
 .have hw:wrap64 (s.lf-1)=s.lf-1:=QD (by omega) (by omega);have he:qF (m9 n (ch c n f) (mb c s (2*(bh s n).length)))<=qF s+1:=by
   refine Fb (g:=List.length) (λl=>by simp) (s:=s) (n:=n) (d:=1) ?_;show(List.length ((bh s n).filter (λe:f9=>!zZ e.f (ch c n f))++[(⟨ch c n f,false⟩:f9)]))<=_;rw[length_append];have:=length_filter_le (λe:f9=>!zZ e.f (ch c n f)) (bh s n);simpa using this
  have hu:eR (m9 n (ch c n f) (mb c s (2*(bh s n).length)))<=eR s+1:=by
   refine Fb (g:=λl:List f9=>l.countP (λe=>!e.d)) (λl=>by simp) (s:=s) (n:=n) (d:=1) ?_;rw[countP_append];have h1:List.countP (λe:f9=>!e.d) ((bh s n).filter (λe:f9=>!zZ e.f (ch c n f)))<=List.countP (λe:f9=>!e.d) (bh s n):=List.Sublist.countP_le filter_sublist;have h2:List.countP (λe:f9=>!e.d) [(⟨ch c n f,false⟩:f9)]=1:=rfl;show List.countP (λe:f9=>!e.d) ((bh s n).filter (λe:f9=>!zZ e.f (ch c n f)))+_<=_;omega
  have e1:(pV c (m9 n (ch c n f) (mb c s (2*(bh s n).length)))).lf=s.lf-1:=hw;refine⟨⟨?_,?_,?_,?_⟩,?_,?_⟩
  .rw[e1];show(qF (m9 n (ch c n f) (mb c s (2*(bh s n).length))):Int)+_<=_;omega
  .rw[e1];omega
  .intro hf;have AA:((s.fu||(decide (wrap64 (s.lo-((2*(bh s n).length:Nat):Int))<0)&&c.bd))||(decide (wrap64 (s.lf-1)<0)&&c.bd))=false:=hf;rw[hb,hw]at AA;simp only[Bool.or_eq_false_iff,Bool.and_true,decide_eq_false_iff_not]at AA;rw[e1];omega
  .show(s.ok&&decide ((bh s n).length<=rX))=true;rw[h.ok];simpa using jD
  .rw[e1];show(eR (m9 n (ch c n f) (mb c s (2*(bh s n).length))):Int)+_<=_;omega
  .rw[e1];omega
theorem Hc{c:Cd}(hb:c.bd=true){n:Nat}:∀(l:List CF) {m:Nat} {s:Sr},m+l.length<=10000000->Gd m s->Gd (m+l.length) (l.foldl (λs g=>bG c n g s) s)/\(eR (l.foldl (λs g=>bG c n g s) s):Int)+(l.foldl (λs g=>bG c n g s) s).lf<=eR s+s.lf
 |[],m,s,_,h=>⟨h,Int.le_refl _⟩
 |g::l,m,s,hm,h=>by
  simp only[length_cons]at hm;obtain⟨h1,h2,-⟩:=Hf hb (n:=n) (f:=g) (by omega) h;obtain⟨g1,g2⟩:=Hc hb (n:=n) l (m:=m+1) (by omega) h1;rw[foldl_cons];exact⟨g1.wide (by simp only[length_cons];omega),Int.le_trans g2 h2⟩
structure yl(d:Nat)(r r':List CF × Sr):Prop where
 sum:(r'.1.length:Int)+r'.2.lf=r.1.length+r.2.lf
 le:r'.2.lf<=r.2.lf
 lo:r.2.lf-d<=r'.2.lf
 kn:r'.2.kn=r.2.kn
 fu:(r.2.fu=false->0<=r.2.lf)->r'.2.fu=false->0<=r'.2.lf
 ok:r.2.ok=true->r'.2.ok=true
theorem yl.refl(r:List CF × Sr):yl 0 r r:=⟨rfl,Int.le_refl _,by simp,rfl,λh=>h,λh=>h⟩
theorem yl.trans{d e:Nat}{r r' r'':List CF × Sr}(h:yl d r r')(g:yl e r' r''):yl (d+e) r r'' :=
 ⟨g.sum.trans h.sum,Int.le_trans g.le h.le,by have:=h.lo;have:=g.lo;omega,g.kn.trans h.kn,λhf=>g.fu (h.fu hf),λho=>g.ok (h.ok ho)⟩
theorem yl.wide{d e:Nat}{r r':List CF × Sr}(h:yl d r r')(hd:d<=e):yl e r r':=⟨h.sum,h.le,by have:=h.lo;omega,h.kn,h.fu,h.ok⟩
theorem Yw{c:Cd}(hb:c.bd=true){r:List CF × Sr}{g:CF}(h:(r.1.length:Int)+r.2.lf<=3001)(h2:-500000<=r.2.lf):yl 1 r (ny c r g):=by
 unfold ny;split
 .have hw:wrap64 (r.2.lf-1)=r.2.lf-1:=QD (by omega) (by omega);have e1:(pV c { r.2 with ok:=r.2.ok&&decide (r.1.length<=gh) }).lf=r.2.lf-1:=hw;refine⟨?_,?_,?_,rfl,λhf jK=>?_,λho=>?_⟩
  .rw[e1,length_append,length_singleton];omega
  .rw[e1];omega
  .rw[e1];omega
  .have AA:(r.2.fu||(decide (wrap64 (r.2.lf-1)<0)&&c.bd))=false:=jK;rw[hb,hw]at AA;simp only[Bool.or_eq_false_iff,Bool.and_true,decide_eq_false_iff_not]at AA;rw[e1];omega
  .show(r.2.ok&&decide (r.1.length<=gh))=true;rw[ho];have:r.1.length<=gh:=(by unfold gh;omega);simpa using this
 .exact(yl.refl r).wide (by omega)
theorem pp{β:Type}{d:Nat}(g:List CF × Sr->β->List CF × Sr):∀(l:List β) {r:List CF × Sr},(r.1.length:Int)+r.2.lf<=3001->(-500000:Int)+((d*l.length:Nat):Int)<=r.2.lf->(∀b∈l,∀r,(r.1.length:Int)+r.2.lf<=3001->(-500000:Int)+((d:Nat):Int)<=r.2.lf->yl d r (g r b))->yl (d*l.length) r (l.foldl g r)
 |[],r,_,_,_=>by simpa using yl.refl r
 |b::l,r,h1,h2,hg=>by
  have e:d*(b::l).length=d+d*l.length:=by rw[length_cons,Nat.mul_succ];omega
  rw[e]at h2 ⊢;have s1:=hg b (by simp) r h1 (by omega);have:=s1.lo;exact s1.trans (pp g l (by rw[s1.sum];exact h1) (by omega) (λb' rF=>hg b' (by simp[rF])))
theorem pM(f:CF)(a i:Nat):(gP f a i).length<=2:=by unfold gP;split <;> split <;> simp
theorem Yz{c:Cd}(hb:c.bd=true){f:CF}{i a:Nat}{r:List CF × Sr}(h:(r.1.length:Int)+r.2.lf<=3001)(h2:(-500000:Int)+((2:Nat):Int)<=r.2.lf):yl 2 r (pm c f i r a):=by
 unfold pm;split
 .have hl:=pM f a i;refine(pp (d:=1) (ny c) _ h (by omega) (λg _ r' h1 h2=>Yw hb h1 (by omega))).wide (by omega)
 .exact(yl.refl r).wide (by omega)
theorem SO{c:Cd}(hb:c.bd=true){f:CF}{i:Nat}{r:List CF × Sr}(h:(r.1.length:Int)+r.2.lf<=3001)(h2:(-500000:Int)+((48:Nat):Int)<=r.2.lf):yl 48 r (fI c f r i) :=
 pp (d:=2) (pm c f i) (range 24) h (by simpa using h2) (λa _ r' h1 h2=>Yz hb h1 h2)
theorem Hl{f:CF}(h:am f):(eY f).length<=24:=by
 have h1:=length_filter_le (λi=>!decide ((owA f i).l∈oJ f)) (range f.ow.length);rw[length_range]at h1;exact zq3 h1 h.owLen
theorem Yr{c:Cd}(hb:c.bd=true){g:CF}(hg:am g){r:List CF × Sr}{res:List CF}(h:(r.1.length:Int)+r.2.lf<=3001)(h2:0<=r.2.lf):yl 1152 r (vW c g r res).2/\(vW c g r res).1.length=res.length+1:=by
 unfold vW;split
 .exact⟨(yl.refl r).wide (by omega),by simp⟩
 .have hl:=Hl hg;exact⟨(pp (d:=48) (fI c g) _ h (by omega) (λi _ r' h1 h2=>SO hb h1 h2)).wide (by omega),by simp⟩
theorem MP{c:Cd}(hb:c.bd=true):∀(n k:Nat) {res:List CF} {r:List CF × Sr} {C0 m:Nat},cG r.1->cG res->(r.1.length:Int)+r.2.lf=C0->C0<=3001->k<=C0->C0<n+k->1152<=m->m<=1000000->Gd m r.2 ->
  Gd m (iF c n k res r).2/\(iF c n k res r).1.length<=res.length+(C0-k)/\(iF c n k res r).2.lf<=r.2.lf
 |0,k,res,r,C0,m,_,_,_,_,hk,hn,_,_,_=>by omega
 |n+1,k,res,r,C0,m,hr,hs,hC,Dd,hk,hn,hm,sR,h=>by
  unfold iF;split
  .rename_i hc;have hg:Td (r.1.getD k ⟨[],[],[]⟩):=by
    rw[getD_eq_getElem?_getD,getElem?_eq_getElem hc.1];exact hr _ (getElem_mem hc.1)
   have Zr:=h.fu hc.2;obtain⟨sp,cN⟩:=Yr hb hg.ok (r:=r) (res:=res) (by omega) Zr;obtain⟨o1,o2,o3,-⟩:=MS (c:=c) hg hr hs;have hE:qF (vW c (r.1.getD k ⟨[],[],[]⟩) r res).2.2=qF r.2:=(by unfold qF;rw[o3]);have h1:Gd m (vW c (r.1.getD k ⟨[],[],[]⟩) r res).2.2:=⟨by have:=h.en;have:=sp.le;rw[hE];omega,by have:=sp.lo;omega,sp.fu h.fu,sp.ok h.ok⟩;have hC':=sp.sum;obtain⟨g1,g2,g3⟩:=MP hb n (k+1) (C0:=C0) (m:=m) o2 o1 (by rw[hC'];exact hC) Dd (by omega) (by omega) hm sR h1;exact⟨g1,by rw[cN]at g2;omega,Int.le_trans g3 sp.le⟩
  .exact⟨h,Nat.le_add_right _ _,Int.le_refl _⟩
theorem LL{c:Cd}(hb:c.bd=true){fuel a b:Nat}(dW:3002<=fuel){f:CF}{s:Sr}{m:Nat}(hm:1152<=m)(sR:m<=900000)(hf:Td f)(h:Gd m s)(Zr:s.lf<=3000):Gd (m+3001) (dG c fuel a b f s)/\(eR (dG c fuel a b f s):Int)+(dG c fuel a b f s).lf<=eR s+s.lf:=by
 unfold dG;split
 .obtain⟨h1,h2,-⟩:=Hf hb (n:=b) (f:=f) (by omega) h;exact⟨h1.wide (by omega),h2⟩
 .have h1:cG [f]:=λx hx=>by rw[mem_singleton]at hx;subst hx;exact hf
  have hw:Gd m (kT a 2 s):=⟨h.en,h.lo,h.fu,h.ok⟩;by_cases qR:s.lf < -1
  .
   have akH:s.fu=true:=by
    cases hx:s.fu with
    |true=>rfl
    |false=>have:=h.fu hx;omega
   have e:iF c fuel 0 [] ([f],kT a 2 s)=([],kT a 2 s):=by
    match fuel,dW with
    |n+1,_ =>
     unfold iF;rw[if_neg];rintro⟨-,hx⟩;have:s.fu=false:=hx;rw[akH]at this;cases this
   simp only[e,foldl_nil];exact⟨hw.wide (by omega),Int.le_refl _⟩
  .obtain⟨C0,hC0⟩:∃C0:Nat,(C0:Int)=1+s.lf:=⟨(1+s.lf).toNat,by omega⟩;obtain⟨g1,g2,g3⟩:=MP hb fuel 0 (res:=[]) (r:=([f],kT a 2 s)) (C0:=C0) (m:=m) h1 (λx hx=>by simp at hx) (by rw[hC0];rfl) (by omega) (by omega) (by omega) hm (by omega) hw;obtain⟨o1,o2,-⟩:=lS (c:=c) fuel 0 (r:=([f],kT a 2 s)) (res:=[]) h1 (λx hx=>by simp at hx);simp only[length_nil,Nat.zero_add,Nat.sub_zero]at g2;obtain⟨k1,k2⟩:=Hc hb (n:=b) (iF c fuel 0 [] ([f],kT a 2 s)).1 (m:=m) (by omega) g1;refine⟨k1.wide (by omega),Int.le_trans k2 ?_⟩;have e:eR (iF c fuel 0 [] ([f],kT a 2 s)).2=eR s:=(by unfold eR;rw[o2];rfl);rw[e];have:(iF c fuel 0 [] ([f],kT a 2 s)).2.lf<=s.lf:=g3;omega
theorem ad9{m:Nat}{s:Sr}(h:Gd m s):s.lf<=3000:=by have:=h.en;omega
theorem DJ{c:Cd}(hb:c.bd=true){fuel a b:Nat}(dW:3002<=fuel):∀(l:List CF) {m:Nat} {s:Sr},1152<=m->m+3001*l.length<=900000->cG l->Gd m s->Gd (m+3001*l.length) (l.foldl (λs g=>dG c fuel a b g s) s)/\(eR (l.foldl (λs g=>dG c fuel a b g s) s):Int)+(l.foldl (λs g=>dG c fuel a b g s) s).lf<=eR s+s.lf
 |[],m,s,_,_,_,h=>⟨h,Int.le_refl _⟩
 |g::l,m,s,hm,sR,hl,h=>by
  have e:3001*(g::l).length=3001+3001*l.length:=by rw[length_cons,Nat.mul_succ];omega
  rw[e]at sR ⊢;obtain⟨h1,h2⟩:=LL hb (a:=a) (b:=b) dW hm (by omega) (hl g (by simp)) h (ad9 h);obtain⟨g1,g2⟩:=DJ hb (a:=a) (b:=b) dW l (m:=m+3001) (by omega) (by omega) (λx hx=>hl x (by simp[hx])) h1;rw[foldl_cons];exact⟨g1.wide (by omega),Int.le_trans g2 h2⟩
theorem sI(f:CF)(c:Nat):(lD f c).1.length<=2:=by
 unfold lD;split
 .simp
 .unfold MV;split
  .simp
  .split <;> simp
theorem qJ{α β:Type}{d:Nat}(g:List α × Bool->β->List α × Bool):∀(l:List β) (r:List α × Bool),(∀b∈l,∀r,(g r b).1.length<=r.1.length+d)->(l.foldl g r).1.length<=r.1.length+d*l.length
 |[],r,_=>by simp
 |b::l,r,hg=>by
  have h1:=qJ g l (g r b) (λb' rF=>hg b' (by simp[rF]));have h2:=hg b (by simp) r;rw[foldl_cons,length_cons,Nat.mul_succ];omega
theorem sW{f:CF}(h:am f)(v:Nat):(fC f v).1.length<=96:=by
 unfold fC;split
 .simp
 .split
  .exact zq3 (sI _ _) (by omega)
  .have h1:=qJ (d:=4) (λr i=>xP f v i r) (range f.ow.length) (([]:List CF),false) (λi _ r=>by
    have h2:=qJ (d:=2) (λr g=>Db r g (g.cl.getD (1+v) 0)) (gP f (f.cl.getD (1+v) 0) i) r (λg _ r=>by
     unfold Db;have:=sI g (g.cl.getD (1+v) 0);rw[length_append];omega)
    have h3:=pM f (f.cl.getD (1+v) 0) i;exact zq3 h2 (by omega))
   rw[length_range]at h1;have:=h.owLen;simp only[length_nil]at h1;exact zq3 h1 (by omega)
theorem Si(f:CF)(n:Nd):(jM f n).1.length<=1/\(jM f n).2.length<=1:=by
 constructor
 .simp only[jM];split <;> simp
 .simp only[jM];split <;> simp
theorem Ss{f:CF}(h:am f)(n:Nd):(b8 n f).nx.length<=96/\(b8 n f).ot.length<=1:=by
 have op:∀v g,(br (fC f v) g).nx.length<=96/\(br (fC f v) g).ot.length<=1:=λv g=>⟨by simpa[br] using sW h v,by simp[br]⟩;have cm:=Si f n;unfold b8;split
 .simp[uF]
 .split
  .simp
  .split
   .exact op _ _
   .split
    .exact op _ _
    .split
     .split <;> simp
     .split
      .exact op _ _
      .split
       .simp
       .split
        .exact⟨zq3 cm.1 (by omega),cm.2⟩
        .split
         .exact⟨zq3 cm.2 (by omega),cm.1⟩
         .simp
theorem Fv{b:Bool}{n k m:Nat}{s:Sr}(h:Gd m s):Gd m (wrI b n k s)/\eR (wrI b n k s)=eR s/\(wrI b n k s).lf=s.lf:=by
 unfold wrI;split
 .exact⟨⟨h.en,h.lo,h.fu,h.ok⟩,rfl,rfl⟩
 .exact⟨h,rfl,rfl⟩
theorem abk{c:Cd}(hb:c.bd=true){fuel n:Nat}(dW:3002<=fuel){f:CF}{s:Sr}(hv:(c.nds.getD n aS).v<4)(ha:(c.nds.getD n aS).ai<4)(hf:Td f)(h:Gd 1152 s):Gd 500000 (nH c fuel n f s)/\(eR (nH c fuel n f s):Int)+(nH c fuel n f s).lf<=eR s+s.lf:=by
 obtain⟨t1,t2⟩:=lQ hv ha hf;obtain⟨l1,l2⟩:=Ss hf.ok (c.nds.getD n aS);unfold nH;obtain⟨a1,b1,c1⟩:=Fv (b:=decide ((c.nds.getD n aS).op=0)&&!decide (eY f=[])) (n:=n) (k:=2) h;obtain⟨a2,b2,c2⟩:=Fv (b:=(b8 (c.nds.getD n aS) f).nu) (n:=n) (k:=3) a1;obtain⟨a3,b3,c3⟩:=Fv (b:=(b8 (c.nds.getD n aS) f).da) (n:=n) (k:=4) a2;obtain⟨s3,eW⟩:∃s3,s3=wrI (b8 (c.nds.getD n aS) f).da n 4 (wrI (b8 (c.nds.getD n aS) f).nu n 3 (wrI (decide ((c.nds.getD n aS).op=0)&&!decide (eY f=[])) n 2 s)):=⟨_,rfl⟩;rw[<-eW]at a3 b3 c3;have a4:Gd 1152 (fuS (b8 (c.nds.getD n aS) f).fu s3):=⟨a3.en,a3.lo,λhx=>a3.fu (by
  have:(s3.fu||(b8 (c.nds.getD n aS) f).fu)=false:=hx;rw[Bool.or_eq_false_iff]at this;exact this.1),a3.ok⟩
 obtain⟨g1,g2⟩:=DJ hb (a:=n) (b:=(c.nds.getD n aS).nx) dW (b8 (c.nds.getD n aS) f).nx (m:=1152) (by omega) (by omega) t1 a4;obtain⟨k1,k2⟩:=DJ hb (a:=n) (b:=(c.nds.getD n aS).ot) dW (b8 (c.nds.getD n aS) f).ot (m:=1152+3001*(b8 (c.nds.getD n aS) f).nx.length) (by omega) (by omega) t2 g1;simp only[<-eW];refine⟨k1.wide (by omega),?_⟩;refine Int.le_trans k2 (Int.le_trans g2 ?_);show(eR s3:Int)+s3.lf<=_;rw[b3,c3,b2,c2,b1,c1];exact Int.le_refl _
def NdV(c:Cd):Prop:=∀n,(c.nds.getD n aS).v<4/\(c.nds.getD n aS).ai<4
theorem Qv{c:Cd}(hb:c.bd=true)(hc:NdV c){fuel n:Nat}(dW:3002<=fuel):∀(l:List CF) {s:Sr},cG l->lB s->Gd 500000 s->Gd 500000 (lL c fuel n l s)/\lB (lL c fuel n l s)/\(eR (lL c fuel n l s):Int)+(lL c fuel n l s).lf<=eR s+s.lf
 |[],s,_,hi,h=>⟨h,hi,Int.le_refl _⟩
 |f::r,s,hl,hi,h=>by
  unfold lL;split
  .exact⟨h,hi,Int.le_refl _⟩
  .rename_i hf;have Zr:=h.fu (by simpa using hf);have h':Gd 1152 s:=⟨h.en,by omega,h.fu,h.ok⟩;obtain⟨g1,g2⟩:=abk hb dW (hc n).1 (hc n).2 (hl f (by simp)) h';obtain⟨k1,k2,k3⟩:=Qv hb hc dW r (λx hx=>hl x (by simp[hx])) (Qa (hc n).1 (hc n).2 (hl f (by simp)) hi) g1;exact⟨k1,k2,Int.le_trans k3 g2⟩
theorem M4{l:List f9}(h:∀e∈l,Td e.f):cG (kH l):=by
 intro f hf;obtain⟨e,he,rfl⟩:=mem_map.1 hf;exact h e (mem_filter.1 he).1
theorem abt{c:Cd}(hb:c.bd=true)(hc:NdV c){fuel n:Nat}(dW:3002<=fuel){s:Sr}(hi:lB s)(h:Gd 500000 s)(hp:E1 s=some n):Gd 500000 (qd c fuel n s)/\lB (qd c fuel n s)/\(eR (qd c fuel n s):Int)+(qd c fuel n s).lf+1<=eR s+s.lf:=by
 have ZM:=findIdx?_eq_some_iff_getElem.1 hp;obtain⟨hn,px,-⟩:=ZM;have eV:bh s n=s.kn[n]:=by unfold bh;rw[getD_eq_getElem?_getD,getElem?_eq_getElem hn];rfl
 have hu:eR { s with kn:=s.kn.set n ((bh s n).map (λe=>⟨e.f,true⟩)) }+1<=eR s:=by
  have h1:=uZ (λl:List f9=>l.countP (λe=>!e.d)) [] s.kn n ((bh s n).map (λe=>⟨e.f,true⟩));rw[if_pos hn,if_pos hn]at h1;have h2:List.countP (λe:f9=>!e.d) ((bh s n).map (λe=>(⟨e.f,true⟩:f9)))=0:=by
   rw[countP_eq_zero];intro e he;obtain⟨x,-,rfl⟩:=mem_map.1 he;simp
  have h3:0<List.countP (λe:f9=>!e.d) (s.kn.getD n []):=by
   rw[countP_pos_iff];obtain⟨e,he,hd⟩:=any_eq_true.1 px;exact⟨e,by rw[getD_eq_getElem?_getD,getElem?_eq_getElem hn];exact he,hd⟩
  unfold eR;simp only[h2]at h1;show aY (λl:List f9=>l.countP (λe=>!e.d)) (s.kn.set n ((bh s n).map (λe=>(⟨e.f,true⟩:f9))))+1<=_;omega
 have he:qF { s with kn:=s.kn.set n ((bh s n).map (λe=>⟨e.f,true⟩)) }<=qF s:=by
  have:=Fb (g:=List.length) (λl=>by simp) (s:=s) (n:=n) (d:=0) (x:=(bh s n).map (λe=>(⟨e.f,true⟩:f9))) (by simp);simpa[qF] using this
 have h':Gd 500000 { s with kn:=s.kn.set n ((bh s n).map (λe=>⟨e.f,true⟩)) }:=⟨by have:=h.en;show(qF _:Int)+s.lf<=3000;omega,h.lo,h.fu,h.ok⟩;have oU:lB { s with kn:=s.kn.set n ((bh s n).map (λe=>⟨e.f,true⟩)) }:=hi.set n (λe he=>by
  obtain⟨x,hx,rfl⟩:=mem_map.1 he;exact hi.at n x hx)
 obtain⟨g1,g2,g3⟩:=Qv hb hc (n:=n) dW (kH (bh s n)) (M4 (hi.at n)) oU h';refine⟨g1,g2,?_⟩;show(eR (lL c fuel n (kH (bh s n)) { s with kn:=s.kn.set n ((bh s n).map (λe=>⟨e.f,true⟩)) }):Int)+(lL c fuel n (kH (bh s n)) { s with kn:=s.kn.set n ((bh s n).map (λe=>⟨e.f,true⟩)) }).lf+1<=_;have:({ s with kn:=s.kn.set n ((bh s n).map (λe=>⟨e.f,true⟩)) }:Sr).lf=s.lf:=rfl;rw[this]at g3;omega
theorem E9{c:Cd}(hb:c.bd=true)(hc:NdV c){fuel:Nat}(dW:3002<=fuel):∀(n:Nat) {s:Sr},lB s->Gd 500000 s->(eR s:Int)+s.lf<n->0<n->(ng c fuel n s).ok=true
 |0,s,_,_,_,h=>by omega
 |n+1,s,hi,h,hn,_=>by
  unfold ng;split
  .exact h.ok
  .rename_i k hk;split
   .exact h.ok
   .rename_i hf;obtain⟨g1,g2,g3⟩:=abt hb hc dW hi h hk;have Zr:=h.fu (by simpa using hf);have hu:0<eR s:=by
     obtain⟨h1,h2,-⟩:=findIdx?_eq_some_iff_getElem.1 hk;have h3:=uX (λl:List f9=>l.countP (λe=>!e.d)) [] s.kn k h1;have h4:0<List.countP (λe:f9=>!e.d) (s.kn.getD k []):=by
      rw[countP_pos_iff];obtain⟨e,he,hd⟩:=any_eq_true.1 h2;exact⟨e,by rw[getD_eq_getElem?_getD,getElem?_eq_getElem h1];exact he,hd⟩
     unfold eR;omega
    exact E9 hb hc dW n g2 g1 (by omega) (by omega)
