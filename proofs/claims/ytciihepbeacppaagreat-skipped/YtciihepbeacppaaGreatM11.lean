import Derived.Test.YtciihepbeacppaaGreatM10
namespace Go.Proofs.YtciihepbeacppaaGreat
open Go.RowKit List
set_option linter.unusedVariables false
structure MV where
 nx:List CF
 ot:List CF
 nu:Bool
 da:Bool
 fu:Bool
def wJ:MV:=⟨[],[],false,false,false⟩
def clT(f:CF)(k i:Nat):Nat:=if k=1 then f.cl.getD (1+i) 0 else f.cl.getD 0 0
def setC(f:CF)(i c:Nat):CF:={ f with cl:=f.cl.set i c }
def md(f:CF)(p:Pr):CF:={ f with ow:=f.ow++[p] }
def cf(f:CF)(a b:Nat):CF:={ f with ap:=f.ap++[⟨2,a,b⟩] }
def setO(f:CF)(i:Nat)(p:Pr):CF:={ f with ow:=f.ow.set i p }
def gY(f:CF)(i:Nat):CF:={ f with ow:=iQ f.ow i }
def owA(f:CF)(i:Nat):Pr:=f.ow.getD i ay
def fY(f:CF)(c i:Nat):CF:=mL f (owA f i).l c
def dB(f:CF)(c i:Nat):CF:=md (setO f i ⟨(owA f i).k,(owA f i).l,c⟩) ⟨4,c,(owA f i).r⟩
def eM(f:CF)(c i:Nat):List CF:=(if aV f c (owA f i).l=true then [] else [fY f c i])++(if (owA f i).k=4 then [dB f c i] else [])
def gp(f:CF)(i:Nat):CF:=setO f i ⟨3,(owA f i).l,(owA f i).r⟩
def oQ(f:CF)(c i:Nat):CF:=md (setO f i ⟨3,c,aw f⟩) ⟨4,aw f,(owA f i).r⟩
def Oj(f:CF)(c i:Nat):List CF × Bool:=if (owA f i).k=3 then ([f],false) else if 24<=aw f then ([gp f i],true) else ([gp f i,oQ f c i],false)
def gU(f:CF)(c:Nat):List CF × Bool:=match cD f.ow c with|none=>([],false)|some i=>Oj f c i
def Cf(r:List CF × Bool)(g:CF)(c:Nat):List CF × Bool:=(r.1++(gU g c).1,r.2||(gU g c).2)
def uB(f:CF)(v i:Nat)(r:List CF × Bool):List CF × Bool:=(eM f (f.cl.getD (1+v) 0) i).foldl (λr g=>Cf r g (g.cl.getD (1+v) 0)) r
def cZ(f:CF)(v:Nat):List CF × Bool × Bool × Bool :=
 if f.cl.getD (1+v) 0=f.cl.getD 0 0 then ([],true,false,false)
 else if (cD f.ow (f.cl.getD (1+v) 0)).isSome=true then ((gU f (f.cl.getD (1+v) 0)).1,false,false,(gU f (f.cl.getD (1+v) 0)).2)
 else
  let r:=(range f.ow.length).foldl (λr i=>uB f v i r) ([],false)
  (r.1,!aV f (f.cl.getD (1+v) 0) (f.cl.getD 0 0),true,r.2)
def qp(f:CF)(c:Nat):Nat:=(cD f.ow c).getD 0
def fq(g:CF)(n:Nd):CF:=setC g (1+n.v) (owA g (qp g (g.cl.getD (1+n.ai) 0))).r
def nk(g:CF)(n:Nd):CF:=let i:=qp g (g.cl.getD (1+n.v) 0);setO g i ⟨(owA g i).k,(owA g i).l,clT g n.ak n.ai⟩
def l8(g:CF)(v:Nat):CF :=
 let c:=g.cl.getD (1+v) 0
 let t:=gY g (qp g c)
 t.ow.foldl (λh p=>cf h c p.l) (cf t c (t.cl.getD 0 0))
def Et(f:CF)(v:Nat):CF:=setC (md f ⟨3,aw f,f.cl.getD 0 0⟩) (1+v) (aw f)
def bQ(r:List CF × Bool × Bool × Bool)(g:CF->CF):MV:=⟨r.1.map (λx=>aQ (g x)),[],r.2.1,r.2.2.1,r.2.2.2⟩
def mt(f:CF)(n:Nd):List CF × List CF :=
 let a:=f.cl.getD (1+n.v) 0
 let b:=clT f n.ak n.ai
 (if aV f a b=true then [] else [aQ (mL f a b)],if a=b then [] else [aQ (cf f a b)])
def cj(n:Nd)(f:CF):MV :=
 if n.op=0 then wJ
 else if n.op=1 then ⟨[aQ (setC f (1+n.v) (clT f n.ak n.ai))],[],false,false,false⟩
 else if n.op=2 then bQ (cZ f n.ai) (λg=>fq g n)
 else if n.op=3 then bQ (cZ f n.v) (λg=>nk g n)
 else if n.op=4 then (if 24<=aw f then ⟨[],[],false,false,true⟩ else ⟨[aQ (Et f n.v)],[],false,false,false⟩)
 else if n.op=5 then bQ (cZ f n.v) (λg=>l8 g n.v)
 else if n.op=7 then ⟨[aQ f],[aQ f],false,false,false⟩
 else if n.op=8 then ⟨(mt f n).1,(mt f n).2,false,false,false⟩
 else if n.op=9 then ⟨(mt f n).2,(mt f n).1,false,false,false⟩
 else ⟨[aQ f],[],false,false,false⟩
theorem gG{f:CF}{i:Nat}(hi:i<5):f.cl.getD i 0∈kj f:=by
 have:i=0\/i=1\/i=2\/i=3\/i=4:=by omega
 rcases this with rfl|rfl|rfl|rfl|rfl <;> simp[kj]
theorem ua{f:CF}(h5:f.cl.length=5):kj f=f.cl:=by
 match hc:f.cl,h5 with
 |[a,b,c,d,e],_=>simp[kj,hc]
theorem aj.mk'{f:CF}(c5:f.cl.length=5)(cl:∀c∈f.cl,c<24)(ow:∀p∈f.ow,p.l<24/\p.r<24)(ap:∀p∈f.ap,p.l<24/\p.r<24)(lf:lO f.ow)(kd:∀p∈f.ap,p.k=2):aj f:=⟨c5,by rw[ua c5];exact cl,ow,ap,lf,kd⟩
theorem aj.cl'{f:CF}(h:aj f):∀c∈f.cl,c<24:=by rw[<-ua h.c5];exact h.cl
theorem aj.get{f:CF}(h:aj f)(i:Nat):f.cl.getD i 0<24:=by
 by_cases hi:i<5
 .exact h.cl _ (gG hi)
 .rw[getD_eq_getElem?_getD,getElem?_eq_none (by have:=h.c5;omega)];decide
theorem aj.cT{f:CF}(h:aj f)(k i:Nat):clT f k i<24:=by unfold clT;split <;> exact h.get _
theorem aj.oA{f:CF}(h:aj f)(i:Nat):(owA f i).l<24/\(owA f i).r<24:=by
 unfold owA;by_cases hi:i<f.ow.length
 .exact h.ow _ (aY hi)
 .rw[getD_eq_getElem?_getD,getElem?_eq_none (by omega)];decide
theorem aj.sC{f:CF}(h:aj f)(i:Nat){c:Nat}(hc:c<24):aj (setC f i c):=by
 refine aj.mk' ?_ ?_ h.ow h.ap h.lf h.kd
 .simpa[setC] using h.c5
 .intro d hd;rcases mem_or_eq_of_mem_set hd with hd|rfl
  .exact h.cl' d hd
  .exact hc
theorem aj.ly{f:CF}(h:aj f){p:Pr}(h1:p.l<24)(h2:p.r<24)(hn:∀q∈f.ow,q.l≠p.l):aj (md f p):=by
 refine aj.mk' h.c5 h.cl' ?_ h.ap ?_ h.kd
 .intro q hq;rcases mem_append.1 hq with hq|hq
  .exact h.ow q hq
  .rw[mem_singleton]at hq;subst hq;exact⟨h1,h2⟩
 .have hl:=h.lf;unfold lO at hl ⊢;show((f.ow++[p]).map (·.l)).Nodup;rw[map_append,nodup_append];refine⟨hl,by simp,?_⟩;intro a ha b hb e;obtain⟨q,hq,rfl⟩:=mem_map.1 ha;simp only[map_cons,map_nil,mem_singleton]at hb;exact hn q hq (e.trans hb)
theorem aj.pa{f:CF}(h:aj f){a b:Nat}(h1:a<24)(h2:b<24):aj (cf f a b):=by
 refine aj.mk' h.c5 h.cl' h.ow ?_ h.lf ?_
 .intro q hq;rcases mem_append.1 hq with hq|hq
  .exact h.ap q hq
  .rw[mem_singleton]at hq;subst hq;exact⟨h1,h2⟩
 .intro q hq;rcases mem_append.1 hq with hq|hq
  .exact h.kd q hq
  .rw[mem_singleton]at hq;subst hq;rfl
theorem ww{l:List Pr}{i:Nat}{p:Pr}(hp:i<l.length->p.l=(l.getD i ay).l):(l.set i p).map (·.l)=l.map (·.l):=by
 rw[map_set];by_cases hi:i<l.length
 .rw[hp hi,bX hi];conv=>rhs;rw[<-@List.set_getElem_self _ (l.map (·.l)) i (by simpa using hi)]
  simp
 .rw[set_eq_of_length_le (by simp;omega)]
theorem aj.sO{f:CF}(h:aj f){i:Nat}{p:Pr}(hl:i<f.ow.length->p.l=(f.ow.getD i ay).l)(h2:p.r<24)(h1:p.l<24):aj (setO f i p):=by
 refine aj.mk' h.c5 h.cl' ?_ h.ap ?_ h.kd
 .intro q hq;rcases mem_or_eq_of_mem_set hq with hq|rfl
  .exact h.ow q hq
  .exact⟨h1,h2⟩
 .have:=h.lf;unfold lO at this ⊢;show((f.ow.set i p).map (·.l)).Nodup;rw[ww hl];exact this
theorem mo(l:List Pr)(i:Nat):(iQ l i).Sublist l:=by
 have e:l=(range l.length).map (λj=>l.getD j ay):=by
  refine ext_getElem (by simp) (λj h1 h2=>?_);rw[getElem_map,getElem_range,bX h1]
 unfold iQ ry;conv=>rhs;rw[e]
 exact filter_sublist.map _
theorem aj.tk{f:CF}(h:aj f)(i:Nat):aj (gY f i):=aj.mk' h.c5 h.cl' (λp hp=>h.ow p ((mo f.ow i).subset hp)) h.ap (h.lf.sublist ((mo f.ow i).map _)) h.kd
theorem wV{k g c:Nat}(h1:k<24)(h2:c<24):cM k g c<24:=by unfold cM;split <;> assumption
theorem aj.jo{f:CF}(h:aj f){a b:Nat}(ha:a<24)(aH:a=b\/(∀p∈f.ow,p.l≠a)\/∀p∈f.ow,p.l≠b):aj (mL f a b):=by
 refine aj.mk' ?_ ?_ ?_ ?_ ?_ ?_
 .show(f.cl.map _).length=5;simpa using h.c5
 .intro c hc;obtain⟨d,hd,rfl⟩:=mem_map.1 hc;exact wV ha (h.cl' d hd)
 .intro p hp;obtain⟨q,hq,rfl⟩:=mem_map.1 hp;exact⟨wV ha (h.ow q hq).1,wV ha (h.ow q hq).2⟩
 .intro p hp;obtain⟨q,hq,rfl⟩:=mem_map.1 hp;exact⟨wV ha (h.ap q hq).1,wV ha (h.ap q hq).2⟩
 .have hl:=h.lf;unfold lO at hl ⊢;show((f.ow.map (mj a b)).map (·.l)).Nodup;have e:((λx:Pr=>x.l) ∘ mj a b)=(cM a b) ∘ (λx:Pr=>x.l):=rfl;rw[map_map,e,<-map_map];unfold List.Nodup at hl ⊢;rw[pairwise_map];refine List.Pairwise.imp_of_mem ?_ hl;intro x y hx hy XM e2;obtain⟨p,hp,rfl⟩:=mem_map.1 hx;obtain⟨q,hq,rfl⟩:=mem_map.1 hy;unfold cM at e2;rcases aH with rfl|aH|aH
  .split at e2 <;> split at e2 <;> omega
  .have:=aH p hp;have:=aH q hq;split at e2 <;> split at e2 <;> omega
  .rw[if_neg (aH p hp),if_neg (aH q hq)]at e2;exact XM e2
 .intro p hp;obtain⟨q,hq,rfl⟩:=mem_map.1 hp;exact h.kd q hq
theorem pK:∀{l:List Pr} {c:Nat},cD l c=none->∀p∈l,p.l≠c
 |[],_,_,p,hp=>by simp at hp
 |q::r,c,h,p,hp=>by
  unfold cD at h;split at h
  .cases h
  .rename_i hq;rcases mem_cons.1 hp with rfl|hp
   .exact hq
   .exact pK (Option.map_eq_none_iff.1 h) p hp
theorem im{f:CF}{a b:Nat}(h:aV f a b=false):a=b\/(∀p∈f.ow,p.l≠a)\/∀p∈f.ow,p.l≠b:=by
 unfold aV at h;split at h
 .exact zq0 (by assumption)
 .rw[Bool.or_eq_false_iff]at h;have h2:=h.2;unfold mG at h2;right;cases ha:cD f.ow a with
  |none=>exact zq0 (pK ha)
  |some i =>
   cases hb:cD f.ow b with
   |none=>exact zq1 (pK hb)
   |some j=>rw[ha,hb]at h2;simp at h2
theorem iV:∀(l:List Pr) (m:Nat),m<=rb m l/\∀p∈l,p.l<=rb m l/\p.r<=rb m l
 |[],m=>⟨zq4 _,λp hp=>by simp at hp⟩
 |q::r,m=>by
  obtain⟨h1,h2⟩:=iV r (max (max m q.l) q.r);have e:rb m (q::r)=rb (max (max m q.l) q.r) r:=rfl;rw[e];refine⟨by omega,λp hp=>?_⟩;rcases mem_cons.1 hp with rfl|hp
  .exact⟨by omega,by omega⟩
  .exact h2 p hp
theorem Qm{f:CF}:∀q∈f.ow,q.l≠aw f:=by
 intro q hq;unfold aw;have h1:=((iV f.ow (qs f)).2 q hq).1;have h2:=(iV f.ap (rb (qs f) f.ow)).1;omega
theorem uD{f:CF}{i:Nat}(h:i<f.ow.length):owA f i∈f.ow:=aY h
theorem aj.m1{f:CF}(h:aj f){c i:Nat}(hd:aV f c (owA f i).l=false):aj (fY f c i) :=
 h.jo (h.oA i).1 (by rcases im hd with e|e|e;exact zq0 e.symm;exact zq1 (zq1 e);exact zq1 (zq0 e))
theorem zI{f:CF}{i:Nat}{p q:Pr}(hl:i<f.ow.length->p.l=(f.ow.getD i ay).l)(hq:q∈(setO f i p).ow):∃q'∈f.ow,q'.l=q.l:=by
 have e:=ww hl;have h1:q.l∈(f.ow.set i p).map (·.l):=mem_map_of_mem (f:=(·.l)) hq;rw[e]at h1;obtain⟨q',h2,h3⟩:=mem_map.1 h1;exact⟨q',h2,h3⟩
theorem aj.m2{f:CF}(h:aj f){c i:Nat}(hc:c<24)(hb:cD f.ow c=none):aj (dB f c i):=by
 have h1:aj (setO f i ⟨(owA f i).k,(owA f i).l,c⟩):=h.sO (λ_=>rfl) hc (h.oA i).1;refine h1.ly hc (h.oA i).2 (λq hq e=>?_);obtain⟨q',h2,h3⟩:=zI (p:=⟨(owA f i).k,(owA f i).l,c⟩) (λ_=>rfl) hq;exact pK hb q' h2 (h3.trans e)
theorem aj.f1{f:CF}(h:aj f)(i:Nat):aj (gp f i):=h.sO (λ_=>rfl) (h.oA i).2 (h.oA i).1
theorem aj.f2{f:CF}(h:aj f){c i:Nat}(hi:cD f.ow c=some i)(hn:aw f<24):aj (oQ f c i):=by
 obtain⟨g1,g2⟩:=eT hi;have dT:c<24:=by rw[<-g2];exact(h.oA i).1
 have h1:aj (setO f i ⟨3,c,aw f⟩):=h.sO (λ_=>g2.symm) hn dT;refine h1.ly hn (h.oA i).2 (λq hq e=>?_);obtain⟨q',h2,h3⟩:=zI (λ_=>g2.symm) hq;exact Qm q' h2 (h3.trans e)
theorem qx{l:List Pr}{c:Nat}:(cD l c).isSome=true↔∃p∈l,p.l=c:=by
 constructor
 .intro h;obtain⟨i,hi⟩:=Option.isSome_iff_exists.1 h;exact⟨_,t0 hi,(eT hi).2⟩
 .rintro⟨p,hp,rfl⟩;cases h:cD l p.l with
  |none=>exact absurd rfl (pK h p hp)
  |some i=>rfl
structure rM(N v:Nat)(g:CF):Prop where
 ok:aj g
 ln:g.ap.length<=N
 bg:(cD g.ow (g.cl.getD (1+v) 0)).isSome=true
theorem D6{f:CF}{i:Nat}{p:Pr}{c:Nat}(hl:i<f.ow.length->p.l=(f.ow.getD i ay).l)(h:(cD f.ow c).isSome=true):(cD (setO f i p).ow c).isSome=true:=by
 rw[qx]at h ⊢;obtain⟨q,hq,rfl⟩:=h;have e:=ww hl;have h1:q.l∈f.ow.map (·.l):=mem_map_of_mem (f:=(·.l)) hq;rw[<-e]at h1;obtain⟨q',h2,h3⟩:=mem_map.1 h1;exact⟨q',h2,h3⟩
theorem Oi{N v:Nat}{g:CF}(h:rM N v g):∀x∈(gU g (g.cl.getD (1+v) 0)).1,rM N v x:=by
 intro x hx;unfold gU at hx;cases hb:cD g.ow (g.cl.getD (1+v) 0) with
 |none=>rw[hb]at hx;simp at hx
 |some i =>
  rw[hb]at hx;simp only[Oj]at hx;have h1:rM N v (gp g i):=⟨h.ok.f1 i,h.ln,D6 (p:=⟨3,(owA g i).l,(owA g i).r⟩) (λ_=>rfl) h.bg⟩;split at hx
  .simp only[mem_singleton]at hx;subst hx;exact h
  .split at hx
   .simp only[mem_singleton]at hx;subst hx;exact h1
   .rename_i hn;simp only[mem_cons,not_mem_nil,or_false]at hx;rcases hx with rfl|rfl
    .exact h1
    .refine⟨h.ok.f2 hb (by omega),h.ln,?_⟩;have:=D6 (f:=g) (i:=i) (p:=⟨3,g.cl.getD (1+v) 0,aw g⟩) (λ_=>(eT hb).2.symm) h.bg;rw[qx]at this ⊢;obtain⟨p,hp,e⟩:=this;exact⟨p,mem_append_left _ hp,e⟩
theorem Bn{N v:Nat}{f:CF}(hv:v<4)(h:aj f)(hl:f.ap.length<=N)(hb:cD f.ow (f.cl.getD (1+v) 0)=none){i:Nat}(hi:i<f.ow.length):∀x∈eM f (f.cl.getD (1+v) 0) i,rM N v x:=by
 intro x hx;unfold eM at hx;rcases mem_append.1 hx with hx|hx
 .split at hx
  .simp at hx
  .rename_i hd;simp only[mem_singleton]at hx;subst hx;refine⟨h.m1 (by simpa using hd),by simpa[fY,mL] using hl,?_⟩;have e:(fY f (f.cl.getD (1+v) 0) i).cl.getD (1+v) 0=(owA f i).l:=by
    show(f.cl.map _).getD (1+v) 0=_;have h5:=h.c5;rw[getD_eq_getElem?_getD,getElem?_map,getElem?_eq_getElem (by omega)];simp only[Option.map_some,Option.getD_some];unfold cM;rw[if_pos];rw[getD_eq_getElem?_getD,getElem?_eq_getElem (by omega)];rfl
   rw[e,qx];refine⟨mj (owA f i).l (f.cl.getD (1+v) 0) (owA f i),mem_map_of_mem (uD hi),?_⟩;show cM _ _ _=_;unfold cM;split <;> rfl
 .split at hx
  .simp only[mem_singleton]at hx;subst hx;refine⟨h.m2 (h.get _) hb,hl,?_⟩;rw[qx];exact⟨⟨4,f.cl.getD (1+v) 0,(owA f i).r⟩,mem_append_right _ (by simp),rfl⟩
  .simp at hx
theorem rW{α β:Type}{P:α->Prop}(g:List α × Bool->β->List α × Bool):∀(l:List β) (r:List α × Bool),(∀x∈r.1,P x)->(∀b∈l,∀r,(∀x∈r.1,P x)->∀x∈(g r b).1,P x)->∀x∈(l.foldl g r).1,P x
 |[],_,hr,_=>hr
 |b::l,r,hr,hg=>rW g l (g r b) (hg b (by simp) r hr) (λb' xN=>hg b' (by simp[xN]))
theorem jV{N v:Nat}{f:CF}(hv:v<4)(h:aj f)(hl:f.ap.length<=N):∀x∈(cZ f v).1,rM N v x:=by
 unfold cZ;split
 .intro x hx;simp at hx
 .split
  .rename_i hb;exact Oi ⟨h,hl,hb⟩
  .rename_i hb;have xN:cD f.ow (f.cl.getD (1+v) 0)=none:=(by simpa using hb);refine rW (P:=rM N v) _ _ _ (λx hx=>by simp at hx) ?_;intro i hi r hr;rw[mem_range]at hi;refine rW (P:=rM N v) _ _ _ hr ?_;intro g hg r hr x hx;rcases mem_append.1 hx with hx|hx
   .exact hr x hx
   .exact Oi (Bn hv h hl xN hi g hg) x hx
theorem Jo:∀(l:List Pr) {g:CF} {c:Nat},aj g->c<24->(∀p∈l,p.l<24)->aj (l.foldl (λh p=>cf h c p.l) g)/\(l.foldl (λh p=>cf h c p.l) g).ap.length=g.ap.length+l.length
 |[],g,c,h,_,_=>⟨h,rfl⟩
 |p::r,g,c,h,hc,hl=>by
  obtain⟨h1,h2⟩:=Jo r (h.pa hc (hl p (by simp))) hc (λq hq=>hl q (by simp[hq]));refine⟨h1,?_⟩;rw[foldl_cons,h2];simp[cf];omega
theorem rY{N v:Nat}{g:CF}(h:rM N v g):aj (l8 g v)/\(l8 g v).ap.length<=N+25:=by
 have h1:=h.ok.tk (qp g (g.cl.getD (1+v) 0));have h2:=h1.pa (h.ok.get (1+v)) (h.ok.get 0);obtain⟨g1,g2⟩:=Jo (gY g (qp g (g.cl.getD (1+v) 0))).ow h2 (h.ok.get (1+v)) (λp hp=>(h1.ow p hp).1);refine⟨g1,zq3 (Nat.le_of_eq g2) ?_⟩;have hl:=h1.owLen;have h3:=h.ln;show((g.ap++[_]).length+_:Nat)<=_;rw[length_append,length_singleton];omega
theorem Au{N:Nat}{n:Nd}{g:CF}(h:rM N n.ai g):aj (fq g n)/\(fq g n).ap.length<=N:=⟨h.ok.sC _ (h.ok.oA _).2,h.ln⟩
theorem Gl{N:Nat}{n:Nd}{g:CF}(h:rM N n.v g):aj (nk g n)/\(nk g n).ap.length<=N:=⟨h.ok.sO (λ_=>rfl) (h.ok.cT _ _) (h.ok.oA _).1,h.ln⟩
theorem rQ{f:CF}{v:Nat}(h:aj f)(hn:aw f<24):aj (Et f v):=(h.ly (p:=⟨3,aw f,f.cl.getD 0 0⟩) hn (h.get 0) Qm).sC _ hn
structure Td(f:CF):Prop where
 ok:aj f
 ln:f.ap.length<=576
theorem aj.tidy{f:CF}(h:aj f):Td (aQ f):=⟨h.td,Wc h⟩
theorem ss{r:List CF × Bool × Bool × Bool}{g:CF->CF}(h:∀x∈r.1,aj (g x)):(∀x∈(bQ r g).nx,Td x)/\∀x∈(bQ r g).ot,Td x:=by
 refine⟨λx hx=>?_,λx hx=>by simp[bQ]at hx⟩;obtain⟨y,hy,rfl⟩:=mem_map.1 hx;exact(h y hy).tidy
theorem Nx{f:CF}(h:aj f)(n:Nd):(∀x∈(mt f n).1,Td x)/\∀x∈(mt f n).2,Td x:=by
 constructor
 .intro x hx;simp only[mt]at hx;split at hx
  .simp at hx
  .rename_i hd;simp only[mem_singleton]at hx;subst hx;exact(h.jo (h.get _) (im (by simpa using hd))).tidy
 .intro x hx;simp only[mt]at hx;split at hx
  .simp at hx
  .simp only[mem_singleton]at hx;subst hx;exact(h.pa (h.get _) (h.cT _ _)).tidy
theorem jG{n:Nd}{f:CF}(hv:n.v<4)(ha:n.ai<4)(h:Td f):(∀x∈(cj n f).nx,Td x)/\∀x∈(cj n f).ot,Td x:=by
 have one:∀{g:CF},aj g->(∀x∈[aQ g],Td x):=λhg x hx=>by rw[mem_singleton]at hx;subst hx;exact hg.tidy
 have no:∀x∈([]:List CF),Td x:=λx hx=>by simp at hx
 unfold cj;split
 .exact⟨no,no⟩
 .split
  .exact⟨one (h.ok.sC _ (h.ok.cT _ _)),no⟩
  .split
   .exact ss (λx hx=>(Au (jV ha h.ok h.ln x hx)).1)
   .split
    .exact ss (λx hx=>(Gl (jV hv h.ok h.ln x hx)).1)
    .split
     .split
      .exact⟨no,no⟩
      .exact⟨one (rQ h.ok (by omega)),no⟩
     .split
      .exact ss (λx hx=>(rY (jV hv h.ok h.ln x hx)).1)
      .split
       .exact⟨one h.ok,one h.ok⟩
       .split
        .exact Nx h.ok n
        .split
         .exact(Nx h.ok n).symm
         .exact⟨one h.ok,no⟩
def CR(f:CF)(i:Nat):Nat:=((range (i+1)).find? (λk=>f.cl.getD k 0==f.cl.getD i 0)).getD 0
def B9(f:CF)(i:Nat):Nat:=match cD f.ow (f.cl.getD i 0) with|some j=>(owA f j).k|none=>0
def QN(f:CF):Nat:=f.ow.countP (λp=>decide (p.k=3))
def Ve(f:CF):Nat:=f.ow.countP (λp=>!decide (p.k=3))
def roB(s t:CF):Bool:=!(decide (QN s<QN t)||decide (QN s+Ve s<QN t+Ve t))&&(decide (0<Ve t)||(decide (Ve s=0)&&decide (QN s=QN t)))
def I6(s t:CF)(i:Nat):Bool:=decide (CR s (CR t i)=CR s i)&&!(decide (B9 t i=3)&&!decide (B9 s i=3))&&!(decide (B9 t i=4)&&decide (B9 s i=0))
def SM(s t:CF):Bool:=I6 s t 0&&I6 s t 1&&I6 s t 2&&I6 s t 3&&I6 s t 4
def Eg(s t:CF):Bool:=roB s t&&SM s t&&(match Ap s t [0,1,2,3,4] (replicate 24 none) with|none=>false|some an=>(Mc s t an 128).1)
structure ig where
 f:CF
 d:Bool
structure Sr where
 kn:List (List ig)
 wr:List (List Bool)
 lf:Int
 lo:Int
 fu:Bool
 ok:Bool
structure Cd where
 nds:List Nd
 hd:List Bool
 lp:Bool
 bd:Bool
def aI:Nd:=⟨0,0,0,0,0,0⟩
def sJ(c:Cd)(s:Sr):Sr:={ s with lf:=wrap64 (s.lf-1),fu:=s.fu||(decide (wrap64 (s.lf-1)<0)&&c.bd) }
def oY(c:Cd)(s:Sr)(n:Nat):Sr:={ s with lo:=wrap64 (s.lo-n),fu:=s.fu||(decide (wrap64 (s.lo-n)<0)&&c.bd) }
def bq(s:Sr)(n:Nat):List ig:=s.kn.getD n []
def bH(c:Cd)(n:Nat)(f:CF):CF:=if c.hd.getD n false=true then aQ (As f) else f
def tD:Nat:=1000000000000
def il:Nat:=900000
def pW(n:Nat)(g:CF)(s:Sr):Sr:={ s with ok:=s.ok&&decide ((bq s n).length<=tD),kn:=s.kn.set n ((bq s n).filter (λe=>!Eg e.f g)++[⟨g,false⟩]) }
def bu(c:Cd)(n:Nat)(f:CF)(s:Sr):Sr :=
 if (bq s n).any (λe=>Eg (bH c n f) e.f)=true then { oY c s (2*(bq s n).length) with ok:=s.ok&&decide ((bq s n).length<=tD) }
 else sJ c (pW n (bH c n f) (oY c s (2*(bq s n).length)))
def dc(f:CF):List Nat:=(range f.ow.length).filter (λi=>!decide ((owA f i).l∈jx f))
def RV(f:CF):CF:=aQ { f with ow:=f.ow.filter (λp=>decide (p.l∈jx f)) }
def pf(a b:List Pr):Bool:=decide (a.length=b.length)&&(range a.length).all (λi=>DW (a.getD i ay) (b.getD i ay))
def Mx(f g:CF):Bool:=decide (kj f=kj g)&&pf f.ap g.ap&&pf f.ow g.ow
def XW(cs:List CF)(f:CF):Bool:=!cs.any (λg=>Mx f g)
def l7(c:Cd)(r:List CF × Sr)(g:CF):List CF × Sr:=if XW r.1 (aQ g)=true then (r.1++[aQ g],sJ c { r.2 with ok:=r.2.ok&&decide (r.1.length<=il) }) else r
def Kp(f:CF)(a:Nat):Bool:=decide (a∈jx f)&&!decide (a=f.cl.getD 0 0)&&!(cD f.ow a).isSome
def oS(c:Cd)(f:CF)(i:Nat)(r:List CF × Sr)(a:Nat):List CF × Sr:=if Kp f a=true then (eM f a i).foldl (l7 c) r else r
def eU(c:Cd)(f:CF)(r:List CF × Sr)(i:Nat):List CF × Sr:=(range 24).foldl (oS c f i) r
def ud(c:Cd)(g:CF)(r:List CF × Sr)(res:List CF):List CF × List CF × Sr :=
 if dc g=[] then (res++[g],r) else (res++[RV g],(dc g).foldl (eU c g) r)
def ip(c:Cd):Nat->Nat->List CF->List CF × Sr->List CF × Sr
 |0,_,res,r=>(res,{ r.2 with ok:=false })
 |n+1,k,res,r=>if k<r.1.length/\r.2.fu=false then ip c n (k+1) (ud c (r.1.getD k ⟨[],[],[]⟩) r res).1 (ud c (r.1.getD k ⟨[],[],[]⟩) r res).2 else (res,r.2)
def kO(n k:Nat)(s:Sr):Sr:={ s with wr:=s.wr.set n ((s.wr.getD n []).set k true) }
def dU(c:Cd)(fuel from_ to_:Nat)(f:CF)(s:Sr):Sr :=
 if c.lp=false\/dc f=[] then bu c to_ f s
 else
  let r:=ip c fuel 0 [] ([f],kO from_ 2 s)
  r.1.foldl (λs g=>bu c to_ g s) r.2
def fuS(b:Bool)(s:Sr):Sr:={ s with fu:=s.fu||b }
def wrI(b:Bool)(n k:Nat)(s:Sr):Sr:=if b=true then kO n k s else s
def pm(c:Cd)(fuel:Nat)(n:Nat)(f:CF)(s:Sr):Sr :=
 let nd:=c.nds.getD n aI
 let o:=cj nd f
 let s1:=wrI (decide (nd.op=0)&&!decide (dc f=[])) n 2 s
 let s2:=fuS o.fu (wrI o.da n 4 (wrI o.nu n 3 s1))
 let s3:=o.nx.foldl (λs g=>dU c fuel n nd.nx g s) s2
 o.ot.foldl (λs g=>dU c fuel n nd.ot g s) s3
def nN(c:Cd)(fuel n:Nat):List CF->Sr->Sr
 |[],s=>s
 |f::r,s=>if s.fu=true then s else nN c fuel n r (pm c fuel n f s)
def mH(l:List ig):List CF:=(l.filter (λe=>!e.d)).map (·.f)
def sN(c:Cd)(fuel n:Nat)(s:Sr):Sr:=nN c fuel n (mH (bq s n)) { s with kn:=s.kn.set n ((bq s n).map (λe=>⟨e.f,true⟩)) }
def EN(s:Sr):Option Nat:=s.kn.findIdx? (λl=>l.any (λe=>!e.d))
def qg(c:Cd)(fuel:Nat):Nat->Sr->Sr
 |0,s=>{ s with ok:=false }
 |n+1,s=>match EN s with
  |none=>s
  |some k=>if s.fu=true then s else qg c fuel n (sN c fuel k s)
def yl(al:List ci):Nat:=al.foldl (λm a=>let m1:=if a.lk=2/\m<=a.li then a.li+1 else m;if a.rk=2/\m1<=a.ri then a.ri+1 else m1) 0
def iZ(nds:List Nd)(i:Nat):Bool:=decide ((nds.getD i aI).op=10)&&decide ((nds.getD i aI).nx<i)
def My(nds:List Nd)(nv:Nat)(al:List ci):Bool :=
 !(range nds.length).any (iZ nds)&&!al.any (λa=>decide (a.k=4)) &&
 decide (nds.countP (λn=>decide (n.op=7\/n.op=8\/n.op=9))<=5)&&decide (nds.countP (λn=>decide (n.op=4))<=4)&&decide (nv+yl al<=6)&&decide (nv+yl al+nds.countP (λn=>decide (n.op=4))<=8)
def Mj(nds:List Nd):List Bool:=(range nds.length).foldl (λh i=>if iZ nds i=true then h.set (nds.getD i aI).nx true else h) (replicate nds.length false)
def mF(nds:List Nd)(nv:Nat)(al:List ci):Cd:=⟨nds,Mj nds,(range nds.length).any (iZ nds),!My nds nv al⟩
def nL(nds:List Nd):Sr:=⟨replicate nds.length [],replicate nds.length (replicate 5 false),3000,2097152,false,true⟩
def sV(f:CF)(nv:Nat):CF:={ f with cl:=(range 5).map (λi=>if nv<i then f.cl.getD 0 0 else f.cl.getD i 0) }
def io(c:Cd)(fuel nv:Nat)(al:List ci)(s:Sr):Sr:=if gH (bW al)=true then s else dU c fuel (c.nds.length-1) 0 (aQ (sV (bW al) nv)) s
structure Rs where
 vd:Nat
 al:List (Nat × Nat)
 kn:List (List CF)
def Hj(wr:List (List Bool)):List (Nat × Nat):=(range wr.length).flatMap (λn=>([2,3,4].filter (λk=>(wr.getD n []).getD k false)).map (λk=>(n,k)))
def Cy(s:Sr):Rs:=if s.fu=true then ⟨2,[],[]⟩ else ⟨if Hj s.wr=[] then 0 else 1,Hj s.wr,s.kn.map (λl=>l.map (·.f))⟩
section
variable {ad nx:List Int} {s:Nat->Int} {f g:CF}
theorem lg(f:CF)(G:Nat->Nat){i:Nat}(hi:i<5):((kj f).map G).getD i 0=G (f.cl.getD i 0):=by
 have:i=0\/i=1\/i=2\/i=3\/i=4:=by omega
 rcases this with rfl|rfl|rfl|rfl|rfl <;> rfl
theorem Wg(g:Pr->Pr)(l:List Pr)(i k:Nat)(hk:k<=l.length):ry (l.map g) i k=(ry l i k).map g:=by
 unfold ry;rw[map_map];apply map_congr_left;intro j hj;have hj2:=mem_range.1 (mem_filter.1 hj).1;have fT:j<l.length:=by omega
 simp[getD_eq_getElem?_getD,fT]
theorem JQ(g:Pr->Pr)(l:List Pr)(i:Nat):iQ (l.map g) i=(iQ l i).map g:=by
 unfold iQ;rw[length_map];exact Wg g l i l.length (zq4 _)
theorem qd(l:List Pr):(range l.length).map (λj=>l.getD j ay)=l:=by
 apply ext_getElem
 .simp
 .intro i h1 h2;simp only[getElem_map,getElem_range];exact bX h2
theorem cU{l:List Pr}{i:Nat}(hi:i<l.length):l.Perm (l.getD i ay::iQ l i):=by
 have h1:(range l.length).Perm (i::(range l.length).filter (λj=>j != i)):=by
  have:=mV (p:=λ_=>true) (q:=λj=>j != i) (l:=range l.length) (i:=i) nodup_range (by simpa using hi) rfl (by simp) (λj hj=>by simpa using hj);rwa [filter_eq_self.2 (λ_ _=>rfl)]at this
 have h2:=h1.map (λj=>l.getD j ay);rw[qd]at h2;exact h2
theorem yV{l:List Pr}{P:Pr->Bool}(h:l.countP P=1):∃q R,l.Perm (q::R)/\P q=true/\∀x∈R,P x=false:=by
 obtain⟨q,hq,hp⟩:=countP_pos_iff.1 (show 0<l.countP P by omega);obtain⟨a,b,rfl⟩:=append_of_mem hq;rw[countP_append,countP_cons,hp]at h;simp only[if_true]at h;refine⟨q,a++b,perm_middle,hp,λx hx=>?_⟩;have h0:(a++b).countP P=0:=by rw[countP_append];omega
 have:=countP_eq_zero.1 h0 x hx;simpa using this
theorem JH{p:Pr}(h:EQ f p=true):SO f p.l=false/\p.r≠p.l/\Ce f.ow p.l=1:=by
 unfold EQ at h;simp only[Bool.and_eq_true,Bool.not_eq_true',Bool.or_eq_false_iff,decide_eq_true_eq,decide_eq_false_iff_not]at h;exact⟨h.1.1,h.1.2,h.2⟩
end
def lY:List Pr->Nat->Nat->Prop
 |[],_,_=>False
 |[q],a,e=>q.l=a/\q.r=e
 |q::q'::r,a,e=>q.l=a/\lY (q'::r) q.r e
def mr(val:Nat->Nat):List Pr->List Pr->Prop
 |[],cs=>cs=[]
 |p::r,cs=>∃q cs',cs.Perm (q++cs')/\lY q (val p.l) (val p.r)/\(p.k≠4->∃x,q=[x]/\x.k≠4)/\mr val r cs'
structure cX(r:Nat->Nat)(w:Nat)(F:CF)(val:Nat->Nat)(X:List Pr)(V:CF):Prop where
 cl:∀i,i<5->val (V.cl.getD i 0)=F.cl.getD (r i) 0
 ap:∀p∈V.ap,p.l∈bL V->p.r∈bL V->aV F (val p.l) (val p.r)=true
 sp:∃cs,F.ow.Perm (X++cs)/\mr val V.ow cs
 nm:∀x∈X,x.l=F.cl.getD (1+w) 0/\x.r=F.cl.getD 0 0
section
variable {val:Nat->Nat} {cs cs':List Pr}
theorem lZ{q:List Pr}{a e:Nat}(h:lY q a e):∃x t,q=x::t/\x.l=a:=by
 cases q with
 |nil=>exact h.elim
 |cons x t =>
  refine⟨x,t,rfl,?_⟩;cases t with
  |nil=>exact h.1
  |cons y t=>exact h.1
theorem Ai:∀{q:List Pr} {a e:Nat},lY q a e->∃x t,q=t++[x]/\x.r=e
 |[],_,_,h=>h.elim
 |[x],_,_,h=>⟨x,[],rfl,h.2⟩
 |x::y::t,a,e,h=>by
  obtain⟨z,u,h1,h2⟩:=Ai h.2;exact⟨z,x::u,by rw[h1];rfl,h2⟩
theorem vx{x:Pr}{q:List Pr}{e:Nat}(h:lY q x.r e):lY (x::q) x.l e:=by
 cases q with
 |nil=>exact h.elim
 |cons y t=>exact⟨rfl,h⟩
theorem Ag:∀{q u:List Pr} {a b e:Nat},lY q a b->lY u b e->lY (q++u) a e
 |[],_,_,_,_,h,_=>h.elim
 |[x],u,a,b,e,h,h'=>by
  obtain⟨rfl,rfl⟩:=h;exact vx h'
 |x::y::t,u,a,b,e,h,h'=>⟨h.1,Ag h.2 h'⟩
theorem MW{a b:Pr}{r:List Pr}(h:mr val (a::b::r) cs):mr val (b::a::r) cs:=by
 obtain⟨q,c1,h1,h2,h3,u,c2,k1,k2,k3,k4⟩:=h;refine⟨u,q++c2,?_,k2,k3,q,c2,List.Perm.refl _,h2,h3,k4⟩;refine h1.trans ((k1.append_left q).trans ?_);rw[<-append_assoc,<-append_assoc];exact perm_append_comm.append_right c2
theorem cN{l l':List Pr}(h:l.Perm l'):∀{cs:List Pr},mr val l cs->mr val l' cs:=by
 induction h with
 |nil=>exact λh=>h
 |cons x _ ih =>
  rintro cs ⟨q,c,h1,h2,h3,h4⟩;exact⟨q,c,h1,h2,h3,ih h4⟩
 |swap x y t=>exact λh=>MW h
 |trans _ _ ih1 ih2=>exact λh=>ih2 (ih1 h)
theorem yJ:∀{a b:List Pr} {cs:List Pr},mr val (a++b) cs->∃ca cb,cs.Perm (ca++cb)/\mr val a ca/\mr val b cb
 |[],b,cs,h=>⟨[],cs,List.Perm.refl _,rfl,h⟩
 |p::a,b,cs,h=>by
  obtain⟨q,c,h1,h2,h3,h4⟩:=h;obtain⟨ca,cb,k1,k2,k3⟩:=yJ h4;exact⟨q++ca,cb,h1.trans (by rw[append_assoc];exact k1.append_left q),⟨q,ca,List.Perm.refl _,h2,h3,k2⟩,k3⟩
theorem pG{v':Nat->Nat}{g:Pr->Pr}{ph:Nat->Nat}{G:Pr->Pr}(hG:∀x,(G x).l=ph x.l/\(G x).r=ph x.r/\((G x).k=4↔x.k=4)):∀{l cs:List Pr},(∀p∈l,((g p).k≠4->p.k≠4)/\v' (g p).l=ph (val p.l)/\v' (g p).r=ph (val p.r))->mr val l cs->mr v' (l.map g) (cs.map G)
 |[],_,_,h=>by
  have h:_=[]:=h;rw[h];rfl
 |p::r,cs,hg,h=>by
  obtain⟨q,c,h1,h2,h3,h4⟩:=h;obtain⟨g1,g2,g3⟩:=hg p (by simp);have hc:∀{q:List Pr} {a e:Nat},lY q a e->lY (q.map G) (ph a) (ph e):=by
   intro q;induction q with
   |nil=>intro a e h;exact h.elim
   |cons x t ih =>
    intro a e h;cases t with
    |nil=>exact⟨by rw[(hG x).1,h.1],by rw[(hG x).2.1,h.2]⟩
    |cons y t =>
     refine⟨by rw[(hG x).1,h.1],?_⟩;have:=ih h.2;rw[<-(hG x).2.1]at this;exact this
  refine⟨q.map G,c.map G,?_,by rw[g2,g3];exact hc h2,λhk=>?_,pG hG (λp hp=>hg p (by simp[hp])) h4⟩
  .rw[<-map_append];exact h1.map G
  .obtain⟨x,rfl,hx⟩:=h3 (g1 hk);exact⟨G x,rfl,λe=>hx ((hG x).2.2.1 e)⟩
theorem yI{v':Nat->Nat}{l:List Pr}(h:∀p∈l,v' p.l=val p.l/\v' p.r=val p.r)(hs:mr val l cs):mr v' l cs:=by
 have:=pG (v':=v') (g:=id) (ph:=id) (G:=id) (λx=>⟨rfl,rfl,Iff.rfl⟩) (λp hp=>⟨λh=>h,h p hp⟩) hs;rwa [map_id,map_id]at this
theorem vj{l:List Pr}{p:Pr}(hp:p∈l)(h:mr val l cs):∃x∈cs,x.l=val p.l:=by
 induction l generalizing cs with
 |nil=>simp at hp
 |cons a r ih =>
  obtain⟨q,c,h1,h2,h3,h4⟩:=h;rcases mem_cons.1 hp with rfl|hp
  .obtain⟨x,t,rfl,hx⟩:=lZ h2;exact⟨x,h1.symm.subset (by simp),hx⟩
  .obtain⟨x,hx,he⟩:=ih hp h4;exact⟨x,h1.symm.subset (mem_append_right _ hx),he⟩
theorem Ka{l:List Pr}{i:Nat}(hi:i<l.length)(h:mr val l cs):mr val (l.getD i ay::iQ l i) cs:=cN (cU hi) h
theorem Hv{v:Nat->Nat}:∀{q cq:List Pr} {a e:Nat},lY q a e->mr v q cq->∃c,c.Perm cq/\lY c (v a) (v e)
 |[],_,_,_,h,_=>h.elim
 |[x],cq,a,e,h,hs=>by
  obtain⟨rfl,rfl⟩:=h;obtain⟨u,c,h1,h2,-,h4⟩:=hs;have h4:c=[]:=h4;rw[h4,append_nil]at h1;exact⟨u,h1.symm,h2⟩
 |x::y::t,cq,a,e,h,hs=>by
  obtain⟨rfl,h'⟩:=h;obtain⟨u,c,h1,h2,-,h4⟩:=hs;obtain⟨c',k1,k2⟩:=Hv h' h4;exact⟨u++c',(k1.append_left u).trans h1.symm,Ag h2 k2⟩
theorem yK{v1 v2:Nat->Nat}:∀{U V cs:List Pr},mr v2 U V->mr v1 V cs->mr (λc=>v1 (v2 c)) U cs
 |[],V,cs,h,h'=>by
  have h:V=[]:=h;rw[h]at h';exact h'
 |p::r,V,cs,h,h'=>by
  obtain⟨q,V',h1,h2,h3,h4⟩:=h;obtain⟨ca,cb,k1,k2,k3⟩:=yJ (cN h1 h');obtain⟨c,e1,e2⟩:=Hv h2 k2;refine⟨c,cb,k1.trans (e1.symm.append_right cb),e2,λhk=>?_,yK h4 k3⟩;obtain⟨x,rfl,hx⟩:=h3 hk;obtain⟨u,c',j1,-,j3,j4⟩:=k2;obtain⟨y,rfl,hy⟩:=j3 hx;have j4:c'=[]:=j4;rw[j4,append_nil]at j1;exact⟨y,perm_singleton.1 (e1.trans j1),hy⟩
end
section
variable {r:Nat->Nat} {w:Nat} {F V U:CF} {val v2:Nat->Nat} {X:List Pr}
theorem uE{l l':List Pr}(h:lO l)(hp:l.Perm l'):lO l':=(hp.map _).nodup_iff.1 h
theorem aaS{l:List Pr}(h:lO l){x y:Pr}(hx:x∈l)(hy:y∈l)(e:x.l=y.l):x=y:=by
 obtain⟨i,h1,h2⟩:=pL h hx;obtain⟨j,h3,h4⟩:=pL h hy;rw[e]at h1;rw[h1]at h3;injection h3 with h3;rw[<-h2,<-h4,h3]
theorem qy{l:List Pr}{c:Nat}:(cD l c).isSome=true↔∃p∈l,p.l=c:=by
 constructor
 .intro h;obtain⟨i,hi⟩:=Option.isSome_iff_exists.1 h;exact⟨l.getD i ay,t0 hi,(eT hi).2⟩
 .rintro⟨p,hp,e⟩;cases hb:cD l c with
  |some i=>rfl
  |none=>exact absurd e (pK hb p hp)
theorem fQ{f:CF}{a b:Nat}:mG f a b=true↔((∃p∈f.ow,p.l=a)/\((∃p∈f.ow,p.l=b)\/b=f.cl.getD 0 0))\/((∃p∈f.ow,p.l=b)/\a=f.cl.getD 0 0):=by
 unfold mG;rw[Bool.or_eq_true,Bool.and_eq_true,Bool.and_eq_true,Bool.or_eq_true,qy,qy,beq_iff_eq,beq_iff_eq]
theorem bZ{f:CF}{a b:Nat}:aV f a b=true↔a≠b/\((∃p∈f.ap,(p.l=a/\p.r=b)\/(p.l=b/\p.r=a))\/mG f a b=true):=by
 unfold aV;by_cases e:a=b
 .rw[if_pos e];constructor
  .intro h;cases h
  .rintro⟨h,-⟩;exact absurd e h
 .rw[if_neg e,Bool.or_eq_true,any_eq_true];constructor
  .rintro(⟨p,hp,h⟩|h)
   .refine⟨e,zq0 ⟨p,hp,?_⟩⟩;simpa using h
   .exact⟨e,zq1 h⟩
  .rintro⟨-,⟨p,hp,h⟩|h⟩
   .exact zq0 ⟨p,hp,by simpa using h⟩
   .exact zq1 h
theorem iC{f:CF}{a b:Nat}(h:aV f a b=true):aV f b a=true:=by
 rw[bZ]at h ⊢;obtain⟨h1,h2⟩:=h;refine⟨h1.symm,?_⟩;rcases h2 with⟨p,hp,h2⟩|h2
 .exact zq0 ⟨p,hp,h2.symm⟩
 .right;rw[fQ]at h2 ⊢;rcases h2 with⟨h3,h4|h4⟩|⟨h3,h4⟩
  .exact zq0 ⟨h4,zq0 h3⟩
  .exact zq1 ⟨h3,h4⟩
  .exact zq0 ⟨h3,zq1 h4⟩
theorem cX.head(h:cX r w F val X V){p:Pr}(hp:p∈V.ow):∃x∈F.ow,x.l=val p.l:=by
 obtain⟨cs,h1,h2⟩:=h.sp;obtain⟨x,hx,e⟩:=vj hp h2;exact⟨x,h1.symm.subset (mem_append_right _ hx),e⟩
theorem YN{l cs:List Pr}(hc:lO cs)(hl:lO l)(h:mr val l cs):∀p∈l,∀p'∈l,val p.l=val p'.l->p=p':=by
 induction l generalizing cs with
 |nil=>intro p hp;simp at hp
 |cons a l ih =>
  obtain⟨q,c,h1,h2,h3,h4⟩:=h;have vO:=uE hc h1;have hn:((q++c).map (·.l)).Nodup:=vO;rw[map_append]at hn;obtain⟨n1,n2,n3⟩:=nodup_append.1 hn;have ym:lO l:=(nodup_cons.1 hl).2;obtain⟨x,t,rfl,hx⟩:=lZ h2;have key:∀p∈l,val a.l≠val p.l:=λp hp e=>by
   obtain⟨y,hy,he⟩:=vj hp h4;exact n3 x.l (by simp) y.l (mem_map_of_mem (f:=(·.l)) hy) (by rw[hx,he,e])
  intro p hp p' IH e;rcases mem_cons.1 hp with h5|h5 <;> rcases mem_cons.1 IH with h6|h6
  .rw[h5,h6]
  .rw[h5]at e;exact absurd e (key p' h6)
  .rw[h6]at e;exact absurd e.symm (key p h5)
  .exact ih n2 ym h4 p h5 p' h6 e
theorem cX.dif(h:cX r w F val X V)(hF:lO F.ow)(hN:∀p∈F.ow,p.l≠F.cl.getD 0 0)(h0:r 0=0)(hV:lO V.ow)(hL:∀p∈V.ap,p.l∈bL V/\p.r∈bL V){a b:Nat}(hd:aV V a b=true):aV F (val a) (val b)=true:=by
 have c0:val (V.cl.getD 0 0)=F.cl.getD 0 0:=by rw[h.cl 0 (by omega),h0]
 obtain⟨h1,h2⟩:=bZ.1 hd;rcases h2 with⟨p,hp,⟨rfl,rfl⟩|⟨rfl,rfl⟩⟩|h2
 .exact h.ap p hp (hL p hp).1 (hL p hp).2
 .exact iC (h.ap p hp (hL p hp).1 (hL p hp).2)
 .obtain⟨cs,s1,s2⟩:=h.sp;have Dc:lO cs:=by
   have:=uE hF s1;unfold lO at this ⊢;rw[map_append]at this;exact(nodup_append.1 this).2.1
  rw[bZ,fQ];rw[fQ]at h2;rcases h2 with⟨⟨p,hp,rfl⟩,⟨p',IH,rfl⟩|rfl⟩|⟨⟨p,hp,rfl⟩,rfl⟩
  .refine⟨λe=>?_,zq1 (zq0 ⟨h.head hp,zq0 (h.head IH)⟩)⟩;exact h1 (by rw[YN Dc hV s2 p hp p' IH e])
  .obtain⟨x,hx,ex⟩:=h.head hp;exact⟨λe=>hN x hx (by rw[ex,e,c0]),zq1 (zq0 ⟨⟨x,hx,ex⟩,zq1 c0⟩)⟩
  .obtain⟨x,hx,ex⟩:=h.head hp;exact⟨λe=>hN x hx (by rw[ex,<-e,c0]),zq1 (zq1 ⟨⟨x,hx,ex⟩,c0⟩)⟩
end
def Hd(f:CF):Prop:=∀p∈f.ap,p.l∈bL f/\p.r∈bL f
theorem dd{f:CF}{p:Pr}(hp:p∈f.ow):p.l∈bL f/\p.r∈bL f:=⟨mem_append_right _ (mem_flatMap.2 ⟨p,hp,by simp⟩),mem_append_right _ (mem_flatMap.2 ⟨p,hp,by simp⟩)⟩
theorem qa{f:CF}{i:Nat}(hi:i<5):f.cl.getD i 0∈bL f:=mem_append_left _ (gG hi)
theorem tt{f:CF}{c:Nat}(h:c∈bL f):(∃i,i<5/\c=f.cl.getD i 0)\/∃p∈f.ow,c=p.l\/c=p.r:=by
 rcases mem_append.1 h with h|h
 .left;unfold kj at h;simp only[mem_cons,not_mem_nil,or_false]at h;rcases h with h|h|h|h|h
  .exact⟨0,by omega,h⟩
  .exact⟨1,by omega,h⟩
  .exact⟨2,by omega,h⟩
  .exact⟨3,by omega,h⟩
  .exact⟨4,by omega,h⟩
 .right;obtain⟨p,hp,h⟩:=mem_flatMap.1 h;exact⟨p,hp,by simpa using h⟩
theorem qb{f:CF}(hf:aj f):Hd (aQ f):=by
 intro p hp;obtain⟨q,hq,rfl⟩:=mem_map.1 (dG.1 (show p∈mm ((wU (cJ f)).ap.map jd) from hp));obtain⟨u,hu,rfl⟩:=mem_map.1 (show q∈(cJ f).ap.map (jk (df (cJ f))) from hq);have key:∀c,c∈bL (cJ f)->(df (cJ f)).idxOf c∈bL (aQ f):=λc hc=>by
  rcases tt hc with⟨i,hi,rfl⟩|⟨x,hx,h⟩
  .have e:(aQ f).cl.getD i 0=(df (cJ f)).idxOf ((cJ f).cl.getD i 0):=lg (cJ f) (λc=>(df (cJ f)).idxOf c) hi;rw[<-e];exact qa hi
  .have hm:jk (df (cJ f)) x∈(aQ f).ow:=dG.2 (show jk (df (cJ f)) x∈(cJ f).ow.map (jk (df (cJ f))) from mem_map.2 ⟨x,hx,rfl⟩);rcases h with rfl|rfl
   .exact(dd hm).1
   .exact(dd hm).2
 obtain⟨h1,h2⟩:=iz hu;have e:(jd (jk (df (cJ f)) u)).l∈bL (aQ f)/\(jd (jk (df (cJ f)) u)).r∈bL (aQ f):=by
  unfold jd;split
  .exact⟨key _ h2,key _ h1⟩
  .exact⟨key _ h1,key _ h2⟩
 exact e
section
variable {r:Nat->Nat} {w:Nat} {F V:CF} {val:Nat->Nat} {X:List Pr}
theorem cX.tdV(hV:aj V)(h:cX r w F val X V):∃val',cX r w F val' X (aQ V):=by
 have hf:=hV.fg;have it:=lG hf.ow hf.cl hf.lf;have hv:∀c,c∈bL (cJ V)->val ((df (cJ V)).getD ((df (cJ V)).idxOf c) 0)=val c:=λc hc=>by
  have hm:=it c hc;rw[getD_eq_getElem?_getD,getElem?_eq_getElem (idxOf_lt_length_iff.2 hm)];simp
 refine⟨λn=>val ((df (cJ V)).getD n 0),λi hi=>?_,λp hp _ _=>?_,?_,h.nm⟩
 .have e:(aQ V).cl.getD i 0=(df (cJ V)).idxOf ((cJ V).cl.getD i 0):=lg (cJ V) (λc=>(df (cJ V)).idxOf c) hi;rw[e,hv _ (qa hi)];exact h.cl i hi
 .obtain⟨q,hq,rfl⟩:=mem_map.1 (dG.1 (show p∈mm ((wU (cJ V)).ap.map jd) from hp));obtain⟨u,hu,rfl⟩:=mem_map.1 (show q∈(cJ V).ap.map (jk (df (cJ V))) from hq);obtain⟨l1,l2⟩:=iz hu;have hd:=h.ap u (mem_filter.1 hu).1 l1 l2;rw[<-hv _ l1,<-hv _ l2]at hd;unfold jd;split
  .exact iC hd
  .exact hd
 .obtain⟨cs,s1,s2⟩:=h.sp;refine⟨cs,s1,?_⟩;have AE:lO (wU (cJ V)).ow:=(hf.rn (λ_ hp=>iz hp)).lf;refine cN (rt AE).symm ?_;have:=pG (val:=val) (v':=λn=>val ((df (cJ V)).getD n 0)) (g:=jk (df (cJ V))) (ph:=id) (G:=id) (λx=>⟨rfl,rfl,Iff.rfl⟩) (l:=V.ow) (λp hp=>⟨λh=>h,hv _ (dd (f:=cJ V) hp).1,hv _ (dd (f:=cJ V) hp).2⟩) s2;rw[map_id]at this;exact this
theorem vi{l cs:List Pr}{p:Pr}(hp:p∈l)(h:mr val l cs):(∃x∈cs,x.l=val p.l)/\∃x∈cs,x.r=val p.r:=by
 refine⟨vj hp h,?_⟩;induction l generalizing cs with
 |nil=>simp at hp
 |cons a l ih =>
  obtain⟨q,c,h1,h2,h3,h4⟩:=h;rcases mem_cons.1 hp with rfl|hp
  .obtain⟨x,t,rfl,hx⟩:=Ai h2;exact⟨x,h1.symm.subset (by simp),hx⟩
  .obtain⟨x,hx,he⟩:=ih hp h4;exact⟨x,h1.symm.subset (mem_append_right _ hx),he⟩
theorem cX.live(hr:∀i,i<5->r i<5)(h:cX r w F val X V){c:Nat}(hc:c∈bL V):val c∈bL F:=by
 rcases tt hc with⟨i,hi,rfl⟩|⟨p,hp,e⟩
 .rw[h.cl i hi];exact qa (hr i hi)
 .obtain⟨cs,s1,s2⟩:=h.sp;obtain⟨⟨x,hx,ex⟩,y,hy,ey⟩:=vi hp s2;rcases e with rfl|rfl
  .rw[<-ex];exact(dd (s1.symm.subset (mem_append_right _ hx))).1
  .rw[<-ey];exact(dd (s1.symm.subset (mem_append_right _ hy))).2
theorem Y9(hF:aj F){a b:Nat}(ha:a∈bL F)(hb:b∈bL F)(h:aV F a b=true):aV (aQ F) ((df F).idxOf a) ((df F).idxOf b)=true:=by
 have Dr:=GE F;have it:=lG hF.ow hF.cl hF.lf;obtain⟨h1,h2⟩:=bZ.1 h;rw[bZ];refine⟨λe=>h1 (AT (it a ha) (it b hb) e),?_⟩;have qM:∀q∈F.ow,∃y∈(aQ F).ow,y.l=(df F).idxOf q.l:=λq hq=>⟨jk (df (cJ F)) q,dG.2 (show jk (df (cJ F)) q∈(cJ F).ow.map (jk (df (cJ F))) from mem_map.2 ⟨q,hq,rfl⟩),by show(df (cJ F)).idxOf q.l=_;rw[Dr]⟩;have EB:(aQ F).cl.getD 0 0=(df F).idxOf (F.cl.getD 0 0):=by
  have e:(aQ F).cl.getD 0 0=(df (cJ F)).idxOf ((cJ F).cl.getD 0 0):=lg (cJ F) (λc=>(df (cJ F)).idxOf c) (by omega);rw[e,Dr];rfl
 have afH:mG F a b=true->mG (aQ F) ((df F).idxOf a) ((df F).idxOf b)=true:=λhc=>by
  rw[fQ]at hc ⊢;rw[EB];rcases hc with⟨⟨p,hp,rfl⟩,⟨p',IH,rfl⟩|rfl⟩|⟨⟨p,hp,rfl⟩,rfl⟩
  .exact zq0 ⟨qM p hp,zq0 (qM p' IH)⟩
  .exact zq0 ⟨qM p hp,zq1 rfl⟩
  .exact zq1 ⟨qM p hp,rfl⟩
 rcases h2 with⟨p,hp,th⟩|h2
 .by_cases hg:yd F p=true
  .left;have hm:jk (df (cJ F)) p∈(wU (cJ F)).ap:=mem_map.2 ⟨p,mem_filter.2 ⟨hp,hg⟩,rfl⟩;refine⟨jd (jk (df (cJ F)) p),dG.2 (mem_map.2 ⟨_,hm,rfl⟩),?_⟩;have e1:(jk (df (cJ F)) p).l=(df F).idxOf p.l:=(by show(df (cJ F)).idxOf p.l=_;rw[Dr]);have e2:(jk (df (cJ F)) p).r=(df F).idxOf p.r:=(by show(df (cJ F)).idxOf p.r=_;rw[Dr]);unfold jd;rcases th with⟨rfl,rfl⟩|⟨rfl,rfl⟩ <;> split
   .exact zq1 ⟨e2,e1⟩
   .exact zq0 ⟨e1,e2⟩
   .exact zq0 ⟨e2,e1⟩
   .exact zq1 ⟨e1,e2⟩
  .right;apply afH;have zj:p.l∈bL F/\p.r∈bL F:=(by rcases th with⟨rfl,rfl⟩|⟨rfl,rfl⟩;exact⟨ha,hb⟩;exact⟨hb,ha⟩);unfold yd at hg;rw[decide_eq_true zj.1,decide_eq_true zj.2]at hg;have hc:mG F p.l p.r=true:=(by simpa using hg);rcases th with⟨rfl,rfl⟩|⟨rfl,rfl⟩
   .exact hc
   .rw[fQ]at hc ⊢;rcases hc with⟨h3,h4|h4⟩|⟨h3,h4⟩
    .exact zq0 ⟨h4,zq0 h3⟩
    .exact zq1 ⟨h3,h4⟩
    .exact zq0 ⟨h3,zq1 h4⟩
 .exact zq1 (afH h2)
theorem cX.tdF'(hr:∀i,i<5->r i<5)(hw:w<4)(hF:aj F)(h:cX r w F val X V):cX r w (aQ F) (λc=>(df F).idxOf (val c)) (X.map (jk (df F))) V:=by
 have Dr:=GE F;have dT:∀i,i<5->(aQ F).cl.getD i 0=(df F).idxOf (F.cl.getD i 0):=λi hi=>by
  have e:(aQ F).cl.getD i 0=(df (cJ F)).idxOf ((cJ F).cl.getD i 0):=lg (cJ F) (λc=>(df (cJ F)).idxOf c) hi;rw[e,Dr];rfl
 refine⟨λi hi=>by rw[dT _ (hr i hi),h.cl i hi],λp hp l1 l2=>Y9 hF (h.live hr l1) (h.live hr l2) (h.ap p hp l1 l2),?_,λx hx=>?_⟩
 .obtain⟨cs,s1,s2⟩:=h.sp;have AE:lO (wU (cJ F)).ow:=(hF.fg.rn (λ_ hp=>iz hp)).lf;refine⟨cs.map (jk (df F)),?_,?_⟩
  .have e1:((wU (cJ F)).ow).Perm (X.map (jk (df F))++cs.map (jk (df F))):=by
    show(F.ow.map (jk (df (cJ F)))).Perm _;rw[Dr,<-map_append];exact s1.map _
   exact(rt AE).trans e1
  .have:=pG (val:=val) (v':=λc=>(df F).idxOf (val c)) (g:=id) (ph:=λc=>(df F).idxOf c) (G:=jk (df F)) (λx=>⟨rfl,rfl,Iff.rfl⟩) (l:=V.ow) (λp hp=>⟨λh=>h,rfl,rfl⟩) s2;rw[map_id]at this;exact this
 .obtain⟨y,hy,rfl⟩:=mem_map.1 hx;obtain⟨e1,e2⟩:=h.nm y hy;rw[dT _ (by omega),dT 0 (by omega)];exact⟨by show(df F).idxOf y.l=_;rw[e1],by show(df F).idxOf y.r=_;rw[e2]⟩
end
section
variable {V T:CF} {b:Nat->Option Nat}
theorem Hw:∀{L:List Nat} {a e:Nat},Y2 V L a e->lY (L.map (λi=>V.ow.getD i ay)) a e
 |[],_,_,h=>h.elim
 |[i],_,_,h=>h
 |i::j::r,a,e,h=>⟨h.1,Hw (L:=j::r) h.2⟩
theorem CO:∀{ks fr:List Nat},jz V T b ks fr->mr (λc=>(b c).getD 0) (ks.map (λk=>T.ow.getD k ay)) (fr.map (λi=>V.ow.getD i ay))/\∀k∈ks,(b (T.ow.getD k ay).l).isSome=true/\(b (T.ow.getD k ay).r).isSome=true
 |[],fr,h=>by
  have h:fr=[]:=h;rw[h];exact⟨rfl,λk hk=>by simp at hk⟩
 |k::ks,fr,h=>by
  obtain⟨L,rest,h1,⟨a,e,h2,h3,h4⟩,h5,h6⟩:=h;obtain⟨g1,g2⟩:=CO h6;refine⟨⟨L.map (λi=>V.ow.getD i ay),rest.map (λi=>V.ow.getD i ay),?_,?_,λhk=>?_,g1⟩,λk' ED=>?_⟩
  .rw[<-map_append];exact h1.map _
  .show lY _ ((b (T.ow.getD k ay).l).getD 0) ((b (T.ow.getD k ay).r).getD 0);rw[h2,h3];exact Hw h4
  .obtain⟨i,rfl,hi⟩:=h5 hk;exact⟨_,rfl,hi⟩
  .rcases mem_cons.1 ED with rfl|ED
   .rw[h2,h3];exact⟨rfl,rfl⟩
   .exact g2 k' ED
theorem Fk{f g:CF}{w:Nat}(hg:aj g)(hw:Eg f g=true):∃val,cX (λi=>i) w f val [] g:=by
 unfold Eg at hw;rw[Bool.and_eq_true]at hw;obtain⟨-,hw⟩:=hw;cases nX:Ap f g [0,1,2,3,4] (replicate 24 none) with
 |none=>rw[nX]at hw;cases hw
 |some an =>
  rw[nX]at hw;obtain⟨g1,_,g3,_⟩:=NR (λi _=>hg.get i) (by decide) (by simp) nX;have EH:uP (beg f g an 128)=range g.ow.length:=by
   unfold uP beg;simp only[length_replicate];rw[filter_eq_self];intro k hk;have:=mem_range.1 hk;simp[getD_eq_getElem?_getD,this]
  have lQ:sX (beg f g an 128)=range f.ow.length:=by
   unfold sX beg;simp only[length_replicate];rw[filter_eq_self];intro k hk;have:=mem_range.1 hk;simp[getD_eq_getElem?_getD,this]
  have tj:Wf f g (beg f g an 128):=⟨by simp[beg],by simp[beg],g1,by rw[lQ];simp[beg]⟩;obtain⟨he,eJ,-,hdl⟩:=(BC hg.ow (Eh hg.ow _) _ _ tj (by rw[EH];simp) true (Mc f g an 128).2 (Prod.ext hw rfl)).2 rfl;rw[EH,lQ]at hdl;obtain⟨d1,d2⟩:=CO hdl;rw[qd,qd]at d1;have dT:∀i,i<5->(Mc f g an 128).2.b (g.cl.getD i 0)=some (f.cl.getD i 0):=λi hi=>he _ _ (g3 i (by simp;omega));have qK:∀c,c∈bL g->((Mc f g an 128).2.b c).isSome=true:=λc hc=>by
   rcases tt hc with⟨i,hi,rfl⟩|⟨p,hp,e⟩
   .rw[dT i hi];rfl
   .obtain⟨k,hk,rfl⟩:=mem_iff_getElem.1 hp;have:=d2 k (by simpa using hk);rw[bX hk]at this;rcases e with rfl|rfl
    .exact this.1
    .exact this.2
  refine⟨λc=>((Mc f g an 128).2.b c).getD 0,λi hi=>by rw[dT i hi];rfl,λp hp l1 l2=>?_,⟨f.ow,by simp,d1⟩,λx hx=>by simp at hx⟩;have:=all_eq_true.1 eJ p hp;simp only[Bool.and_eq_true,bne_iff_ne]at this;obtain⟨-,hx⟩:=this;obtain⟨a,ha⟩:=Option.isSome_iff_exists.1 (qK _ l1);obtain⟨c,hc⟩:=Option.isSome_iff_exists.1 (qK _ l2);rw[ha,hc]at hx;show aV f (((Mc f g an 128).2.b p.l).getD 0) (((Mc f g an 128).2.b p.r).getD 0)=true;rw[ha,hc];exact hx
end
def Sk(F:CF):Prop:=∀B:Nat->Prop,(∀i,i<5->B (F.cl.getD i 0))->(∀p∈F.ow,B p.l->B p.r)->∀p∈F.ow,B p.l
section
variable {cs cs':List (Int × Int)} {s:Nat->Int} {f g:CF} {val:Nat->Int}
theorem aa1(f:CF){i:Nat}(hi:i<5):f.cl.getD i 0<=qs f:=by
 have:i=0\/i=1\/i=2\/i=3\/i=4:=by omega
 unfold qs;rcases this with rfl|rfl|rfl|rfl|rfl <;> omega
theorem wE(f:CF){i:Nat}(hi:i<5):f.cl.getD i 0<aw f:=by
 have h1:=aa1 f hi;have h2:=(iV f.ow (qs f)).1;have h3:=(iV f.ap (rb (qs f) f.ow)).1;unfold aw;omega
theorem zx(f:CF){p:Pr}(hp:p∈f.ow):p.l<aw f/\p.r<aw f:=by
 have h2:=(iV f.ow (qs f)).2 p hp;have h3:=(iV f.ap (rb (qs f) f.ow)).1;unfold aw;omega
theorem Jg(f:CF){p:Pr}(hp:p∈f.ap):p.l<aw f/\p.r<aw f:=by
 have h3:=(iV f.ap (rb (qs f) f.ow)).2 p hp;unfold aw;omega
theorem gL(h5:f.cl.length=5){a b i:Nat}(hi:i<5):(mL f a b).cl.getD i 0=cM a b (f.cl.getD i 0):=by
 show(f.cl.map (cM a b)).getD i 0=_;simp[getD_eq_getElem?_getD,h5,hi]
theorem wZ(h5:f.cl.length=5){i j c:Nat}(hi:i<5):(setC f i c).cl.getD j 0=if i=j then c else f.cl.getD j 0:=by
 show(f.cl.set i c).getD j 0=_;exact dq _ _ _ _ _ (by omega)
theorem iW{l:List Pr}{i:Nat}(hi:i<l.length)(x:Pr):(l.set i x).Perm (x::iQ l i):=by
 have h1:=D7 hi x;have h2:=((LL hi).symm.trans (cU hi)).cons_inv;exact h1.trans (h2.cons x)
theorem nM{l:List Pr}{i:Nat}{p:Pr}(h:p∈iQ l i):p∈l:=(mo l i).subset h
theorem pJ{l:List Pr}{c i:Nat}(h:cD l c=some i):i<l.length/\(l.getD i ay).l=c:=eT h
theorem pI{c j:Nat}(h:cD g.ow c=some j):qp g c=j:=by unfold qp;rw[h];rfl
end
theorem Io{f:CF}(h:aj f)(k:Nat):aj (kk f k)/\(kk f k).ap=f.ap:=by
 refine⟨aj.mk' h.c5 h.cl' ?_ h.ap ?_ h.kd,rfl⟩
 .intro p hp;obtain⟨q,hq,rfl⟩:=mem_map.1 ((mo _ k).subset hp);unfold fo1;split
  .exact⟨(h.ow q hq).1,(h.oA k).2⟩
  .exact h.ow q hq
 .have hl:=h.lf;unfold lO at hl ⊢;refine List.Nodup.sublist ((mo _ k).map _) ?_;rw[map_map];have e:((λx:Pr=>x.l) ∘ fo1 (f.ow.getD k ay).l (f.ow.getD k ay).r)=(λx:Pr=>x.l):=by
   funext x;simp only[Function.comp,fo1];split <;> rfl
  rw[e];exact hl
theorem dp:∀(n:Nat) {f:CF},aj f->aj (eE n f)/\(eE n f).ap=f.ap
 |0,_,h=>⟨h,rfl⟩
 |n+1,f,h=>by
  unfold eE;split
  .exact⟨h,rfl⟩
  .rename_i k _;obtain⟨h1,h2⟩:=Io h k;obtain⟨g1,g2⟩:=dp n h1;exact⟨g1,g2.trans h2⟩
theorem Bb{c:Cd}{n:Nat}{f:CF}(h:Td f):Td (bH c n f):=by
 unfold bH;split
 .exact(dp _ h.ok).1.tidy
 .exact h
def qo(s:Sr):Prop:=∀l∈s.kn,∀e∈l,Td e.f
theorem qo.at{s:Sr}(h:qo s)(n:Nat):∀e∈bq s n,Td e.f:=by
 unfold bq;intro e he;by_cases hn:n<s.kn.length
 .rw[getD_eq_getElem?_getD,getElem?_eq_getElem hn]at he;exact h _ (getElem_mem hn) e he
 .rw[getD_eq_getElem?_getD,getElem?_eq_none (by omega)]at he;simp at he
theorem qo.set{s:Sr}(h:qo s)(n:Nat){l:List ig}(hl:∀e∈l,Td e.f):∀l'∈s.kn.set n l,∀e∈l',Td e.f:=by
 intro l' h' e he;rcases mem_or_eq_of_mem_set h' with h'|rfl
 .exact h l' h' e he
 .exact hl e he
theorem Bc{c:Cd}{n:Nat}{f:CF}{s:Sr}(hf:Td f)(h:qo s):qo (bu c n f s):=by
 unfold bu;split
 .exact h
 .show qo (sJ c (pW n (bH c n f) (oY c s _)));show ∀l∈(s.kn.set n _),_;refine h.set n (λe he=>?_);rcases mem_append.1 he with he|he
  .exact h.at n e (mem_filter.1 he).1
  .rw[mem_singleton]at he;subst he;exact Bb hf
theorem GR{f:CF}(h:aj f):Td (RV f) :=
 aj.tidy (aj.mk' h.c5 h.cl' (λp hp=>h.ow p (mem_filter.1 hp).1) h.ap (h.lf.sublist (filter_sublist.map _)) h.kd)
def bV(cs:List CF):Prop:=∀f∈cs,Td f
theorem Bl{f:CF}(h:aj f){a i:Nat}(ha:a<24)(hb:cD f.ow a=none):∀g∈eM f a i,aj g:=by
 intro g hg;unfold eM at hg;rcases mem_append.1 hg with hg|hg
 .split at hg
  .simp at hg
  .rename_i hd;rw[mem_singleton]at hg;subst hg;exact h.m1 (by simpa using hd)
 .split at hg
  .rw[mem_singleton]at hg;subst hg;exact h.m2 ha hb
  .simp at hg
theorem Ot{c:Cd}{r:List CF × Sr}{g:CF}(hr:bV r.1)(hg:aj g):bV (l7 c r g).1/\(l7 c r g).2.kn=r.2.kn/\(l7 c r g).2.wr=r.2.wr:=by
 unfold l7;split
 .refine⟨λf hf=>?_,rfl,rfl⟩;rcases mem_append.1 hf with hf|hf
  .exact hr f hf
  .rw[mem_singleton]at hf;subst hf;exact hg.tidy
 .exact⟨hr,rfl,rfl⟩
theorem Il{c:Cd}:∀(l:List CF) {r:List CF × Sr},bV r.1->(∀g∈l,aj g)->bV (l.foldl (l7 c) r).1/\(l.foldl (l7 c) r).2.kn=r.2.kn/\(l.foldl (l7 c) r).2.wr=r.2.wr
 |[],r,hr,_=>⟨hr,rfl,rfl⟩
 |g::l,r,hr,hl=>by
  obtain⟨h1,h2,h3⟩:=Ot (c:=c) hr (hl g (by simp));obtain⟨g1,g2,g3⟩:=Il l h1 (λx hx=>hl x (by simp[hx]));exact⟨g1,g2.trans h2,g3.trans h3⟩
theorem Zs{c:Cd}{f:CF}{i a:Nat}{r:List CF × Sr}(ha:a<24)(hf:aj f)(hr:bV r.1):bV (oS c f i r a).1/\(oS c f i r a).2.kn=r.2.kn/\(oS c f i r a).2.wr=r.2.wr:=by
 unfold oS;split
 .rename_i h;unfold Kp at h;simp only[Bool.and_eq_true,Bool.not_eq_true']at h;refine Il _ hr (Bl hf ha ?_);have:=h.2;cases hb:cD f.ow a with
  |none=>rfl
  |some j=>rw[hb]at this;simp at this
 .exact⟨hr,rfl,rfl⟩
theorem Im{c:Cd}{f:CF}{i:Nat}(hf:aj f):∀(l:List Nat) {r:List CF × Sr},(∀a∈l,a<24)->bV r.1->bV (l.foldl (oS c f i) r).1/\(l.foldl (oS c f i) r).2.kn=r.2.kn/\(l.foldl (oS c f i) r).2.wr=r.2.wr
 |[],r,_,hr=>⟨hr,rfl,rfl⟩
 |a::l,r,hl,hr=>by
  obtain⟨h1,h2,h3⟩:=Zs (c:=c) (i:=i) (hl a (by simp)) hf hr;obtain⟨g1,g2,g3⟩:=Im hf l (λx hx=>hl x (by simp[hx])) h1;exact⟨g1,g2.trans h2,g3.trans h3⟩
theorem T4{c:Cd}{f:CF}(hf:aj f){r:List CF × Sr}(i:Nat)(hr:bV r.1):bV (eU c f r i).1/\(eU c f r i).2.kn=r.2.kn/\(eU c f r i).2.wr=r.2.wr:=Im hf _ (λa ha=>mem_range.1 ha) hr
theorem CU{c:Cd}{f:CF}(hf:aj f):∀(l:List Nat) {r:List CF × Sr},bV r.1->bV (l.foldl (eU c f) r).1/\(l.foldl (eU c f) r).2.kn=r.2.kn/\(l.foldl (eU c f) r).2.wr=r.2.wr
 |[],r,hr=>⟨hr,rfl,rfl⟩
 |i::l,r,hr=>by
  obtain⟨h1,h2,h3⟩:=T4 (c:=c) hf i hr;obtain⟨g1,g2,g3⟩:=CU hf l h1;exact⟨g1,g2.trans h2,g3.trans h3⟩
theorem Og{c:Cd}{g:CF}(hg:Td g){r:List CF × Sr}{res:List CF}(hr:bV r.1)(hs:bV res):bV (ud c g r res).1/\bV (ud c g r res).2.1/\(ud c g r res).2.2.kn=r.2.kn/\(ud c g r res).2.2.wr=r.2.wr:=by
 have app:∀{x:CF},Td x->bV (res++[x]):=λhx f hf=>by
  rcases mem_append.1 hf with hf|hf
  .exact hs f hf
  .rw[mem_singleton]at hf;subst hf;exact hx
 unfold ud;split
 .exact⟨app hg,hr,rfl,rfl⟩
 .exact⟨app (GR hg.ok),CU hg.ok _ hr⟩
theorem kQ{c:Cd}:∀(n k:Nat) {res:List CF} {r:List CF × Sr},bV r.1->bV res->bV (ip c n k res r).1/\(ip c n k res r).2.kn=r.2.kn/\(ip c n k res r).2.wr=r.2.wr
 |0,k,res,r,_,hs=>⟨hs,rfl,rfl⟩
 |n+1,k,res,r,hr,hs=>by
  unfold ip;split
  .rename_i h;have hg:Td (r.1.getD k ⟨[],[],[]⟩):=by
    rw[getD_eq_getElem?_getD,getElem?_eq_getElem h.1];exact hr _ (getElem_mem h.1)
   obtain⟨h1,h2,h3,h4⟩:=Og (c:=c) hg hr hs;obtain⟨g1,g2,g3⟩:=kQ (c:=c) n (k+1) h2 h1;exact⟨g1,g2.trans h3,g3.trans h4⟩
  .exact⟨hs,rfl,rfl⟩
theorem IY{c:Cd}{n:Nat}:∀(l:List CF) {s:Sr},bV l->qo s->qo (l.foldl (λs g=>bu c n g s) s)
 |[],_,_,h=>h
 |g::l,s,hl,h=>IY l (λx hx=>hl x (by simp[hx])) (Bc (hl g (by simp)) h)
theorem M7{c:Cd}{fuel a b:Nat}{f:CF}{s:Sr}(hf:Td f)(h:qo s):qo (dU c fuel a b f s):=by
 unfold dU;split
 .exact Bc hf h
 .have h1:bV [f]:=λx hx=>by rw[mem_singleton]at hx;subst hx;exact hf
  obtain⟨g1,g2,-⟩:=kQ (c:=c) fuel 0 (r:=([f],kO a 2 s)) (res:=[]) h1 (λx hx=>by simp at hx);refine IY _ g1 ?_;unfold qo;rw[g2];exact h
theorem E5{c:Cd}{fuel a b:Nat}:∀(l:List CF) {s:Sr},bV l->qo s->qo (l.foldl (λs g=>dU c fuel a b g s) s)
 |[],_,_,h=>h
 |g::l,s,hl,h=>E5 l (λx hx=>hl x (by simp[hx])) (M7 (hl g (by simp)) h)
theorem qm(b:Bool)(n k:Nat)(s:Sr):(wrI b n k s).kn=s.kn:=by unfold wrI;split <;> rfl
theorem ab3{c:Cd}{fuel n:Nat}{f:CF}{s:Sr}(hv:(c.nds.getD n aI).v<4)(ha:(c.nds.getD n aI).ai<4)(hf:Td f)(h:qo s):qo (pm c fuel n f s):=by
 obtain⟨h1,h2⟩:=jG hv ha hf;unfold pm;refine E5 _ h2 (E5 _ h1 ?_);unfold qo;show ∀l∈(wrI _ n 4 (wrI _ n 3 (wrI _ n 2 s))).kn,_;rw[qm,qm,qm];exact h
