import Derived.Test.YtciihepbeacppaaGreatM10
namespace Go.Proofs.YtciihepbeacppaaGreat
open Go.RowKit List
set_option linter.unusedVariables false
structure MX where
 nx:List CF
 ot:List CF
 nu:Bool
 da:Bool
 fu:Bool
def wN:MX:=⟨[],[],false,false,false⟩
def clT(f:CF)(k i:Nat):Nat:=if k=1 then f.cl.getD (1+i) 0 else f.cl.getD 0 0
def setC(f:CF)(i c:Nat):CF:={ f with cl:=f.cl.set i c }
def mf(f:CF)(p:Pr):CF:={ f with ow:=f.ow++[p] }
def cg(f:CF)(a b:Nat):CF:={ f with ap:=f.ap++[⟨2,a,b⟩] }
def setO(f:CF)(i:Nat)(p:Pr):CF:={ f with ow:=f.ow.set i p }
def gZ(f:CF)(i:Nat):CF:={ f with ow:=iS f.ow i }
def owA(f:CF)(i:Nat):Pr:=f.ow.getD i ay
def fZ(f:CF)(c i:Nat):CF:=mM f (owA f i).l c
def dC(f:CF)(c i:Nat):CF:=mf (setO f i ⟨(owA f i).k,(owA f i).l,c⟩) ⟨4,c,(owA f i).r⟩
def eO(f:CF)(c i:Nat):List CF:=(if aV f c (owA f i).l=true then [] else [fZ f c i])++(if (owA f i).k=4 then [dC f c i] else [])
def gq(f:CF)(i:Nat):CF:=setO f i ⟨3,(owA f i).l,(owA f i).r⟩
def oS(f:CF)(c i:Nat):CF:=mf (setO f i ⟨3,c,aw f⟩) ⟨4,aw f,(owA f i).r⟩
def On(f:CF)(c i:Nat):List CF × Bool:=if (owA f i).k=3 then ([f],false) else if 24<=aw f then ([gq f i],true) else ([gq f i,oS f c i],false)
def gV(f:CF)(c:Nat):List CF × Bool:=match cE f.ow c with|none=>([],false)|some i=>On f c i
def Ci(r:List CF × Bool)(g:CF)(c:Nat):List CF × Bool:=(r.1++(gV g c).1,r.2||(gV g c).2)
def uE(f:CF)(v i:Nat)(r:List CF × Bool):List CF × Bool:=(eO f (f.cl.getD (1+v) 0) i).foldl (λr g=>Ci r g (g.cl.getD (1+v) 0)) r
def c9(f:CF)(v:Nat):List CF × Bool × Bool × Bool :=
 if f.cl.getD (1+v) 0=f.cl.getD 0 0 then ([],true,false,false)
 else if (cE f.ow (f.cl.getD (1+v) 0)).isSome=true then ((gV f (f.cl.getD (1+v) 0)).1,false,false,(gV f (f.cl.getD (1+v) 0)).2)
 else
  let r:=(range f.ow.length).foldl (λr i=>uE f v i r) ([],false)
  (r.1,!aV f (f.cl.getD (1+v) 0) (f.cl.getD 0 0),true,r.2)
def qp(f:CF)(c:Nat):Nat:=(cE f.ow c).getD 0
def fs(g:CF)(n:Nd):CF:=setC g (1+n.v) (owA g (qp g (g.cl.getD (1+n.ai) 0))).r
def ny(g:CF)(n:Nd):CF:=let i:=qp g (g.cl.getD (1+n.v) 0);setO g i ⟨(owA g i).k,(owA g i).l,clT g n.ak n.ai⟩
def l9(g:CF)(v:Nat):CF :=
 let c:=g.cl.getD (1+v) 0
 let t:=gZ g (qp g c)
 t.ow.foldl (λh p=>cg h c p.l) (cg t c (t.cl.getD 0 0))
def Ev(f:CF)(v:Nat):CF:=setC (mf f ⟨3,aw f,f.cl.getD 0 0⟩) (1+v) (aw f)
def bR(r:List CF × Bool × Bool × Bool)(g:CF->CF):MX:=⟨r.1.map (λx=>aQ (g x)),[],r.2.1,r.2.2.1,r.2.2.2⟩
def mu(f:CF)(n:Nd):List CF × List CF :=
 let a:=f.cl.getD (1+n.v) 0
 let b:=clT f n.ak n.ai
 (if aV f a b=true then [] else [aQ (mM f a b)],if a=b then [] else [aQ (cg f a b)])
def cn(n:Nd)(f:CF):MX :=
 if n.op=0 then wN
 else if n.op=1 then ⟨[aQ (setC f (1+n.v) (clT f n.ak n.ai))],[],false,false,false⟩
 else if n.op=2 then bR (c9 f n.ai) (λg=>fs g n)
 else if n.op=3 then bR (c9 f n.v) (λg=>ny g n)
 else if n.op=4 then (if 24<=aw f then ⟨[],[],false,false,true⟩ else ⟨[aQ (Ev f n.v)],[],false,false,false⟩)
 else if n.op=5 then bR (c9 f n.v) (λg=>l9 g n.v)
 else if n.op=7 then ⟨[aQ f],[aQ f],false,false,false⟩
 else if n.op=8 then ⟨(mu f n).1,(mu f n).2,false,false,false⟩
 else if n.op=9 then ⟨(mu f n).2,(mu f n).1,false,false,false⟩
 else ⟨[aQ f],[],false,false,false⟩
theorem gH{f:CF}{i:Nat}(hi:i<5):f.cl.getD i 0∈ko f:=by
 have:i=0\/i=1\/i=2\/i=3\/i=4:=by omega
 rcases this with rfl|rfl|rfl|rfl|rfl <;> simp[ko]
theorem ud{f:CF}(h5:f.cl.length=5):ko f=f.cl:=by
 match hc:f.cl,h5 with
 |[a,b,c,d,e],_=>simp[ko,hc]
theorem aj.mk'{f:CF}(c5:f.cl.length=5)(cl:∀c∈f.cl,c<24)(ow:∀p∈f.ow,p.l<24/\p.r<24)(ap:∀p∈f.ap,p.l<24/\p.r<24)(lf:lP f.ow)(kd:∀p∈f.ap,p.k=2):aj f:=⟨c5,by rw[ud c5];exact cl,ow,ap,lf,kd⟩
theorem aj.cl'{f:CF}(h:aj f):∀c∈f.cl,c<24:=by rw[<-ud h.c5];exact h.cl
theorem aj.get{f:CF}(h:aj f)(i:Nat):f.cl.getD i 0<24:=by
 by_cases hi:i<5
 .exact h.cl _ (gH hi)
 .rw[getD_eq_getElem?_getD,getElem?_eq_none (by have:=h.c5;omega)];decide
theorem aj.cT{f:CF}(h:aj f)(k i:Nat):clT f k i<24:=by unfold clT;split <;> exact h.get _
theorem aj.oA{f:CF}(h:aj f)(i:Nat):(owA f i).l<24/\(owA f i).r<24:=by
 unfold owA;by_cases hi:i<f.ow.length
 .exact h.ow _ (aY hi)
 .rw[getD_eq_getElem?_getD,getElem?_eq_none (by omega)];decide
theorem aj.sC{f:CF}(h:aj f)(i:Nat){c:Nat}(hc:c<24):aj (setC f i c):=by
 refine aj.mk' ?_ ?_ h.ow h.ap h.lf h.kd
 .simpa[setC] using h.c5
 .intro d hd;rcases mem_or_eq_of_mem_set hd with hd|rfl
  .exact h.cl' d hd
  .exact hc
theorem aj.ly{f:CF}(h:aj f){p:Pr}(h1:p.l<24)(h2:p.r<24)(hn:∀q∈f.ow,q.l≠p.l):aj (mf f p):=by
 refine aj.mk' h.c5 h.cl' ?_ h.ap ?_ h.kd
 .intro q hq;rcases mem_append.1 hq with hq|hq
  .exact h.ow q hq
  .rw[mem_singleton]at hq;subst hq;exact⟨h1,h2⟩
 .have hl:=h.lf;unfold lP at hl ⊢;show((f.ow++[p]).map (·.l)).Nodup;rw[map_append,nodup_append];refine⟨hl,by simp,?_⟩;intro a ha b hb e;obtain⟨q,hq,rfl⟩:=mem_map.1 ha;simp only[map_cons,map_nil,mem_singleton]at hb;exact hn q hq (e.trans hb)
theorem aj.pa{f:CF}(h:aj f){a b:Nat}(h1:a<24)(h2:b<24):aj (cg f a b):=by
 refine aj.mk' h.c5 h.cl' h.ow ?_ h.lf ?_
 .intro q hq;rcases mem_append.1 hq with hq|hq
  .exact h.ap q hq
  .rw[mem_singleton]at hq;subst hq;exact⟨h1,h2⟩
 .intro q hq;rcases mem_append.1 hq with hq|hq
  .exact h.kd q hq
  .rw[mem_singleton]at hq;subst hq;rfl
theorem wD{l:List Pr}{i:Nat}{p:Pr}(hp:i<l.length->p.l=(l.getD i ay).l):(l.set i p).map (·.l)=l.map (·.l):=by
 rw[map_set];by_cases hi:i<l.length
 .rw[hp hi,bY hi];conv=>rhs;rw[<-@List.set_getElem_self _ (l.map (·.l)) i (by simpa using hi)]
  simp
 .rw[set_eq_of_length_le (by simp;omega)]
theorem aj.sO{f:CF}(h:aj f){i:Nat}{p:Pr}(hl:i<f.ow.length->p.l=(f.ow.getD i ay).l)(h2:p.r<24)(h1:p.l<24):aj (setO f i p):=by
 refine aj.mk' h.c5 h.cl' ?_ h.ap ?_ h.kd
 .intro q hq;rcases mem_or_eq_of_mem_set hq with hq|rfl
  .exact h.ow q hq
  .exact⟨h1,h2⟩
 .have:=h.lf;unfold lP at this ⊢;show((f.ow.set i p).map (·.l)).Nodup;rw[wD hl];exact this
theorem mp(l:List Pr)(i:Nat):(iS l i).Sublist l:=by
 have e:l=(range l.length).map (λj=>l.getD j ay):=by
  refine ext_getElem (by simp) (λj h1 h2=>?_);rw[getElem_map,getElem_range,bY h1]
 unfold iS rz;conv=>rhs;rw[e]
 exact filter_sublist.map _
theorem aj.tk{f:CF}(h:aj f)(i:Nat):aj (gZ f i):=aj.mk' h.c5 h.cl' (λp hp=>h.ow p ((mp f.ow i).subset hp)) h.ap (h.lf.sublist ((mp f.ow i).map _)) h.kd
theorem wY{k g c:Nat}(h1:k<24)(h2:c<24):cN k g c<24:=by unfold cN;split <;> assumption
theorem aj.jo{f:CF}(h:aj f){a b:Nat}(ha:a<24)(aH:a=b\/(∀p∈f.ow,p.l≠a)\/∀p∈f.ow,p.l≠b):aj (mM f a b):=by
 refine aj.mk' ?_ ?_ ?_ ?_ ?_ ?_
 .show(f.cl.map _).length=5;simpa using h.c5
 .intro c hc;obtain⟨d,hd,rfl⟩:=mem_map.1 hc;exact wY ha (h.cl' d hd)
 .intro p hp;obtain⟨q,hq,rfl⟩:=mem_map.1 hp;exact⟨wY ha (h.ow q hq).1,wY ha (h.ow q hq).2⟩
 .intro p hp;obtain⟨q,hq,rfl⟩:=mem_map.1 hp;exact⟨wY ha (h.ap q hq).1,wY ha (h.ap q hq).2⟩
 .have hl:=h.lf;unfold lP at hl ⊢;show((f.ow.map (mm a b)).map (·.l)).Nodup;have e:((λx:Pr=>x.l) ∘ mm a b)=(cN a b) ∘ (λx:Pr=>x.l):=rfl;rw[map_map,e,<-map_map];unfold List.Nodup at hl ⊢;rw[pairwise_map];refine List.Pairwise.imp_of_mem ?_ hl;intro x y hx hy XO e2;obtain⟨p,hp,rfl⟩:=mem_map.1 hx;obtain⟨q,hq,rfl⟩:=mem_map.1 hy;unfold cN at e2;rcases aH with rfl|aH|aH
  .split at e2 <;> split at e2 <;> omega
  .have:=aH p hp;have:=aH q hq;split at e2 <;> split at e2 <;> omega
  .rw[if_neg (aH p hp),if_neg (aH q hq)]at e2;exact XO e2
 .intro p hp;obtain⟨q,hq,rfl⟩:=mem_map.1 hp;exact h.kd q hq
theorem pL:∀{l:List Pr} {c:Nat},cE l c=none->∀p∈l,p.l≠c
 |[],_,_,p,hp=>by simp at hp
 |q::r,c,h,p,hp=>by
  unfold cE at h;split at h
  .cases h
  .rename_i hq;rcases mem_cons.1 hp with rfl|hp
   .exact hq
   .exact pL (Option.map_eq_none_iff.1 h) p hp
theorem io{f:CF}{a b:Nat}(h:aV f a b=false):a=b\/(∀p∈f.ow,p.l≠a)\/∀p∈f.ow,p.l≠b:=by
 unfold aV at h;split at h
 .exact zq0 (by assumption)
 .rw[Bool.or_eq_false_iff]at h;have h2:=h.2;unfold mH at h2;right;cases ha:cE f.ow a with
  |none=>exact zq0 (pL ha)
  |some i =>
   cases hb:cE f.ow b with
   |none=>exact zq1 (pL hb)
   |some j=>rw[ha,hb]at h2;simp at h2
theorem iX:∀(l:List Pr) (m:Nat),m<=rb m l/\∀p∈l,p.l<=rb m l/\p.r<=rb m l
 |[],m=>⟨zq4 _,λp hp=>by simp at hp⟩
 |q::r,m=>by
  obtain⟨h1,h2⟩:=iX r (max (max m q.l) q.r);have e:rb m (q::r)=rb (max (max m q.l) q.r) r:=rfl;rw[e];refine⟨by omega,λp hp=>?_⟩;rcases mem_cons.1 hp with rfl|hp
  .exact⟨by omega,by omega⟩
  .exact h2 p hp
theorem Qo{f:CF}:∀q∈f.ow,q.l≠aw f:=by
 intro q hq;unfold aw;have h1:=((iX f.ow (qs f)).2 q hq).1;have h2:=(iX f.ap (rb (qs f) f.ow)).1;omega
theorem uG{f:CF}{i:Nat}(h:i<f.ow.length):owA f i∈f.ow:=aY h
theorem aj.m1{f:CF}(h:aj f){c i:Nat}(hd:aV f c (owA f i).l=false):aj (fZ f c i) :=
 h.jo (h.oA i).1 (by rcases io hd with e|e|e;exact zq0 e.symm;exact zq1 (zq1 e);exact zq1 (zq0 e))
theorem zL{f:CF}{i:Nat}{p q:Pr}(hl:i<f.ow.length->p.l=(f.ow.getD i ay).l)(hq:q∈(setO f i p).ow):∃q'∈f.ow,q'.l=q.l:=by
 have e:=wD hl;have h1:q.l∈(f.ow.set i p).map (·.l):=mem_map_of_mem (f:=(·.l)) hq;rw[e]at h1;obtain⟨q',h2,h3⟩:=mem_map.1 h1;exact⟨q',h2,h3⟩
theorem aj.m2{f:CF}(h:aj f){c i:Nat}(hc:c<24)(hb:cE f.ow c=none):aj (dC f c i):=by
 have h1:aj (setO f i ⟨(owA f i).k,(owA f i).l,c⟩):=h.sO (λ_=>rfl) hc (h.oA i).1;refine h1.ly hc (h.oA i).2 (λq hq e=>?_);obtain⟨q',h2,h3⟩:=zL (p:=⟨(owA f i).k,(owA f i).l,c⟩) (λ_=>rfl) hq;exact pL hb q' h2 (h3.trans e)
theorem aj.f1{f:CF}(h:aj f)(i:Nat):aj (gq f i):=h.sO (λ_=>rfl) (h.oA i).2 (h.oA i).1
theorem aj.f2{f:CF}(h:aj f){c i:Nat}(hi:cE f.ow c=some i)(hn:aw f<24):aj (oS f c i):=by
 obtain⟨g1,g2⟩:=eU hi;have dU:c<24:=by rw[<-g2];exact(h.oA i).1
 have h1:aj (setO f i ⟨3,c,aw f⟩):=h.sO (λ_=>g2.symm) hn dU;refine h1.ly hn (h.oA i).2 (λq hq e=>?_);obtain⟨q',h2,h3⟩:=zL (λ_=>g2.symm) hq;exact Qo q' h2 (h3.trans e)
theorem qx{l:List Pr}{c:Nat}:(cE l c).isSome=true↔∃p∈l,p.l=c:=by
 constructor
 .intro h;obtain⟨i,hi⟩:=Option.isSome_iff_exists.1 h;exact⟨_,uc hi,(eU hi).2⟩
 .rintro⟨p,hp,rfl⟩;cases h:cE l p.l with
  |none=>exact absurd rfl (pL h p hp)
  |some i=>rfl
structure rO(N v:Nat)(g:CF):Prop where
 ok:aj g
 ln:g.ap.length<=N
 bg:(cE g.ow (g.cl.getD (1+v) 0)).isSome=true
theorem D8{f:CF}{i:Nat}{p:Pr}{c:Nat}(hl:i<f.ow.length->p.l=(f.ow.getD i ay).l)(h:(cE f.ow c).isSome=true):(cE (setO f i p).ow c).isSome=true:=by
 rw[qx]at h ⊢;obtain⟨q,hq,rfl⟩:=h;have e:=wD hl;have h1:q.l∈f.ow.map (·.l):=mem_map_of_mem (f:=(·.l)) hq;rw[<-e]at h1;obtain⟨q',h2,h3⟩:=mem_map.1 h1;exact⟨q',h2,h3⟩
theorem Ok{N v:Nat}{g:CF}(h:rO N v g):∀x∈(gV g (g.cl.getD (1+v) 0)).1,rO N v x:=by
 intro x hx;unfold gV at hx;cases hb:cE g.ow (g.cl.getD (1+v) 0) with
 |none=>rw[hb]at hx;simp at hx
 |some i =>
  rw[hb]at hx;simp only[On]at hx;have h1:rO N v (gq g i):=⟨h.ok.f1 i,h.ln,D8 (p:=⟨3,(owA g i).l,(owA g i).r⟩) (λ_=>rfl) h.bg⟩;split at hx
  .simp only[mem_singleton]at hx;subst hx;exact h
  .split at hx
   .simp only[mem_singleton]at hx;subst hx;exact h1
   .rename_i hn;simp only[mem_cons,not_mem_nil,or_false]at hx;rcases hx with rfl|rfl
    .exact h1
    .refine⟨h.ok.f2 hb (by omega),h.ln,?_⟩;have:=D8 (f:=g) (i:=i) (p:=⟨3,g.cl.getD (1+v) 0,aw g⟩) (λ_=>(eU hb).2.symm) h.bg;rw[qx]at this ⊢;obtain⟨p,hp,e⟩:=this;exact⟨p,mem_append_left _ hp,e⟩
theorem Bq{N v:Nat}{f:CF}(hv:v<4)(h:aj f)(hl:f.ap.length<=N)(hb:cE f.ow (f.cl.getD (1+v) 0)=none){i:Nat}(hi:i<f.ow.length):∀x∈eO f (f.cl.getD (1+v) 0) i,rO N v x:=by
 intro x hx;unfold eO at hx;rcases mem_append.1 hx with hx|hx
 .split at hx
  .simp at hx
  .rename_i hd;simp only[mem_singleton]at hx;subst hx;refine⟨h.m1 (by simpa using hd),by simpa[fZ,mM] using hl,?_⟩;have e:(fZ f (f.cl.getD (1+v) 0) i).cl.getD (1+v) 0=(owA f i).l:=by
    show(f.cl.map _).getD (1+v) 0=_;have h5:=h.c5;rw[getD_eq_getElem?_getD,getElem?_map,getElem?_eq_getElem (by omega)];simp only[Option.map_some,Option.getD_some];unfold cN;rw[if_pos];rw[getD_eq_getElem?_getD,getElem?_eq_getElem (by omega)];rfl
   rw[e,qx];refine⟨mm (owA f i).l (f.cl.getD (1+v) 0) (owA f i),mem_map_of_mem (uG hi),?_⟩;show cN _ _ _=_;unfold cN;split <;> rfl
 .split at hx
  .simp only[mem_singleton]at hx;subst hx;refine⟨h.m2 (h.get _) hb,hl,?_⟩;rw[qx];exact⟨⟨4,f.cl.getD (1+v) 0,(owA f i).r⟩,mem_append_right _ (by simp),rfl⟩
  .simp at hx
theorem rY{α β:Type}{P:α->Prop}(g:List α × Bool->β->List α × Bool):∀(l:List β) (r:List α × Bool),(∀x∈r.1,P x)->(∀b∈l,∀r,(∀x∈r.1,P x)->∀x∈(g r b).1,P x)->∀x∈(l.foldl g r).1,P x
 |[],_,hr,_=>hr
 |b::l,r,hr,hg=>rY g l (g r b) (hg b (by simp) r hr) (λb' xQ=>hg b' (by simp[xQ]))
theorem jX{N v:Nat}{f:CF}(hv:v<4)(h:aj f)(hl:f.ap.length<=N):∀x∈(c9 f v).1,rO N v x:=by
 unfold c9;split
 .intro x hx;simp at hx
 .split
  .rename_i hb;exact Ok ⟨h,hl,hb⟩
  .rename_i hb;have xQ:cE f.ow (f.cl.getD (1+v) 0)=none:=(by simpa using hb);refine rY (P:=rO N v) _ _ _ (λx hx=>by simp at hx) ?_;intro i hi r hr;rw[mem_range]at hi;refine rY (P:=rO N v) _ _ _ hr ?_;intro g hg r hr x hx;rcases mem_append.1 hx with hx|hx
   .exact hr x hx
   .exact Ok (Bq hv h hl xQ hi g hg) x hx
theorem Jq:∀(l:List Pr) {g:CF} {c:Nat},aj g->c<24->(∀p∈l,p.l<24)->aj (l.foldl (λh p=>cg h c p.l) g)/\(l.foldl (λh p=>cg h c p.l) g).ap.length=g.ap.length+l.length
 |[],g,c,h,_,_=>⟨h,rfl⟩
 |p::r,g,c,h,hc,hl=>by
  obtain⟨h1,h2⟩:=Jq r (h.pa hc (hl p (by simp))) hc (λq hq=>hl q (by simp[hq]));refine⟨h1,?_⟩;rw[foldl_cons,h2];simp[cg];omega
theorem r7{N v:Nat}{g:CF}(h:rO N v g):aj (l9 g v)/\(l9 g v).ap.length<=N+25:=by
 have h1:=h.ok.tk (qp g (g.cl.getD (1+v) 0));have h2:=h1.pa (h.ok.get (1+v)) (h.ok.get 0);obtain⟨g1,g2⟩:=Jq (gZ g (qp g (g.cl.getD (1+v) 0))).ow h2 (h.ok.get (1+v)) (λp hp=>(h1.ow p hp).1);refine⟨g1,zq3 (Nat.le_of_eq g2) ?_⟩;have hl:=h1.owLen;have h3:=h.ln;show((g.ap++[_]).length+_:Nat)<=_;rw[length_append,length_singleton];omega
theorem Ax{N:Nat}{n:Nd}{g:CF}(h:rO N n.ai g):aj (fs g n)/\(fs g n).ap.length<=N:=⟨h.ok.sC _ (h.ok.oA _).2,h.ln⟩
theorem Gn{N:Nat}{n:Nd}{g:CF}(h:rO N n.v g):aj (ny g n)/\(ny g n).ap.length<=N:=⟨h.ok.sO (λ_=>rfl) (h.ok.cT _ _) (h.ok.oA _).1,h.ln⟩
theorem rS{f:CF}{v:Nat}(h:aj f)(hn:aw f<24):aj (Ev f v):=(h.ly (p:=⟨3,aw f,f.cl.getD 0 0⟩) hn (h.get 0) Qo).sC _ hn
structure Td(f:CF):Prop where
 ok:aj f
 ln:f.ap.length<=576
theorem aj.tidy{f:CF}(h:aj f):Td (aQ f):=⟨h.td,We h⟩
theorem sy{r:List CF × Bool × Bool × Bool}{g:CF->CF}(h:∀x∈r.1,aj (g x)):(∀x∈(bR r g).nx,Td x)/\∀x∈(bR r g).ot,Td x:=by
 refine⟨λx hx=>?_,λx hx=>by simp[bR]at hx⟩;obtain⟨y,hy,rfl⟩:=mem_map.1 hx;exact(h y hy).tidy
theorem Nz{f:CF}(h:aj f)(n:Nd):(∀x∈(mu f n).1,Td x)/\∀x∈(mu f n).2,Td x:=by
 constructor
 .intro x hx;simp only[mu]at hx;split at hx
  .simp at hx
  .rename_i hd;simp only[mem_singleton]at hx;subst hx;exact(h.jo (h.get _) (io (by simpa using hd))).tidy
 .intro x hx;simp only[mu]at hx;split at hx
  .simp at hx
  .simp only[mem_singleton]at hx;subst hx;exact(h.pa (h.get _) (h.cT _ _)).tidy
theorem jI{n:Nd}{f:CF}(hv:n.v<4)(ha:n.ai<4)(h:Td f):(∀x∈(cn n f).nx,Td x)/\∀x∈(cn n f).ot,Td x:=by
 have one:∀{g:CF},aj g->(∀x∈[aQ g],Td x):=λhg x hx=>by rw[mem_singleton]at hx;subst hx;exact hg.tidy
 have no:∀x∈([]:List CF),Td x:=λx hx=>by simp at hx
 unfold cn;split
 .exact⟨no,no⟩
 .split
  .exact⟨one (h.ok.sC _ (h.ok.cT _ _)),no⟩
  .split
   .exact sy (λx hx=>(Ax (jX ha h.ok h.ln x hx)).1)
   .split
    .exact sy (λx hx=>(Gn (jX hv h.ok h.ln x hx)).1)
    .split
     .split
      .exact⟨no,no⟩
      .exact⟨one (rS h.ok (by omega)),no⟩
     .split
      .exact sy (λx hx=>(r7 (jX hv h.ok h.ln x hx)).1)
      .split
       .exact⟨one h.ok,one h.ok⟩
       .split
        .exact Nz h.ok n
        .split
         .exact(Nz h.ok n).symm
         .exact⟨one h.ok,no⟩
def CT(f:CF)(i:Nat):Nat:=((range (i+1)).find? (λk=>f.cl.getD k 0==f.cl.getD i 0)).getD 0
def Cc(f:CF)(i:Nat):Nat:=match cE f.ow (f.cl.getD i 0) with|some j=>(owA f j).k|none=>0
def QQ(f:CF):Nat:=f.ow.countP (λp=>decide (p.k=3))
def Vg(f:CF):Nat:=f.ow.countP (λp=>!decide (p.k=3))
def roB(s t:CF):Bool:=!(decide (QQ s<QQ t)||decide (QQ s+Vg s<QQ t+Vg t))&&(decide (0<Vg t)||(decide (Vg s=0)&&decide (QQ s=QQ t)))
def I8(s t:CF)(i:Nat):Bool:=decide (CT s (CT t i)=CT s i)&&!(decide (Cc t i=3)&&!decide (Cc s i=3))&&!(decide (Cc t i=4)&&decide (Cc s i=0))
def SO(s t:CF):Bool:=I8 s t 0&&I8 s t 1&&I8 s t 2&&I8 s t 3&&I8 s t 4
def Ei(s t:CF):Bool:=roB s t&&SO s t&&(match As s t [0,1,2,3,4] (replicate 24 none) with|none=>false|some an=>(Me s t an 128).1)
structure ii where
 f:CF
 d:Bool
structure Sr where
 kn:List (List ii)
 wr:List (List Bool)
 lf:Int
 lo:Int
 fu:Bool
 ok:Bool
structure Cd where
 nds:List Nd
 hd:List Bool
 lp:Bool
 bd:Bool
def aI:Nd:=⟨0,0,0,0,0,0⟩
def sL(c:Cd)(s:Sr):Sr:={ s with lf:=wrap64 (s.lf-1),fu:=s.fu||(decide (wrap64 (s.lf-1)<0)&&c.bd) }
def oZ(c:Cd)(s:Sr)(n:Nat):Sr:={ s with lo:=wrap64 (s.lo-n),fu:=s.fu||(decide (wrap64 (s.lo-n)<0)&&c.bd) }
def br(s:Sr)(n:Nat):List ii:=s.kn.getD n []
def bI(c:Cd)(n:Nat)(f:CF):CF:=if c.hd.getD n false=true then aQ (Av f) else f
def tH:Nat:=1000000000000
def im:Nat:=900000
def pX(n:Nat)(g:CF)(s:Sr):Sr:={ s with ok:=s.ok&&decide ((br s n).length<=tH),kn:=s.kn.set n ((br s n).filter (λe=>!Ei e.f g)++[⟨g,false⟩]) }
def bz(c:Cd)(n:Nat)(f:CF)(s:Sr):Sr :=
 if (br s n).any (λe=>Ei (bI c n f) e.f)=true then { oZ c s (2*(br s n).length) with ok:=s.ok&&decide ((br s n).length<=tH) }
 else sL c (pX n (bI c n f) (oZ c s (2*(br s n).length)))
def dd(f:CF):List Nat:=(range f.ow.length).filter (λi=>!decide ((owA f i).l∈jz f))
def RX(f:CF):CF:=aQ { f with ow:=f.ow.filter (λp=>decide (p.l∈jz f)) }
def pi(a b:List Pr):Bool:=decide (a.length=b.length)&&(range a.length).all (λi=>DY (a.getD i ay) (b.getD i ay))
def Mz(f g:CF):Bool:=decide (ko f=ko g)&&pi f.ap g.ap&&pi f.ow g.ow
def XY(cs:List CF)(f:CF):Bool:=!cs.any (λg=>Mz f g)
def l8(c:Cd)(r:List CF × Sr)(g:CF):List CF × Sr:=if XY r.1 (aQ g)=true then (r.1++[aQ g],sL c { r.2 with ok:=r.2.ok&&decide (r.1.length<=im) }) else r
def Kr(f:CF)(a:Nat):Bool:=decide (a∈jz f)&&!decide (a=f.cl.getD 0 0)&&!(cE f.ow a).isSome
def oT(c:Cd)(f:CF)(i:Nat)(r:List CF × Sr)(a:Nat):List CF × Sr:=if Kr f a=true then (eO f a i).foldl (l8 c) r else r
def eW(c:Cd)(f:CF)(r:List CF × Sr)(i:Nat):List CF × Sr:=(range 24).foldl (oT c f i) r
def ug(c:Cd)(g:CF)(r:List CF × Sr)(res:List CF):List CF × List CF × Sr :=
 if dd g=[] then (res++[g],r) else (res++[RX g],(dd g).foldl (eW c g) r)
def iq(c:Cd):Nat->Nat->List CF->List CF × Sr->List CF × Sr
 |0,_,res,r=>(res,{ r.2 with ok:=false })
 |n+1,k,res,r=>if k<r.1.length/\r.2.fu=false then iq c n (k+1) (ug c (r.1.getD k ⟨[],[],[]⟩) r res).1 (ug c (r.1.getD k ⟨[],[],[]⟩) r res).2 else (res,r.2)
def kQ(n k:Nat)(s:Sr):Sr:={ s with wr:=s.wr.set n ((s.wr.getD n []).set k true) }
def dV(c:Cd)(fuel from_ to_:Nat)(f:CF)(s:Sr):Sr :=
 if c.lp=false\/dd f=[] then bz c to_ f s
 else
  let r:=iq c fuel 0 [] ([f],kQ from_ 2 s)
  r.1.foldl (λs g=>bz c to_ g s) r.2
def fuS(b:Bool)(s:Sr):Sr:={ s with fu:=s.fu||b }
def wrI(b:Bool)(n k:Nat)(s:Sr):Sr:=if b=true then kQ n k s else s
def po(c:Cd)(fuel:Nat)(n:Nat)(f:CF)(s:Sr):Sr :=
 let nd:=c.nds.getD n aI
 let o:=cn nd f
 let s1:=wrI (decide (nd.op=0)&&!decide (dd f=[])) n 2 s
 let s2:=fuS o.fu (wrI o.da n 4 (wrI o.nu n 3 s1))
 let s3:=o.nx.foldl (λs g=>dV c fuel n nd.nx g s) s2
 o.ot.foldl (λs g=>dV c fuel n nd.ot g s) s3
def nO(c:Cd)(fuel n:Nat):List CF->Sr->Sr
 |[],s=>s
 |f::r,s=>if s.fu=true then s else nO c fuel n r (po c fuel n f s)
def mI(l:List ii):List CF:=(l.filter (λe=>!e.d)).map (·.f)
def sQ(c:Cd)(fuel n:Nat)(s:Sr):Sr:=nO c fuel n (mI (br s n)) { s with kn:=s.kn.set n ((br s n).map (λe=>⟨e.f,true⟩)) }
def EP(s:Sr):Option Nat:=s.kn.findIdx? (λl=>l.any (λe=>!e.d))
def qg(c:Cd)(fuel:Nat):Nat->Sr->Sr
 |0,s=>{ s with ok:=false }
 |n+1,s=>match EP s with
  |none=>s
  |some k=>if s.fu=true then s else qg c fuel n (sQ c fuel k s)
def yp(al:List cj):Nat:=al.foldl (λm a=>let m1:=if a.lk=2/\m<=a.li then a.li+1 else m;if a.rk=2/\m1<=a.ri then a.ri+1 else m1) 0
def jb(nds:List Nd)(i:Nat):Bool:=decide ((nds.getD i aI).op=10)&&decide ((nds.getD i aI).nx<i)
def MA(nds:List Nd)(nv:Nat)(al:List cj):Bool :=
 !(range nds.length).any (jb nds)&&!al.any (λa=>decide (a.k=4)) &&
 decide (nds.countP (λn=>decide (n.op=7\/n.op=8\/n.op=9))<=5)&&decide (nds.countP (λn=>decide (n.op=4))<=4)&&decide (nv+yp al<=6)&&decide (nv+yp al+nds.countP (λn=>decide (n.op=4))<=8)
def Ml(nds:List Nd):List Bool:=(range nds.length).foldl (λh i=>if jb nds i=true then h.set (nds.getD i aI).nx true else h) (replicate nds.length false)
def mG(nds:List Nd)(nv:Nat)(al:List cj):Cd:=⟨nds,Ml nds,(range nds.length).any (jb nds),!MA nds nv al⟩
def nM(nds:List Nd):Sr:=⟨replicate nds.length [],replicate nds.length (replicate 5 false),3000,2097152,false,true⟩
def sX(f:CF)(nv:Nat):CF:={ f with cl:=(range 5).map (λi=>if nv<i then f.cl.getD 0 0 else f.cl.getD i 0) }
def ip(c:Cd)(fuel nv:Nat)(al:List cj)(s:Sr):Sr:=if gI (bX al)=true then s else dV c fuel (c.nds.length-1) 0 (aQ (sX (bX al) nv)) s
structure Rs where
 vd:Nat
 al:List (Nat × Nat)
 kn:List (List CF)
def Hl(wr:List (List Bool)):List (Nat × Nat):=(range wr.length).flatMap (λn=>([2,3,4].filter (λk=>(wr.getD n []).getD k false)).map (λk=>(n,k)))
def CB(s:Sr):Rs:=if s.fu=true then ⟨2,[],[]⟩ else ⟨if Hl s.wr=[] then 0 else 1,Hl s.wr,s.kn.map (λl=>l.map (·.f))⟩
section
variable {ad nx:List Int} {s:Nat->Int} {f g:CF}
theorem ll(f:CF)(G:Nat->Nat){i:Nat}(hi:i<5):((ko f).map G).getD i 0=G (f.cl.getD i 0):=by
 have:i=0\/i=1\/i=2\/i=3\/i=4:=by omega
 rcases this with rfl|rfl|rfl|rfl|rfl <;> rfl
theorem Wi(g:Pr->Pr)(l:List Pr)(i k:Nat)(hk:k<=l.length):rz (l.map g) i k=(rz l i k).map g:=by
 unfold rz;rw[map_map];apply map_congr_left;intro j hj;have hj2:=mem_range.1 (mem_filter.1 hj).1;have fU:j<l.length:=by omega
 simp[getD_eq_getElem?_getD,fU]
theorem JS(g:Pr->Pr)(l:List Pr)(i:Nat):iS (l.map g) i=(iS l i).map g:=by
 unfold iS;rw[length_map];exact Wi g l i l.length (zq4 _)
theorem qe(l:List Pr):(range l.length).map (λj=>l.getD j ay)=l:=by
 apply ext_getElem
 .simp
 .intro i h1 h2;simp only[getElem_map,getElem_range];exact bY h2
theorem cV{l:List Pr}{i:Nat}(hi:i<l.length):l.Perm (l.getD i ay::iS l i):=by
 have h1:(range l.length).Perm (i::(range l.length).filter (λj=>j != i)):=by
  have:=mW (p:=λ_=>true) (q:=λj=>j != i) (l:=range l.length) (i:=i) nodup_range (by simpa using hi) rfl (by simp) (λj hj=>by simpa using hj);rwa [filter_eq_self.2 (λ_ _=>rfl)]at this
 have h2:=h1.map (λj=>l.getD j ay);rw[qe]at h2;exact h2
theorem yY{l:List Pr}{P:Pr->Bool}(h:l.countP P=1):∃q R,l.Perm (q::R)/\P q=true/\∀x∈R,P x=false:=by
 obtain⟨q,hq,hp⟩:=countP_pos_iff.1 (show 0<l.countP P by omega);obtain⟨a,b,rfl⟩:=append_of_mem hq;rw[countP_append,countP_cons,hp]at h;simp only[if_true]at h;refine⟨q,a++b,perm_middle,hp,λx hx=>?_⟩;have h0:(a++b).countP P=0:=by rw[countP_append];omega
 have:=countP_eq_zero.1 h0 x hx;simpa using this
theorem JJ{p:Pr}(h:ES f p=true):SQ f p.l=false/\p.r≠p.l/\Ch f.ow p.l=1:=by
 unfold ES at h;simp only[Bool.and_eq_true,Bool.not_eq_true',Bool.or_eq_false_iff,decide_eq_true_eq,decide_eq_false_iff_not]at h;exact⟨h.1.1,h.1.2,h.2⟩
end
def lZ:List Pr->Nat->Nat->Prop
 |[],_,_=>False
 |[q],a,e=>q.l=a/\q.r=e
 |q::q'::r,a,e=>q.l=a/\lZ (q'::r) q.r e
def mt(val:Nat->Nat):List Pr->List Pr->Prop
 |[],cs=>cs=[]
 |p::r,cs=>∃q cs',cs.Perm (q++cs')/\lZ q (val p.l) (val p.r)/\(p.k≠4->∃x,q=[x]/\x.k≠4)/\mt val r cs'
structure cY(r:Nat->Nat)(w:Nat)(F:CF)(val:Nat->Nat)(X:List Pr)(V:CF):Prop where
 cl:∀i,i<5->val (V.cl.getD i 0)=F.cl.getD (r i) 0
 ap:∀p∈V.ap,p.l∈bM V->p.r∈bM V->aV F (val p.l) (val p.r)=true
 sp:∃cs,F.ow.Perm (X++cs)/\mt val V.ow cs
 nm:∀x∈X,x.l=F.cl.getD (1+w) 0/\x.r=F.cl.getD 0 0
section
variable {val:Nat->Nat} {cs cs':List Pr}
theorem l5{q:List Pr}{a e:Nat}(h:lZ q a e):∃x t,q=x::t/\x.l=a:=by
 cases q with
 |nil=>exact h.elim
 |cons x t =>
  refine⟨x,t,rfl,?_⟩;cases t with
  |nil=>exact h.1
  |cons y t=>exact h.1
theorem Ao:∀{q:List Pr} {a e:Nat},lZ q a e->∃x t,q=t++[x]/\x.r=e
 |[],_,_,h=>h.elim
 |[x],_,_,h=>⟨x,[],rfl,h.2⟩
 |x::y::t,a,e,h=>by
  obtain⟨z,u,h1,h2⟩:=Ao h.2;exact⟨z,x::u,by rw[h1];rfl,h2⟩
theorem vA{x:Pr}{q:List Pr}{e:Nat}(h:lZ q x.r e):lZ (x::q) x.l e:=by
 cases q with
 |nil=>exact h.elim
 |cons y t=>exact⟨rfl,h⟩
theorem Al:∀{q u:List Pr} {a b e:Nat},lZ q a b->lZ u b e->lZ (q++u) a e
 |[],_,_,_,_,h,_=>h.elim
 |[x],u,a,b,e,h,h'=>by
  obtain⟨rfl,rfl⟩:=h;exact vA h'
 |x::y::t,u,a,b,e,h,h'=>⟨h.1,Al h.2 h'⟩
theorem MY{a b:Pr}{r:List Pr}(h:mt val (a::b::r) cs):mt val (b::a::r) cs:=by
 obtain⟨q,c1,h1,h2,h3,u,c2,k1,k2,k3,k4⟩:=h;refine⟨u,q++c2,?_,k2,k3,q,c2,List.Perm.refl _,h2,h3,k4⟩;refine h1.trans ((k1.append_left q).trans ?_);rw[<-append_assoc,<-append_assoc];exact perm_append_comm.append_right c2
theorem cO{l l':List Pr}(h:l.Perm l'):∀{cs:List Pr},mt val l cs->mt val l' cs:=by
 induction h with
 |nil=>exact λh=>h
 |cons x _ ih =>
  rintro cs ⟨q,c,h1,h2,h3,h4⟩;exact⟨q,c,h1,h2,h3,ih h4⟩
 |swap x y t=>exact λh=>MY h
 |trans _ _ ih1 ih2=>exact λh=>ih2 (ih1 h)
theorem yM:∀{a b:List Pr} {cs:List Pr},mt val (a++b) cs->∃ca cb,cs.Perm (ca++cb)/\mt val a ca/\mt val b cb
 |[],b,cs,h=>⟨[],cs,List.Perm.refl _,rfl,h⟩
 |p::a,b,cs,h=>by
  obtain⟨q,c,h1,h2,h3,h4⟩:=h;obtain⟨ca,cb,k1,k2,k3⟩:=yM h4;exact⟨q++ca,cb,h1.trans (by rw[append_assoc];exact k1.append_left q),⟨q,ca,List.Perm.refl _,h2,h3,k2⟩,k3⟩
theorem pH{v':Nat->Nat}{g:Pr->Pr}{ph:Nat->Nat}{G:Pr->Pr}(hG:∀x,(G x).l=ph x.l/\(G x).r=ph x.r/\((G x).k=4↔x.k=4)):∀{l cs:List Pr},(∀p∈l,((g p).k≠4->p.k≠4)/\v' (g p).l=ph (val p.l)/\v' (g p).r=ph (val p.r))->mt val l cs->mt v' (l.map g) (cs.map G)
 |[],_,_,h=>by
  have h:_=[]:=h;rw[h];rfl
 |p::r,cs,hg,h=>by
  obtain⟨q,c,h1,h2,h3,h4⟩:=h;obtain⟨g1,g2,g3⟩:=hg p (by simp);have hc:∀{q:List Pr} {a e:Nat},lZ q a e->lZ (q.map G) (ph a) (ph e):=by
   intro q;induction q with
   |nil=>intro a e h;exact h.elim
   |cons x t ih =>
    intro a e h;cases t with
    |nil=>exact⟨by rw[(hG x).1,h.1],by rw[(hG x).2.1,h.2]⟩
    |cons y t =>
     refine⟨by rw[(hG x).1,h.1],?_⟩;have:=ih h.2;rw[<-(hG x).2.1]at this;exact this
  refine⟨q.map G,c.map G,?_,by rw[g2,g3];exact hc h2,λhk=>?_,pH hG (λp hp=>hg p (by simp[hp])) h4⟩
  .rw[<-map_append];exact h1.map G
  .obtain⟨x,rfl,hx⟩:=h3 (g1 hk);exact⟨G x,rfl,λe=>hx ((hG x).2.2.1 e)⟩
theorem yL{v':Nat->Nat}{l:List Pr}(h:∀p∈l,v' p.l=val p.l/\v' p.r=val p.r)(hs:mt val l cs):mt v' l cs:=by
 have:=pH (v':=v') (g:=id) (ph:=id) (G:=id) (λx=>⟨rfl,rfl,Iff.rfl⟩) (λp hp=>⟨λh=>h,h p hp⟩) hs;rwa [map_id,map_id]at this
theorem vp{l:List Pr}{p:Pr}(hp:p∈l)(h:mt val l cs):∃x∈cs,x.l=val p.l:=by
 induction l generalizing cs with
 |nil=>simp at hp
 |cons a r ih =>
  obtain⟨q,c,h1,h2,h3,h4⟩:=h;rcases mem_cons.1 hp with rfl|hp
  .obtain⟨x,t,rfl,hx⟩:=l5 h2;exact⟨x,h1.symm.subset (by simp),hx⟩
  .obtain⟨x,hx,he⟩:=ih hp h4;exact⟨x,h1.symm.subset (mem_append_right _ hx),he⟩
theorem Kc{l:List Pr}{i:Nat}(hi:i<l.length)(h:mt val l cs):mt val (l.getD i ay::iS l i) cs:=cO (cV hi) h
theorem Hx{v:Nat->Nat}:∀{q cq:List Pr} {a e:Nat},lZ q a e->mt v q cq->∃c,c.Perm cq/\lZ c (v a) (v e)
 |[],_,_,_,h,_=>h.elim
 |[x],cq,a,e,h,hs=>by
  obtain⟨rfl,rfl⟩:=h;obtain⟨u,c,h1,h2,-,h4⟩:=hs;have h4:c=[]:=h4;rw[h4,append_nil]at h1;exact⟨u,h1.symm,h2⟩
 |x::y::t,cq,a,e,h,hs=>by
  obtain⟨rfl,h'⟩:=h;obtain⟨u,c,h1,h2,-,h4⟩:=hs;obtain⟨c',k1,k2⟩:=Hx h' h4;exact⟨u++c',(k1.append_left u).trans h1.symm,Al h2 k2⟩
theorem yN{v1 v2:Nat->Nat}:∀{U V cs:List Pr},mt v2 U V->mt v1 V cs->mt (λc=>v1 (v2 c)) U cs
 |[],V,cs,h,h'=>by
  have h:V=[]:=h;rw[h]at h';exact h'
 |p::r,V,cs,h,h'=>by
  obtain⟨q,V',h1,h2,h3,h4⟩:=h;obtain⟨ca,cb,k1,k2,k3⟩:=yM (cO h1 h');obtain⟨c,e1,e2⟩:=Hx h2 k2;refine⟨c,cb,k1.trans (e1.symm.append_right cb),e2,λhk=>?_,yN h4 k3⟩;obtain⟨x,rfl,hx⟩:=h3 hk;obtain⟨u,c',j1,-,j3,j4⟩:=k2;obtain⟨y,rfl,hy⟩:=j3 hx;have j4:c'=[]:=j4;rw[j4,append_nil]at j1;exact⟨y,perm_singleton.1 (e1.trans j1),hy⟩
end
section
variable {r:Nat->Nat} {w:Nat} {F V U:CF} {val v2:Nat->Nat} {X:List Pr}
theorem uH{l l':List Pr}(h:lP l)(hp:l.Perm l'):lP l':=(hp.map _).nodup_iff.1 h
theorem aaU{l:List Pr}(h:lP l){x y:Pr}(hx:x∈l)(hy:y∈l)(e:x.l=y.l):x=y:=by
 obtain⟨i,h1,h2⟩:=pM h hx;obtain⟨j,h3,h4⟩:=pM h hy;rw[e]at h1;rw[h1]at h3;injection h3 with h3;rw[<-h2,<-h4,h3]
theorem qy{l:List Pr}{c:Nat}:(cE l c).isSome=true↔∃p∈l,p.l=c:=by
 constructor
 .intro h;obtain⟨i,hi⟩:=Option.isSome_iff_exists.1 h;exact⟨l.getD i ay,uc hi,(eU hi).2⟩
 .rintro⟨p,hp,e⟩;cases hb:cE l c with
  |some i=>rfl
  |none=>exact absurd e (pL hb p hp)
theorem fR{f:CF}{a b:Nat}:mH f a b=true↔((∃p∈f.ow,p.l=a)/\((∃p∈f.ow,p.l=b)\/b=f.cl.getD 0 0))\/((∃p∈f.ow,p.l=b)/\a=f.cl.getD 0 0):=by
 unfold mH;rw[Bool.or_eq_true,Bool.and_eq_true,Bool.and_eq_true,Bool.or_eq_true,qy,qy,beq_iff_eq,beq_iff_eq]
theorem b7{f:CF}{a b:Nat}:aV f a b=true↔a≠b/\((∃p∈f.ap,(p.l=a/\p.r=b)\/(p.l=b/\p.r=a))\/mH f a b=true):=by
 unfold aV;by_cases e:a=b
 .rw[if_pos e];constructor
  .intro h;cases h
  .rintro⟨h,-⟩;exact absurd e h
 .rw[if_neg e,Bool.or_eq_true,any_eq_true];constructor
  .rintro(⟨p,hp,h⟩|h)
   .refine⟨e,zq0 ⟨p,hp,?_⟩⟩;simpa using h
   .exact⟨e,zq1 h⟩
  .rintro⟨-,⟨p,hp,h⟩|h⟩
   .exact zq0 ⟨p,hp,by simpa using h⟩
   .exact zq1 h
theorem iE{f:CF}{a b:Nat}(h:aV f a b=true):aV f b a=true:=by
 rw[b7]at h ⊢;obtain⟨h1,h2⟩:=h;refine⟨h1.symm,?_⟩;rcases h2 with⟨p,hp,h2⟩|h2
 .exact zq0 ⟨p,hp,h2.symm⟩
 .right;rw[fR]at h2 ⊢;rcases h2 with⟨h3,h4|h4⟩|⟨h3,h4⟩
  .exact zq0 ⟨h4,zq0 h3⟩
  .exact zq1 ⟨h3,h4⟩
  .exact zq0 ⟨h3,zq1 h4⟩
theorem cY.head(h:cY r w F val X V){p:Pr}(hp:p∈V.ow):∃x∈F.ow,x.l=val p.l:=by
 obtain⟨cs,h1,h2⟩:=h.sp;obtain⟨x,hx,e⟩:=vp hp h2;exact⟨x,h1.symm.subset (mem_append_right _ hx),e⟩
theorem YP{l cs:List Pr}(hc:lP cs)(hl:lP l)(h:mt val l cs):∀p∈l,∀p'∈l,val p.l=val p'.l->p=p':=by
 induction l generalizing cs with
 |nil=>intro p hp;simp at hp
 |cons a l ih =>
  obtain⟨q,c,h1,h2,h3,h4⟩:=h;have vS:=uH hc h1;have hn:((q++c).map (·.l)).Nodup:=vS;rw[map_append]at hn;obtain⟨n1,n2,n3⟩:=nodup_append.1 hn;have yq:lP l:=(nodup_cons.1 hl).2;obtain⟨x,t,rfl,hx⟩:=l5 h2;have key:∀p∈l,val a.l≠val p.l:=λp hp e=>by
   obtain⟨y,hy,he⟩:=vp hp h4;exact n3 x.l (by simp) y.l (mem_map_of_mem (f:=(·.l)) hy) (by rw[hx,he,e])
  intro p hp p' IJ e;rcases mem_cons.1 hp with h5|h5 <;> rcases mem_cons.1 IJ with h6|h6
  .rw[h5,h6]
  .rw[h5]at e;exact absurd e (key p' h6)
  .rw[h6]at e;exact absurd e.symm (key p h5)
  .exact ih n2 yq h4 p h5 p' h6 e
theorem cY.dif(h:cY r w F val X V)(hF:lP F.ow)(hN:∀p∈F.ow,p.l≠F.cl.getD 0 0)(h0:r 0=0)(hV:lP V.ow)(hL:∀p∈V.ap,p.l∈bM V/\p.r∈bM V){a b:Nat}(hd:aV V a b=true):aV F (val a) (val b)=true:=by
 have c0:val (V.cl.getD 0 0)=F.cl.getD 0 0:=by rw[h.cl 0 (by omega),h0]
 obtain⟨h1,h2⟩:=b7.1 hd;rcases h2 with⟨p,hp,⟨rfl,rfl⟩|⟨rfl,rfl⟩⟩|h2
 .exact h.ap p hp (hL p hp).1 (hL p hp).2
 .exact iE (h.ap p hp (hL p hp).1 (hL p hp).2)
 .obtain⟨cs,s1,s2⟩:=h.sp;have De:lP cs:=by
   have:=uH hF s1;unfold lP at this ⊢;rw[map_append]at this;exact(nodup_append.1 this).2.1
  rw[b7,fR];rw[fR]at h2;rcases h2 with⟨⟨p,hp,rfl⟩,⟨p',IJ,rfl⟩|rfl⟩|⟨⟨p,hp,rfl⟩,rfl⟩
  .refine⟨λe=>?_,zq1 (zq0 ⟨h.head hp,zq0 (h.head IJ)⟩)⟩;exact h1 (by rw[YP De hV s2 p hp p' IJ e])
  .obtain⟨x,hx,ex⟩:=h.head hp;exact⟨λe=>hN x hx (by rw[ex,e,c0]),zq1 (zq0 ⟨⟨x,hx,ex⟩,zq1 c0⟩)⟩
  .obtain⟨x,hx,ex⟩:=h.head hp;exact⟨λe=>hN x hx (by rw[ex,<-e,c0]),zq1 (zq1 ⟨⟨x,hx,ex⟩,c0⟩)⟩
end
def Hf(f:CF):Prop:=∀p∈f.ap,p.l∈bM f/\p.r∈bM f
theorem de{f:CF}{p:Pr}(hp:p∈f.ow):p.l∈bM f/\p.r∈bM f:=⟨mem_append_right _ (mem_flatMap.2 ⟨p,hp,by simp⟩),mem_append_right _ (mem_flatMap.2 ⟨p,hp,by simp⟩)⟩
theorem qb{f:CF}{i:Nat}(hi:i<5):f.cl.getD i 0∈bM f:=mem_append_left _ (gH hi)
theorem tz{f:CF}{c:Nat}(h:c∈bM f):(∃i,i<5/\c=f.cl.getD i 0)\/∃p∈f.ow,c=p.l\/c=p.r:=by
 rcases mem_append.1 h with h|h
 .left;unfold ko at h;simp only[mem_cons,not_mem_nil,or_false]at h;rcases h with h|h|h|h|h
  .exact⟨0,by omega,h⟩
  .exact⟨1,by omega,h⟩
  .exact⟨2,by omega,h⟩
  .exact⟨3,by omega,h⟩
  .exact⟨4,by omega,h⟩
 .right;obtain⟨p,hp,h⟩:=mem_flatMap.1 h;exact⟨p,hp,by simpa using h⟩
theorem qc{f:CF}(hf:aj f):Hf (aQ f):=by
 intro p hp;obtain⟨q,hq,rfl⟩:=mem_map.1 (dH.1 (show p∈mn ((wX (cK f)).ap.map jf) from hp));obtain⟨u,hu,rfl⟩:=mem_map.1 (show q∈(cK f).ap.map (jm (dg (cK f))) from hq);have key:∀c,c∈bM (cK f)->(dg (cK f)).idxOf c∈bM (aQ f):=λc hc=>by
  rcases tz hc with⟨i,hi,rfl⟩|⟨x,hx,h⟩
  .have e:(aQ f).cl.getD i 0=(dg (cK f)).idxOf ((cK f).cl.getD i 0):=ll (cK f) (λc=>(dg (cK f)).idxOf c) hi;rw[<-e];exact qb hi
  .have hm:jm (dg (cK f)) x∈(aQ f).ow:=dH.2 (show jm (dg (cK f)) x∈(cK f).ow.map (jm (dg (cK f))) from mem_map.2 ⟨x,hx,rfl⟩);rcases h with rfl|rfl
   .exact(de hm).1
   .exact(de hm).2
 obtain⟨h1,h2⟩:=iB hu;have e:(jf (jm (dg (cK f)) u)).l∈bM (aQ f)/\(jf (jm (dg (cK f)) u)).r∈bM (aQ f):=by
  unfold jf;split
  .exact⟨key _ h2,key _ h1⟩
  .exact⟨key _ h1,key _ h2⟩
 exact e
section
variable {r:Nat->Nat} {w:Nat} {F V:CF} {val:Nat->Nat} {X:List Pr}
theorem cY.tdV(hV:aj V)(h:cY r w F val X V):∃val',cY r w F val' X (aQ V):=by
 have hf:=hV.fg;have iw:=lI hf.ow hf.cl hf.lf;have hv:∀c,c∈bM (cK V)->val ((dg (cK V)).getD ((dg (cK V)).idxOf c) 0)=val c:=λc hc=>by
  have hm:=iw c hc;rw[getD_eq_getElem?_getD,getElem?_eq_getElem (idxOf_lt_length_iff.2 hm)];simp
 refine⟨λn=>val ((dg (cK V)).getD n 0),λi hi=>?_,λp hp _ _=>?_,?_,h.nm⟩
 .have e:(aQ V).cl.getD i 0=(dg (cK V)).idxOf ((cK V).cl.getD i 0):=ll (cK V) (λc=>(dg (cK V)).idxOf c) hi;rw[e,hv _ (qb hi)];exact h.cl i hi
 .obtain⟨q,hq,rfl⟩:=mem_map.1 (dH.1 (show p∈mn ((wX (cK V)).ap.map jf) from hp));obtain⟨u,hu,rfl⟩:=mem_map.1 (show q∈(cK V).ap.map (jm (dg (cK V))) from hq);obtain⟨l1,l2⟩:=iB hu;have hd:=h.ap u (mem_filter.1 hu).1 l1 l2;rw[<-hv _ l1,<-hv _ l2]at hd;unfold jf;split
  .exact iE hd
  .exact hd
 .obtain⟨cs,s1,s2⟩:=h.sp;refine⟨cs,s1,?_⟩;have AH:lP (wX (cK V)).ow:=(hf.rn (λ_ hp=>iB hp)).lf;refine cO (ru AH).symm ?_;have:=pH (val:=val) (v':=λn=>val ((dg (cK V)).getD n 0)) (g:=jm (dg (cK V))) (ph:=id) (G:=id) (λx=>⟨rfl,rfl,Iff.rfl⟩) (l:=V.ow) (λp hp=>⟨λh=>h,hv _ (de (f:=cK V) hp).1,hv _ (de (f:=cK V) hp).2⟩) s2;rw[map_id]at this;exact this
theorem vn{l cs:List Pr}{p:Pr}(hp:p∈l)(h:mt val l cs):(∃x∈cs,x.l=val p.l)/\∃x∈cs,x.r=val p.r:=by
 refine⟨vp hp h,?_⟩;induction l generalizing cs with
 |nil=>simp at hp
 |cons a l ih =>
  obtain⟨q,c,h1,h2,h3,h4⟩:=h;rcases mem_cons.1 hp with rfl|hp
  .obtain⟨x,t,rfl,hx⟩:=Ao h2;exact⟨x,h1.symm.subset (by simp),hx⟩
  .obtain⟨x,hx,he⟩:=ih hp h4;exact⟨x,h1.symm.subset (mem_append_right _ hx),he⟩
theorem cY.live(hr:∀i,i<5->r i<5)(h:cY r w F val X V){c:Nat}(hc:c∈bM V):val c∈bM F:=by
 rcases tz hc with⟨i,hi,rfl⟩|⟨p,hp,e⟩
 .rw[h.cl i hi];exact qb (hr i hi)
 .obtain⟨cs,s1,s2⟩:=h.sp;obtain⟨⟨x,hx,ex⟩,y,hy,ey⟩:=vn hp s2;rcases e with rfl|rfl
  .rw[<-ex];exact(de (s1.symm.subset (mem_append_right _ hx))).1
  .rw[<-ey];exact(de (s1.symm.subset (mem_append_right _ hy))).2
theorem Zb(hF:aj F){a b:Nat}(ha:a∈bM F)(hb:b∈bM F)(h:aV F a b=true):aV (aQ F) ((dg F).idxOf a) ((dg F).idxOf b)=true:=by
 have Dt:=GG F;have iw:=lI hF.ow hF.cl hF.lf;obtain⟨h1,h2⟩:=b7.1 h;rw[b7];refine⟨λe=>h1 (AW (iw a ha) (iw b hb) e),?_⟩;have qM:∀q∈F.ow,∃y∈(aQ F).ow,y.l=(dg F).idxOf q.l:=λq hq=>⟨jm (dg (cK F)) q,dH.2 (show jm (dg (cK F)) q∈(cK F).ow.map (jm (dg (cK F))) from mem_map.2 ⟨q,hq,rfl⟩),by show(dg (cK F)).idxOf q.l=_;rw[Dt]⟩;have ED:(aQ F).cl.getD 0 0=(dg F).idxOf (F.cl.getD 0 0):=by
  have e:(aQ F).cl.getD 0 0=(dg (cK F)).idxOf ((cK F).cl.getD 0 0):=ll (cK F) (λc=>(dg (cK F)).idxOf c) (by omega);rw[e,Dt];rfl
 have afJ:mH F a b=true->mH (aQ F) ((dg F).idxOf a) ((dg F).idxOf b)=true:=λhc=>by
  rw[fR]at hc ⊢;rw[ED];rcases hc with⟨⟨p,hp,rfl⟩,⟨p',IJ,rfl⟩|rfl⟩|⟨⟨p,hp,rfl⟩,rfl⟩
  .exact zq0 ⟨qM p hp,zq0 (qM p' IJ)⟩
  .exact zq0 ⟨qM p hp,zq1 rfl⟩
  .exact zq1 ⟨qM p hp,rfl⟩
 rcases h2 with⟨p,hp,tj⟩|h2
 .by_cases hg:yh F p=true
  .left;have hm:jm (dg (cK F)) p∈(wX (cK F)).ap:=mem_map.2 ⟨p,mem_filter.2 ⟨hp,hg⟩,rfl⟩;refine⟨jf (jm (dg (cK F)) p),dH.2 (mem_map.2 ⟨_,hm,rfl⟩),?_⟩;have e1:(jm (dg (cK F)) p).l=(dg F).idxOf p.l:=(by show(dg (cK F)).idxOf p.l=_;rw[Dt]);have e2:(jm (dg (cK F)) p).r=(dg F).idxOf p.r:=(by show(dg (cK F)).idxOf p.r=_;rw[Dt]);unfold jf;rcases tj with⟨rfl,rfl⟩|⟨rfl,rfl⟩ <;> split
   .exact zq1 ⟨e2,e1⟩
   .exact zq0 ⟨e1,e2⟩
   .exact zq0 ⟨e2,e1⟩
   .exact zq1 ⟨e1,e2⟩
  .right;apply afJ;have zn:p.l∈bM F/\p.r∈bM F:=(by rcases tj with⟨rfl,rfl⟩|⟨rfl,rfl⟩;exact⟨ha,hb⟩;exact⟨hb,ha⟩);unfold yh at hg;rw[decide_eq_true zn.1,decide_eq_true zn.2]at hg;have hc:mH F p.l p.r=true:=(by simpa using hg);rcases tj with⟨rfl,rfl⟩|⟨rfl,rfl⟩
   .exact hc
   .rw[fR]at hc ⊢;rcases hc with⟨h3,h4|h4⟩|⟨h3,h4⟩
    .exact zq0 ⟨h4,zq0 h3⟩
    .exact zq1 ⟨h3,h4⟩
    .exact zq0 ⟨h3,zq1 h4⟩
 .exact zq1 (afJ h2)
theorem cY.tdF'(hr:∀i,i<5->r i<5)(hw:w<4)(hF:aj F)(h:cY r w F val X V):cY r w (aQ F) (λc=>(dg F).idxOf (val c)) (X.map (jm (dg F))) V:=by
 have Dt:=GG F;have dU:∀i,i<5->(aQ F).cl.getD i 0=(dg F).idxOf (F.cl.getD i 0):=λi hi=>by
  have e:(aQ F).cl.getD i 0=(dg (cK F)).idxOf ((cK F).cl.getD i 0):=ll (cK F) (λc=>(dg (cK F)).idxOf c) hi;rw[e,Dt];rfl
 refine⟨λi hi=>by rw[dU _ (hr i hi),h.cl i hi],λp hp l1 l2=>Zb hF (h.live hr l1) (h.live hr l2) (h.ap p hp l1 l2),?_,λx hx=>?_⟩
 .obtain⟨cs,s1,s2⟩:=h.sp;have AH:lP (wX (cK F)).ow:=(hF.fg.rn (λ_ hp=>iB hp)).lf;refine⟨cs.map (jm (dg F)),?_,?_⟩
  .have e1:((wX (cK F)).ow).Perm (X.map (jm (dg F))++cs.map (jm (dg F))):=by
    show(F.ow.map (jm (dg (cK F)))).Perm _;rw[Dt,<-map_append];exact s1.map _
   exact(ru AH).trans e1
  .have:=pH (val:=val) (v':=λc=>(dg F).idxOf (val c)) (g:=id) (ph:=λc=>(dg F).idxOf c) (G:=jm (dg F)) (λx=>⟨rfl,rfl,Iff.rfl⟩) (l:=V.ow) (λp hp=>⟨λh=>h,rfl,rfl⟩) s2;rw[map_id]at this;exact this
 .obtain⟨y,hy,rfl⟩:=mem_map.1 hx;obtain⟨e1,e2⟩:=h.nm y hy;rw[dU _ (by omega),dU 0 (by omega)];exact⟨by show(dg F).idxOf y.l=_;rw[e1],by show(dg F).idxOf y.r=_;rw[e2]⟩
end
section
variable {V T:CF} {b:Nat->Option Nat}
theorem Hy:∀{L:List Nat} {a e:Nat},Y4 V L a e->lZ (L.map (λi=>V.ow.getD i ay)) a e
 |[],_,_,h=>h.elim
 |[i],_,_,h=>h
 |i::j::r,a,e,h=>⟨h.1,Hy (L:=j::r) h.2⟩
theorem CQ:∀{ks fr:List Nat},jB V T b ks fr->mt (λc=>(b c).getD 0) (ks.map (λk=>T.ow.getD k ay)) (fr.map (λi=>V.ow.getD i ay))/\∀k∈ks,(b (T.ow.getD k ay).l).isSome=true/\(b (T.ow.getD k ay).r).isSome=true
 |[],fr,h=>by
  have h:fr=[]:=h;rw[h];exact⟨rfl,λk hk=>by simp at hk⟩
 |k::ks,fr,h=>by
  obtain⟨L,rest,h1,⟨a,e,h2,h3,h4⟩,h5,h6⟩:=h;obtain⟨g1,g2⟩:=CQ h6;refine⟨⟨L.map (λi=>V.ow.getD i ay),rest.map (λi=>V.ow.getD i ay),?_,?_,λhk=>?_,g1⟩,λk' EF=>?_⟩
  .rw[<-map_append];exact h1.map _
  .show lZ _ ((b (T.ow.getD k ay).l).getD 0) ((b (T.ow.getD k ay).r).getD 0);rw[h2,h3];exact Hy h4
  .obtain⟨i,rfl,hi⟩:=h5 hk;exact⟨_,rfl,hi⟩
  .rcases mem_cons.1 EF with rfl|EF
   .rw[h2,h3];exact⟨rfl,rfl⟩
   .exact g2 k' EF
theorem Fp{f g:CF}{w:Nat}(hg:aj g)(hw:Ei f g=true):∃val,cY (λi=>i) w f val [] g:=by
 unfold Ei at hw;rw[Bool.and_eq_true]at hw;obtain⟨-,hw⟩:=hw;cases nY:As f g [0,1,2,3,4] (replicate 24 none) with
 |none=>rw[nY]at hw;cases hw
 |some an =>
  rw[nY]at hw;obtain⟨g1,_,g3,_⟩:=NT (λi _=>hg.get i) (by decide) (by simp) nY;have EJ:uP (beg f g an 128)=range g.ow.length:=by
   unfold uP beg;simp only[length_replicate];rw[filter_eq_self];intro k hk;have:=mem_range.1 hk;simp[getD_eq_getElem?_getD,this]
  have lR:sZ (beg f g an 128)=range f.ow.length:=by
   unfold sZ beg;simp only[length_replicate];rw[filter_eq_self];intro k hk;have:=mem_range.1 hk;simp[getD_eq_getElem?_getD,this]
  have tq:Wf f g (beg f g an 128):=⟨by simp[beg],by simp[beg],g1,by rw[lR];simp[beg]⟩;obtain⟨he,eK,-,hdl⟩:=(BF hg.ow (Ej hg.ow _) _ _ tq (by rw[EJ];simp) true (Me f g an 128).2 (Prod.ext hw rfl)).2 rfl;rw[EJ,lR]at hdl;obtain⟨d1,d2⟩:=CQ hdl;rw[qe,qe]at d1;have dU:∀i,i<5->(Me f g an 128).2.b (g.cl.getD i 0)=some (f.cl.getD i 0):=λi hi=>he _ _ (g3 i (by simp;omega));have qK:∀c,c∈bM g->((Me f g an 128).2.b c).isSome=true:=λc hc=>by
   rcases tz hc with⟨i,hi,rfl⟩|⟨p,hp,e⟩
   .rw[dU i hi];rfl
   .obtain⟨k,hk,rfl⟩:=mem_iff_getElem.1 hp;have:=d2 k (by simpa using hk);rw[bY hk]at this;rcases e with rfl|rfl
    .exact this.1
    .exact this.2
  refine⟨λc=>((Me f g an 128).2.b c).getD 0,λi hi=>by rw[dU i hi];rfl,λp hp l1 l2=>?_,⟨f.ow,by simp,d1⟩,λx hx=>by simp at hx⟩;have:=all_eq_true.1 eK p hp;simp only[Bool.and_eq_true,bne_iff_ne]at this;obtain⟨-,hx⟩:=this;obtain⟨a,ha⟩:=Option.isSome_iff_exists.1 (qK _ l1);obtain⟨c,hc⟩:=Option.isSome_iff_exists.1 (qK _ l2);rw[ha,hc]at hx;show aV f (((Me f g an 128).2.b p.l).getD 0) (((Me f g an 128).2.b p.r).getD 0)=true;rw[ha,hc];exact hx
end
def Sm(F:CF):Prop:=∀B:Nat->Prop,(∀i,i<5->B (F.cl.getD i 0))->(∀p∈F.ow,B p.l->B p.r)->∀p∈F.ow,B p.l
section
variable {cs cs':List (Int × Int)} {s:Nat->Int} {f g:CF} {val:Nat->Int}
theorem aa3(f:CF){i:Nat}(hi:i<5):f.cl.getD i 0<=qs f:=by
 have:i=0\/i=1\/i=2\/i=3\/i=4:=by omega
 unfold qs;rcases this with rfl|rfl|rfl|rfl|rfl <;> omega
theorem wH(f:CF){i:Nat}(hi:i<5):f.cl.getD i 0<aw f:=by
 have h1:=aa3 f hi;have h2:=(iX f.ow (qs f)).1;have h3:=(iX f.ap (rb (qs f) f.ow)).1;unfold aw;omega
theorem zA(f:CF){p:Pr}(hp:p∈f.ow):p.l<aw f/\p.r<aw f:=by
 have h2:=(iX f.ow (qs f)).2 p hp;have h3:=(iX f.ap (rb (qs f) f.ow)).1;unfold aw;omega
theorem Ji(f:CF){p:Pr}(hp:p∈f.ap):p.l<aw f/\p.r<aw f:=by
 have h3:=(iX f.ap (rb (qs f) f.ow)).2 p hp;unfold aw;omega
theorem gM(h5:f.cl.length=5){a b i:Nat}(hi:i<5):(mM f a b).cl.getD i 0=cN a b (f.cl.getD i 0):=by
 show(f.cl.map (cN a b)).getD i 0=_;simp[getD_eq_getElem?_getD,h5,hi]
theorem xg(h5:f.cl.length=5){i j c:Nat}(hi:i<5):(setC f i c).cl.getD j 0=if i=j then c else f.cl.getD j 0:=by
 show(f.cl.set i c).getD j 0=_;exact du _ _ _ _ _ (by omega)
theorem iY{l:List Pr}{i:Nat}(hi:i<l.length)(x:Pr):(l.set i x).Perm (x::iS l i):=by
 have h1:=D9 hi x;have h2:=((LN hi).symm.trans (cV hi)).cons_inv;exact h1.trans (h2.cons x)
theorem nN{l:List Pr}{i:Nat}{p:Pr}(h:p∈iS l i):p∈l:=(mp l i).subset h
theorem pK{l:List Pr}{c i:Nat}(h:cE l c=some i):i<l.length/\(l.getD i ay).l=c:=eU h
theorem pJ{c j:Nat}(h:cE g.ow c=some j):qp g c=j:=by unfold qp;rw[h];rfl
end
theorem Iq{f:CF}(h:aj f)(k:Nat):aj (kq f k)/\(kq f k).ap=f.ap:=by
 refine⟨aj.mk' h.c5 h.cl' ?_ h.ap ?_ h.kd,rfl⟩
 .intro p hp;obtain⟨q,hq,rfl⟩:=mem_map.1 ((mp _ k).subset hp);unfold fo1;split
  .exact⟨(h.ow q hq).1,(h.oA k).2⟩
  .exact h.ow q hq
 .have hl:=h.lf;unfold lP at hl ⊢;refine List.Nodup.sublist ((mp _ k).map _) ?_;rw[map_map];have e:((λx:Pr=>x.l) ∘ fo1 (f.ow.getD k ay).l (f.ow.getD k ay).r)=(λx:Pr=>x.l):=by
   funext x;simp only[Function.comp,fo1];split <;> rfl
  rw[e];exact hl
theorem dq:∀(n:Nat) {f:CF},aj f->aj (eH n f)/\(eH n f).ap=f.ap
 |0,_,h=>⟨h,rfl⟩
 |n+1,f,h=>by
  unfold eH;split
  .exact⟨h,rfl⟩
  .rename_i k _;obtain⟨h1,h2⟩:=Iq h k;obtain⟨g1,g2⟩:=dq n h1;exact⟨g1,g2.trans h2⟩
theorem Be{c:Cd}{n:Nat}{f:CF}(h:Td f):Td (bI c n f):=by
 unfold bI;split
 .exact(dq _ h.ok).1.tidy
 .exact h
def qo(s:Sr):Prop:=∀l∈s.kn,∀e∈l,Td e.f
theorem qo.at{s:Sr}(h:qo s)(n:Nat):∀e∈br s n,Td e.f:=by
 unfold br;intro e he;by_cases hn:n<s.kn.length
 .rw[getD_eq_getElem?_getD,getElem?_eq_getElem hn]at he;exact h _ (getElem_mem hn) e he
 .rw[getD_eq_getElem?_getD,getElem?_eq_none (by omega)]at he;simp at he
theorem qo.set{s:Sr}(h:qo s)(n:Nat){l:List ii}(hl:∀e∈l,Td e.f):∀l'∈s.kn.set n l,∀e∈l',Td e.f:=by
 intro l' h' e he;rcases mem_or_eq_of_mem_set h' with h'|rfl
 .exact h l' h' e he
 .exact hl e he
theorem Bf{c:Cd}{n:Nat}{f:CF}{s:Sr}(hf:Td f)(h:qo s):qo (bz c n f s):=by
 unfold bz;split
 .exact h
 .show qo (sL c (pX n (bI c n f) (oZ c s _)));show ∀l∈(s.kn.set n _),_;refine h.set n (λe he=>?_);rcases mem_append.1 he with he|he
  .exact h.at n e (mem_filter.1 he).1
  .rw[mem_singleton]at he;subst he;exact Be hf
theorem GT{f:CF}(h:aj f):Td (RX f) :=
 aj.tidy (aj.mk' h.c5 h.cl' (λp hp=>h.ow p (mem_filter.1 hp).1) h.ap (h.lf.sublist (filter_sublist.map _)) h.kd)
def bW(cs:List CF):Prop:=∀f∈cs,Td f
theorem Bo{f:CF}(h:aj f){a i:Nat}(ha:a<24)(hb:cE f.ow a=none):∀g∈eO f a i,aj g:=by
 intro g hg;unfold eO at hg;rcases mem_append.1 hg with hg|hg
 .split at hg
  .simp at hg
  .rename_i hd;rw[mem_singleton]at hg;subst hg;exact h.m1 (by simpa using hd)
 .split at hg
  .rw[mem_singleton]at hg;subst hg;exact h.m2 ha hb
  .simp at hg
theorem Ov{c:Cd}{r:List CF × Sr}{g:CF}(hr:bW r.1)(hg:aj g):bW (l8 c r g).1/\(l8 c r g).2.kn=r.2.kn/\(l8 c r g).2.wr=r.2.wr:=by
 unfold l8;split
 .refine⟨λf hf=>?_,rfl,rfl⟩;rcases mem_append.1 hf with hf|hf
  .exact hr f hf
  .rw[mem_singleton]at hf;subst hf;exact hg.tidy
 .exact⟨hr,rfl,rfl⟩
theorem In{c:Cd}:∀(l:List CF) {r:List CF × Sr},bW r.1->(∀g∈l,aj g)->bW (l.foldl (l8 c) r).1/\(l.foldl (l8 c) r).2.kn=r.2.kn/\(l.foldl (l8 c) r).2.wr=r.2.wr
 |[],r,hr,_=>⟨hr,rfl,rfl⟩
 |g::l,r,hr,hl=>by
  obtain⟨h1,h2,h3⟩:=Ov (c:=c) hr (hl g (by simp));obtain⟨g1,g2,g3⟩:=In l h1 (λx hx=>hl x (by simp[hx]));exact⟨g1,g2.trans h2,g3.trans h3⟩
theorem Zu{c:Cd}{f:CF}{i a:Nat}{r:List CF × Sr}(ha:a<24)(hf:aj f)(hr:bW r.1):bW (oT c f i r a).1/\(oT c f i r a).2.kn=r.2.kn/\(oT c f i r a).2.wr=r.2.wr:=by
 unfold oT;split
 .rename_i h;unfold Kr at h;simp only[Bool.and_eq_true,Bool.not_eq_true']at h;refine In _ hr (Bo hf ha ?_);have:=h.2;cases hb:cE f.ow a with
  |none=>rfl
  |some j=>rw[hb]at this;simp at this
 .exact⟨hr,rfl,rfl⟩
theorem Io{c:Cd}{f:CF}{i:Nat}(hf:aj f):∀(l:List Nat) {r:List CF × Sr},(∀a∈l,a<24)->bW r.1->bW (l.foldl (oT c f i) r).1/\(l.foldl (oT c f i) r).2.kn=r.2.kn/\(l.foldl (oT c f i) r).2.wr=r.2.wr
 |[],r,_,hr=>⟨hr,rfl,rfl⟩
 |a::l,r,hl,hr=>by
  obtain⟨h1,h2,h3⟩:=Zu (c:=c) (i:=i) (hl a (by simp)) hf hr;obtain⟨g1,g2,g3⟩:=Io hf l (λx hx=>hl x (by simp[hx])) h1;exact⟨g1,g2.trans h2,g3.trans h3⟩
theorem T6{c:Cd}{f:CF}(hf:aj f){r:List CF × Sr}(i:Nat)(hr:bW r.1):bW (eW c f r i).1/\(eW c f r i).2.kn=r.2.kn/\(eW c f r i).2.wr=r.2.wr:=Io hf _ (λa ha=>mem_range.1 ha) hr
theorem CW{c:Cd}{f:CF}(hf:aj f):∀(l:List Nat) {r:List CF × Sr},bW r.1->bW (l.foldl (eW c f) r).1/\(l.foldl (eW c f) r).2.kn=r.2.kn/\(l.foldl (eW c f) r).2.wr=r.2.wr
 |[],r,hr=>⟨hr,rfl,rfl⟩
 |i::l,r,hr=>by
  obtain⟨h1,h2,h3⟩:=T6 (c:=c) hf i hr;obtain⟨g1,g2,g3⟩:=CW hf l h1;exact⟨g1,g2.trans h2,g3.trans h3⟩
theorem Oi{c:Cd}{g:CF}(hg:Td g){r:List CF × Sr}{res:List CF}(hr:bW r.1)(hs:bW res):bW (ug c g r res).1/\bW (ug c g r res).2.1/\(ug c g r res).2.2.kn=r.2.kn/\(ug c g r res).2.2.wr=r.2.wr:=by
 have app:∀{x:CF},Td x->bW (res++[x]):=λhx f hf=>by
  rcases mem_append.1 hf with hf|hf
  .exact hs f hf
  .rw[mem_singleton]at hf;subst hf;exact hx
 unfold ug;split
 .exact⟨app hg,hr,rfl,rfl⟩
 .exact⟨app (GT hg.ok),CW hg.ok _ hr⟩
theorem kT{c:Cd}:∀(n k:Nat) {res:List CF} {r:List CF × Sr},bW r.1->bW res->bW (iq c n k res r).1/\(iq c n k res r).2.kn=r.2.kn/\(iq c n k res r).2.wr=r.2.wr
 |0,k,res,r,_,hs=>⟨hs,rfl,rfl⟩
 |n+1,k,res,r,hr,hs=>by
  unfold iq;split
  .rename_i h;have hg:Td (r.1.getD k ⟨[],[],[]⟩):=by
    rw[getD_eq_getElem?_getD,getElem?_eq_getElem h.1];exact hr _ (getElem_mem h.1)
   obtain⟨h1,h2,h3,h4⟩:=Oi (c:=c) hg hr hs;obtain⟨g1,g2,g3⟩:=kT (c:=c) n (k+1) h2 h1;exact⟨g1,g2.trans h3,g3.trans h4⟩
  .exact⟨hs,rfl,rfl⟩
theorem I0{c:Cd}{n:Nat}:∀(l:List CF) {s:Sr},bW l->qo s->qo (l.foldl (λs g=>bz c n g s) s)
 |[],_,_,h=>h
 |g::l,s,hl,h=>I0 l (λx hx=>hl x (by simp[hx])) (Bf (hl g (by simp)) h)
theorem M9{c:Cd}{fuel a b:Nat}{f:CF}{s:Sr}(hf:Td f)(h:qo s):qo (dV c fuel a b f s):=by
 unfold dV;split
 .exact Bf hf h
 .have h1:bW [f]:=λx hx=>by rw[mem_singleton]at hx;subst hx;exact hf
  obtain⟨g1,g2,-⟩:=kT (c:=c) fuel 0 (r:=([f],kQ a 2 s)) (res:=[]) h1 (λx hx=>by simp at hx);refine I0 _ g1 ?_;unfold qo;rw[g2];exact h
theorem E7{c:Cd}{fuel a b:Nat}:∀(l:List CF) {s:Sr},bW l->qo s->qo (l.foldl (λs g=>dV c fuel a b g s) s)
 |[],_,_,h=>h
 |g::l,s,hl,h=>E7 l (λx hx=>hl x (by simp[hx])) (M9 (hl g (by simp)) h)
theorem qm(b:Bool)(n k:Nat)(s:Sr):(wrI b n k s).kn=s.kn:=by unfold wrI;split <;> rfl
theorem ab5{c:Cd}{fuel n:Nat}{f:CF}{s:Sr}(hv:(c.nds.getD n aI).v<4)(ha:(c.nds.getD n aI).ai<4)(hf:Td f)(h:qo s):qo (po c fuel n f s):=by
 obtain⟨h1,h2⟩:=jI hv ha hf;unfold po;refine E7 _ h2 (E7 _ h1 ?_);unfold qo;show ∀l∈(wrI _ n 4 (wrI _ n 3 (wrI _ n 2 s))).kn,_;rw[qm,qm,qm];exact h
