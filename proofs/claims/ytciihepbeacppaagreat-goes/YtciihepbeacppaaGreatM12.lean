import Derived.Test.YtciihepbeacppaaGreatM11
namespace Go.Proofs.YtciihepbeacppaaGreat
open Go.RowKit List
set_option linter.unusedVariables false
theorem rt{l:List Pr}{c:Nat}:(dJ l c).isSome=true↔∃p∈l,p.l=c:=by
 constructor
 .intro h;obtain⟨i,hi⟩:=Option.isSome_iff_exists.1 h;exact⟨_,xV hi,(eW hi).2⟩
 .rintro⟨p,hp,rfl⟩;cases h:dJ l p.l with
  |none=>exact absurd rfl (pB h p hp)
  |some i=>rfl
structure pz(N v:Nat)(g:CF):Prop where
 ok:au g
 ln:g.ap.length<=N
 bg:(dJ g.ow (g.cl.getD (1+v) 0)).isSome=true
theorem Cb{f:CF}{i:Nat}{p:Pr}{c:Nat}(hl:i<f.ow.length->p.l=(f.ow.getD i az).l)(h:(dJ f.ow c).isSome=true):(dJ (setO f i p).ow c).isSome=true:=by
 rw[rt]at h ⊢;obtain⟨q,hq,rfl⟩:=h;have e:=tN hl;have h1:q.l∈f.ow.map (·.l):=mem_map_of_mem (f:=(·.l)) hq;rw[<-e]at h1;obtain⟨q',h2,h3⟩:=mem_map.1 h1;exact⟨q',h2,h3⟩
theorem Me{N v:Nat}{g:CF}(h:pz N v g):∀x∈(mC g (g.cl.getD (1+v) 0)).1,pz N v x:=by
 intro x hx;unfold mC at hx;cases hb:dJ g.ow (g.cl.getD (1+v) 0) with
 |none=>rw[hb]at hx;simp at hx
 |some i =>
  rw[hb]at hx;simp only[Vo]at hx;have h1:pz N v (mo g i):=⟨h.ok.f1 i,h.ln,Cb (p:=⟨3,(owA g i).l,(owA g i).r⟩) (λ_=>rfl) h.bg⟩;split at hx
  .simp only[mem_singleton]at hx;subst hx;exact h
  .split at hx
   .simp only[mem_singleton]at hx;subst hx;exact h1
   .rename_i hn;simp only[mem_cons,not_mem_nil,or_false]at hx;rcases hx with rfl|rfl
    .exact h1
    .refine⟨h.ok.f2 hb (by omega),h.ln,?_⟩;have:=Cb (f:=g) (i:=i) (p:=⟨3,g.cl.getD (1+v) 0,aD g⟩) (λ_=>(eW hb).2.symm) h.bg;rw[rt]at this ⊢;obtain⟨p,hp,e⟩:=this;exact⟨p,mem_append_left _ hp,e⟩
theorem yY{N v:Nat}{f:CF}(hv:v<4)(h:au f)(hl:f.ap.length<=N)(hb:dJ f.ow (f.cl.getD (1+v) 0)=none){i:Nat}(hi:i<f.ow.length):∀x∈gt f (f.cl.getD (1+v) 0) i,pz N v x:=by
 intro x hx;unfold gt at hx;rcases mem_append.1 hx with hx|hx
 .split at hx
  .simp at hx
  .rename_i hd;simp only[mem_singleton]at hx;subst hx;refine⟨h.m1 (by simpa using hd),by simpa[jZ,rL] using hl,?_⟩;have e:(jZ f (f.cl.getD (1+v) 0) i).cl.getD (1+v) 0=(owA f i).l:=by
    show(f.cl.map _).getD (1+v) 0=_;have h5:=h.c5;rw[getD_eq_getElem?_getD,getElem?_map,getElem?_eq_getElem (by omega)];simp only[Option.map_some,Option.getD_some];unfold jb;rw[if_pos];rw[getD_eq_getElem?_getD,getElem?_eq_getElem (by omega)];rfl
   rw[e,rt];refine⟨C1 (owA f i).l (f.cl.getD (1+v) 0) (owA f i),mem_map_of_mem (oG hi),?_⟩;show jb _ _ _=_;unfold jb;split <;> rfl
 .split at hx
  .simp only[mem_singleton]at hx;subst hx;refine⟨h.m2 (h.get _) hb,hl,?_⟩;rw[rt];exact⟨⟨4,f.cl.getD (1+v) 0,(owA f i).r⟩,mem_append_right _ (by simp),rfl⟩
  .simp at hx
theorem pJ{α β:Type}{P:α->Prop}(g:List α × Bool->β->List α × Bool):∀(l:List β) (r:List α × Bool),(∀x∈r.1,P x)->(∀b∈l,∀r,(∀x∈r.1,P x)->∀x∈(g r b).1,P x)->∀x∈(l.foldl g r).1,P x
 |[],_,hr,_=>hr
 |b::l,r,hr,hg=>pJ g l (g r b) (hg b (by simp) r hr) (λb' m6=>hg b' (by simp[m6]))
theorem lw{N v:Nat}{f:CF}(hv:v<4)(h:au f)(hl:f.ap.length<=N):∀x∈(gR f v).1,pz N v x:=by
 unfold gR;split
 .intro x hx;simp at hx
 .split
  .rename_i hb;exact Me ⟨h,hl,hb⟩
  .rename_i hb;have m6:dJ f.ow (f.cl.getD (1+v) 0)=none:=(by simpa using hb);refine pJ (P:=pz N v) _ _ _ (λx hx=>by simp at hx) ?_;intro i hi r hr;rw[mem_range]at hi;refine pJ (P:=pz N v) _ _ _ hr ?_;intro g hg r hr x hx;rcases mem_append.1 hx with hx|hx
   .exact hr x hx
   .exact Me (yY hv h hl m6 hi g hg) x hx
theorem G5:∀(l:List Pr) {g:CF} {c:Nat},au g->c<24->(∀p∈l,p.l<24)->au (l.foldl (λh p=>cC h c p.l) g)/\(l.foldl (λh p=>cC h c p.l) g).ap.length=g.ap.length+l.length
 |[],g,c,h,_,_=>⟨h,rfl⟩
 |p::r,g,c,h,hc,hl=>by
  obtain⟨h1,h2⟩:=G5 r (h.pa hc (hl p (by simp))) hc (λq hq=>hl q (by simp[hq]));refine⟨h1,?_⟩;rw[foldl_cons,h2];simp[cC];omega
theorem yq{N v:Nat}{g:CF}(h:pz N v g):au (rD g v)/\(rD g v).ap.length<=N+25:=by
 have h1:=h.ok.tk (nN g (g.cl.getD (1+v) 0));have h2:=h1.pa (h.ok.get (1+v)) (h.ok.get 0);obtain⟨g1,g2⟩:=G5 (fD g (nN g (g.cl.getD (1+v) 0))).ow h2 (h.ok.get (1+v)) (λp hp=>(h1.ow p hp).1);refine⟨g1,zq3 (Nat.le_of_eq g2) ?_⟩;have hl:=h1.owLen;have h3:=h.ln;show((g.ap++[_]).length+_:Nat)<=_;rw[length_append,length_singleton];omega
theorem yp{N:Nat}{n:Nd}{g:CF}(h:pz N n.ai g):au (gD g n)/\(gD g n).ap.length<=N:=⟨h.ok.sC _ (h.ok.oA _).2,h.ln⟩
theorem Es{N:Nat}{n:Nd}{g:CF}(h:pz N n.v g):au (q9 g n)/\(q9 g n).ap.length<=N:=⟨h.ok.sO (λ_=>rfl) (h.ok.cT _ _) (h.ok.oA _).1,h.ln⟩
theorem ya{f:CF}{v:Nat}(h:au f)(hn:aD f<24):au (FK f v):=(h.ly (p:=⟨3,aD f,f.cl.getD 0 0⟩) hn (h.get 0) Oa).sC _ hn
structure Td(f:CF):Prop where
 ok:au f
 ln:f.ap.length<=576
theorem au.tidy{f:CF}(h:au f):Td (bJ f):=⟨h.td,Ur h⟩
theorem pV{r:List CF × Bool × Bool × Bool}{g:CF->CF}(h:∀x∈r.1,au (g x)):(∀x∈(bV r g).nx,Td x)/\∀x∈(bV r g).ot,Td x:=by
 refine⟨λx hx=>?_,λx hx=>by simp[bV]at hx⟩;obtain⟨y,hy,rfl⟩:=mem_map.1 hx;exact(h y hy).tidy
theorem Lq{f:CF}(h:au f)(n:Nd):(∀x∈(kP f n).1,Td x)/\∀x∈(kP f n).2,Td x:=by
 constructor
 .intro x hx;simp only[kP]at hx;split at hx
  .simp at hx
  .rename_i hd;simp only[mem_singleton]at hx;subst hx;exact(h.jo (h.get _) (jt (by simpa using hd))).tidy
 .intro x hx;simp only[kP]at hx;split at hx
  .simp at hx
  .simp only[mem_singleton]at hx;subst hx;exact(h.pa (h.get _) (h.cT _ _)).tidy
theorem pG{n:Nd}{f:CF}(hv:n.v<4)(ha:n.ai<4)(h:Td f):(∀x∈(d7 n f).nx,Td x)/\∀x∈(d7 n f).ot,Td x:=by
 have one:∀{g:CF},au g->(∀x∈[bJ g],Td x):=λhg x hx=>by rw[mem_singleton]at hx;subst hx;exact hg.tidy
 have no:∀x∈([]:List CF),Td x:=λx hx=>by simp at hx
 unfold d7;split
 .exact⟨no,no⟩
 .split
  .exact⟨one (h.ok.sC _ (h.ok.cT _ _)),no⟩
  .split
   .exact pV (λx hx=>(yp (lw ha h.ok h.ln x hx)).1)
   .split
    .exact pV (λx hx=>(Es (lw hv h.ok h.ln x hx)).1)
    .split
     .split
      .exact⟨no,no⟩
      .exact⟨one (ya h.ok (by omega)),no⟩
     .split
      .exact pV (λx hx=>(yq (lw hv h.ok h.ln x hx)).1)
      .split
       .exact⟨one h.ok,one h.ok⟩
       .split
        .exact Lq h.ok n
        .split
         .exact(Lq h.ok n).symm
         .exact⟨one h.ok,no⟩
def AO(f:CF)(i:Nat):Nat:=((range (i+1)).find? (λk=>f.cl.getD k 0==f.cl.getD i 0)).getD 0
def zN(f:CF)(i:Nat):Nat:=match dJ f.ow (f.cl.getD i 0) with|some j=>(owA f j).k|none=>0
def OI(f:CF):Nat:=f.ow.countP (λp=>decide (p.k=3))
def Tk(f:CF):Nat:=f.ow.countP (λp=>!decide (p.k=3))
def ZW(s t:CF):Bool:=!(decide (OI s<OI t)||decide (OI s+Tk s<OI t+Tk t))&&(decide (0<Tk t)||(decide (Tk s=0)&&decide (OI s=OI t)))
def GJ(s t:CF)(i:Nat):Bool:=decide (AO s (AO t i)=AO s i)&&!(decide (zN t i=3)&&!decide (zN s i=3))&&!(decide (zN t i=4)&&decide (zN s i=0))
def Qn(s t:CF):Bool:=GJ s t 0&&GJ s t 1&&GJ s t 2&&GJ s t 3&&GJ s t 4
def C3(s t:CF):Bool:=ZW s t&&Qn s t&&(match yg s t [0,1,2,3,4] (replicate 24 none) with|none=>false|some an=>(fit s t an 128).1)
structure gC where
 f:CF
 d:Bool
structure Sr where
 kn:List (List gC)
 wr:List (List Bool)
 lf:Int
 lo:Int
 fu:Bool
 ok:Bool
structure Cd where
 nds:List Nd
 hd:List Bool
 lp:Bool
 bd:Bool
def bj:Nd:=⟨0,0,0,0,0,0⟩
def re(c:Cd)(s:Sr):Sr:={ s with lf:=wrap64 (s.lf-1),fu:=s.fu||(decide (wrap64 (s.lf-1)<0)&&c.bd) }
def ng(c:Cd)(s:Sr)(n:Nat):Sr:={ s with lo:=wrap64 (s.lo-n),fu:=s.fu||(decide (wrap64 (s.lo-n)<0)&&c.bd) }
def bN(s:Sr)(n:Nat):List gC:=s.kn.getD n []
def layN(c:Cd)(n:Nat)(f:CF):CF:=if c.hd.getD n false=true then bJ (Mi f) else f
def qI:Nat:=1000000000000
def fN:Nat:=900000
def oy(n:Nat)(g:CF)(s:Sr):Sr:={ s with ok:=s.ok&&decide ((bN s n).length<=qI),kn:=s.kn.set n ((bN s n).filter (λe=>!C3 e.f g)++[⟨g,false⟩]) }
def bQ(c:Cd)(n:Nat)(f:CF)(s:Sr):Sr :=
 if (bN s n).any (λe=>C3 (layN c n f) e.f)=true then { ng c s (2*(bN s n).length) with ok:=s.ok&&decide ((bN s n).length<=qI) }
 else re c (oy n (layN c n f) (ng c s (2*(bN s n).length)))
def fJ(f:CF):List Nat:=(range f.ow.length).filter (λi=>!decide ((owA f i).l∈mL f))
def UH(f:CF):CF:=bJ { f with ow:=f.ow.filter (λp=>decide (p.l∈mL f)) }
def oL(a b:List Pr):Bool:=decide (a.length=b.length)&&(range a.length).all (λi=>BX (a.getD i az) (b.getD i az))
def T5(f g:CF):Bool:=decide (jM f=jM g)&&oL f.ap g.ap&&oL f.ow g.ow
def Zz(cs:List CF)(f:CF):Bool:=!cs.any (λg=>T5 f g)
def mD(c:Cd)(r:List CF × Sr)(g:CF):List CF × Sr:=if Zz r.1 (bJ g)=true then (r.1++[bJ g],re c { r.2 with ok:=r.2.ok&&decide (r.1.length<=fN) }) else r
def fnA(f:CF)(a:Nat):Bool:=decide (a∈mL f)&&!decide (a=f.cl.getD 0 0)&&!(dJ f.ow a).isSome
def nS(c:Cd)(f:CF)(i:Nat)(r:List CF × Sr)(a:Nat):List CF × Sr:=if fnA f a=true then (gt f a i).foldl (mD c) r else r
def eZ(c:Cd)(f:CF)(r:List CF × Sr)(i:Nat):List CF × Sr:=(range 24).foldl (nS c f i) r
def vj(c:Cd)(g:CF)(r:List CF × Sr)(res:List CF):List CF × List CF × Sr :=
 if fJ g=[] then (res++[g],r) else (res++[UH g],(fJ g).foldl (eZ c g) r)
def iR(c:Cd):Nat->Nat->List CF->List CF × Sr->List CF × Sr
 |0,_,res,r=>(res,{ r.2 with ok:=false })
 |n+1,k,res,r=>if k<r.1.length/\r.2.fu=false then iR c n (k+1) (vj c (r.1.getD k ⟨[],[],[]⟩) r res).1 (vj c (r.1.getD k ⟨[],[],[]⟩) r res).2 else (res,r.2)
def mf(n k:Nat)(s:Sr):Sr:={ s with wr:=s.wr.set n ((s.wr.getD n []).set k true) }
def eo(c:Cd)(fuel from_ to_:Nat)(f:CF)(s:Sr):Sr :=
 if c.lp=false\/fJ f=[] then bQ c to_ f s
 else
  let r:=iR c fuel 0 [] ([f],mf from_ 2 s)
  r.1.foldl (λs g=>bQ c to_ g s) r.2
def fuS(b:Bool)(s:Sr):Sr:={ s with fu:=s.fu||b }
def wrI(b:Bool)(n k:Nat)(s:Sr):Sr:=if b=true then mf n k s else s
def qB(c:Cd)(fuel:Nat)(n:Nat)(f:CF)(s:Sr):Sr :=
 let nd:=c.nds.getD n bj
 let o:=d7 nd f
 let s1:=wrI (decide (nd.op=0)&&!decide (fJ f=[])) n 2 s
 let s2:=fuS o.fu (wrI o.da n 4 (wrI o.nu n 3 s1))
 let s3:=o.nx.foldl (λs g=>eo c fuel n nd.nx g s) s2
 o.ot.foldl (λs g=>eo c fuel n nd.ot g s) s3
def pu(c:Cd)(fuel n:Nat):List CF->Sr->Sr
 |[],s=>s
 |f::r,s=>if s.fu=true then s else pu c fuel n r (qB c fuel n f s)
def lN(l:List gC):List CF:=(l.filter (λe=>!e.d)).map (·.f)
def uD(c:Cd)(fuel n:Nat)(s:Sr):Sr:=pu c fuel n (lN (bN s n)) { s with kn:=s.kn.set n ((bN s n).map (λe=>⟨e.f,true⟩)) }
def JK(s:Sr):Option Nat:=s.kn.findIdx? (λl=>l.any (λe=>!e.d))
def qa(c:Cd)(fuel:Nat):Nat->Sr->Sr
 |0,s=>{ s with ok:=false }
 |n+1,s=>match JK s with
  |none=>s
  |some k=>if s.fu=true then s else qa c fuel n (uD c fuel k s)
def vA(al:List bt):Nat:=al.foldl (λm a=>let m1:=if a.lk=2/\m<=a.li then a.li+1 else m;if a.rk=2/\m1<=a.ri then a.ri+1 else m1) 0
def lJ(nds:List Nd)(i:Nat):Bool:=decide ((nds.getD i bj).op=10)&&decide ((nds.getD i bj).nx<i)
def Ks(nds:List Nd)(nv:Nat)(al:List bt):Bool :=
 !(range nds.length).any (lJ nds)&&!al.any (λa=>decide (a.k=4)) &&
 decide (nds.countP (λn=>decide (n.op=7\/n.op=8\/n.op=9))<=5)&&decide (nds.countP (λn=>decide (n.op=4))<=4)&&decide (nv+vA al<=6)&&decide (nv+vA al+nds.countP (λn=>decide (n.op=4))<=8)
def hdL(nds:List Nd):List Bool:=(range nds.length).foldl (λh i=>if lJ nds i=true then h.set (nds.getD i bj).nx true else h) (replicate nds.length false)
def Az(nds:List Nd)(nv:Nat)(al:List bt):Cd:=⟨nds,hdL nds,(range nds.length).any (lJ nds),!Ks nds nv al⟩
def l5(nds:List Nd):Sr:=⟨replicate nds.length [],replicate nds.length (replicate 5 false),3000,2097152,false,true⟩
def sQ(f:CF)(nv:Nat):CF:={ f with cl:=(range 5).map (λi=>if nv<i then f.cl.getD 0 0 else f.cl.getD i 0) }
def fx(c:Cd)(fuel nv:Nat)(al:List bt)(s:Sr):Sr:=if je (bL al)=true then s else eo c fuel (c.nds.length-1) 0 (bJ (sQ (bL al) nv)) s
structure Rs where
 vd:Nat
 al:List (Nat × Nat)
 kn:List (List CF)
def Xm(wr:List (List Bool)):List (Nat × Nat):=(range wr.length).flatMap (λn=>([2,3,4].filter (λk=>(wr.getD n []).getD k false)).map (λk=>(n,k)))
def Hg(s:Sr):Rs:=if s.fu=true then ⟨2,[],[]⟩ else ⟨if Xm s.wr=[] then 0 else 1,Xm s.wr,s.kn.map (λl=>l.map (·.f))⟩
def mM(ad nx:List Int)(s:Nat->Int)(f:CF):Prop:=∃val,Va ad nx val f/\∀i,i<5->val (f.cl.getD i 0)=s i
section
variable {ad nx:List Int} {s:Nat->Int} {f g:CF}
theorem KP{v v':Nat->Int}{g:Pr->Pr}:∀{l:List Pr} {fr:List Bool},(∀p∈l,((g p).k≠4->p.k≠4)/\v' (g p).l=v p.l/\v' (g p).r=v p.r)->pf ad nx v l fr->pf ad nx v' (l.map g) fr
 |[],_,_,h=>h
 |p::r,fr,hg,h=>by
  obtain⟨q,fr',h1,h2,h3,h4⟩:=h;obtain⟨g1,g2,g3⟩:=hg p (by simp);refine⟨q,fr',by rw[g2,g3];exact h1,h2,λhk=>h3 (g1 hk),?_⟩;exact KP (λp hp=>hg p (by simp[hp])) h4
theorem mM.fg(h:mM ad nx s f):mM ad nx s (DF f):=by
 obtain⟨val,h1,h2⟩:=h;exact⟨val,⟨h1.nl,λp hp=>h1.ap p (mem_filter.1 hp).1,h1.sp⟩,h2⟩
theorem AE(f:CF)(G:Nat->Nat){i:Nat}(hi:i<5):((jM f).map G).getD i 0=G (f.cl.getD i 0):=by
 have:i=0\/i=1\/i=2\/i=3\/i=4:=by omega
 rcases this with rfl|rfl|rfl|rfl|rfl <;> rfl
theorem mM.rn(hk:au f)(hl:∀p∈f.ap,p.l∈dC f/\p.r∈dC f)(h:mM ad nx s f):mM ad nx s (B1 f):=by
 obtain⟨val,h1,h2⟩:=h;have gF:=oM hk.ow hk.cl hk.lf;have hv:∀c,c∈dC f->val ((ku f).getD ((ku f).idxOf c) 0)=val c:=λc hc=>by
  have hm:=gF c hc;rw[getD_eq_getElem?_getD,getElem?_eq_getElem (idxOf_lt_length_iff.2 hm)];simp
 have de:∀i,i<5->f.cl.getD i 0∈dC f:=λi hi=>mem_append_left _ (fY hi);refine⟨λn=>val ((ku f).getD n 0),⟨?_,λp hp=>?_,?_⟩,λi hi=>?_⟩
 .show val ((ku f).getD ((B1 f).cl.getD 0 0) 0)=0;have e:(B1 f).cl.getD 0 0=(ku f).idxOf (f.cl.getD 0 0):=AE f (λc=>(ku f).idxOf c) (i:=0) (by omega);rw[e,hv _ (de 0 (by omega))];exact h1.nl
 .obtain⟨q,hq,rfl⟩:=mem_map.1 (show p∈f.ap.map (uW (ku f)) from hp);obtain⟨g1,g2⟩:=hl q hq;show val ((ku f).getD ((ku f).idxOf q.l) 0)≠val ((ku f).getD ((ku f).idxOf q.r) 0);rw[hv _ g1,hv _ g2];exact h1.ap q hq
 .show pf ad nx _ (f.ow.map (uW (ku f))) _;refine KP (λp hp=>⟨λh=>h,hv _ ?_,hv _ ?_⟩) h1.sp
  .exact mem_append_right _ (mem_flatMap.2 ⟨p,hp,by simp⟩)
  .exact mem_append_right _ (mem_flatMap.2 ⟨p,hp,by simp⟩)
 .show val ((ku f).getD ((B1 f).cl.getD i 0) 0)=s i;have e:(B1 f).cl.getD i 0=(ku f).idxOf (f.cl.getD i 0):=AE f (λc=>(ku f).idxOf c) hi;rw[e,hv _ (de i hi)];exact h2 i hi
theorem mM.or(hk:au f)(h:mM ad nx s f):mM ad nx s (orF f):=by
 obtain⟨val,h1,h2⟩:=h;refine⟨val,⟨h1.nl,λp hp=>?_,sy (Ch hk.lf).symm h1.sp⟩,h2⟩;obtain⟨q,hq,rfl⟩:=mem_map.1 (j9.1 (show p∈l6 (f.ap.map jp) from hp));have:=h1.ap q hq;unfold jp;split
 .exact this.symm
 .exact this
theorem mM.td(hk:au f)(h:mM ad nx s f):mM ad nx s (bJ f):=mM.or (hk.fg.rn (λ_ hp=>lM hp)) (mM.rn hk.fg (λ_ hp=>lM hp) h.fg)
theorem mM.within(hd:ad.Nodup)(hp:∀v∈ad,0<v)(hg:au g)(hw:C3 f g=true)(h:mM ad nx s f):mM ad nx s g:=by
 obtain⟨val,h1,h2⟩:=h;unfold C3 at hw;rw[Bool.and_eq_true]at hw;obtain⟨-,hw⟩:=hw;cases lO:yg f g [0,1,2,3,4] (replicate 24 none) with
 |none=>rw[lO]at hw;cases hw
 |some an =>
  rw[lO]at hw;obtain⟨g1,_,g3,g4⟩:=LL (λi _=>hg.get i) (by decide) (by simp) lO;obtain⟨sv,k1,k2,k3⟩:=RI h1 hd hp hg.ow g1 (st:=128) (s':=(fit f g an 128).2) (Prod.ext hw rfl);have hv:∀i,i<5->sv (g.cl.getD i 0)=s i:=λi hi=>by rw[k1 _ _ (g3 i (by simp;omega))];exact h2 i hi
  refine⟨sv,⟨?_,k2,k3⟩,hv⟩;rw[hv 0 (by omega),<-h2 0 (by omega)];exact h1.nl
theorem Uu(g:Pr->Pr)(l:List Pr)(i k:Nat)(hk:k<=l.length):oU (l.map g) i k=(oU l i k).map g:=by
 unfold oU;rw[map_map];apply map_congr_left;intro j hj;have hj2:=mem_range.1 (mem_filter.1 hj).1;have eh:j<l.length:=by omega
 simp[getD_eq_getElem?_getD,eh]
theorem Uw(g:Pr->Pr)(l:List Pr)(i:Nat):qD (l.map g) i=(qD l i).map g:=by
 unfold qD;rw[length_map];exact Uu g l i l.length (zq4 _)
theorem EQ(l:List Pr):(range l.length).map (λj=>l.getD j az)=l:=by
 apply ext_getElem
 .simp
 .intro i h1 h2;simp only[getElem_map,getElem_range];exact dq h2
theorem uy{l:List Pr}{i:Nat}(hi:i<l.length):l.Perm (l.getD i az::qD l i):=by
 have h1:(range l.length).Perm (i::(range l.length).filter (λj=>j != i)):=by
  have:=iS (p:=λ_=>true) (q:=λj=>j != i) (l:=range l.length) (i:=i) nodup_range (by simpa using hi) rfl (by simp) (λj hj=>by simpa using hj);rwa [filter_eq_self.2 (λ_ _=>rfl)]at this
 have h2:=h1.map (λj=>l.getD j az);rw[EQ]at h2;exact h2
theorem Iw{l:List Pr}{P:Pr->Bool}(h:l.countP P=1):∃q R,l.Perm (q::R)/\P q=true/\∀x∈R,P x=false:=by
 obtain⟨q,hq,hp⟩:=countP_pos_iff.1 (show 0<l.countP P by omega);obtain⟨a,b,rfl⟩:=append_of_mem hq;rw[countP_append,countP_cons,hp]at h;simp only[if_true]at h;refine⟨q,a++b,perm_middle,hp,λx hx=>?_⟩;have h0:(a++b).countP P=0:=by rw[countP_append];omega
 have:=countP_eq_zero.1 h0 x hx;simpa using this
theorem Ud{p:Pr}(h:JT f p=true):nmB f p.l=false/\p.r≠p.l/\DB f.ow p.l=1:=by
 unfold JT at h;simp only[Bool.and_eq_true,Bool.not_eq_true',Bool.or_eq_false_iff,decide_eq_true_eq,decide_eq_false_iff_not]at h;exact⟨h.1.1,h.1.2,h.2⟩
theorem mM.fo1{k:Nat}(hs:JS f=some k)(h:mM ad nx s f):mM ad nx s (yo f k):=by
 obtain⟨hk,hp⟩:k<f.ow.length/\JT f (f.ow.getD k az)=true:=by
  unfold JS at hs;obtain⟨h1,h2,-⟩:=findIdx?_eq_some_iff_getElem.1 hs;exact⟨h1,by rw[dq h1];exact h2⟩
 obtain⟨val,h1,h2⟩:=h;obtain⟨p,SQ⟩:∃p,p=f.ow.getD k az:=⟨_,rfl⟩;rw[<-SQ]at hp;obtain⟨-,aM,hc⟩:=Ud hp;have Nt:=uy hk;rw[<-SQ]at Nt;have tf:(qD f.ow k).countP (λq=>decide (q.r=p.l))=1:=by
  have:=Nt.countP_eq (λq=>decide (q.r=p.l));unfold DB at hc;rw[hc,countP_cons,decide_eq_false aM]at this;simpa using this.symm
 obtain⟨q,R,hqR,hq,hR⟩:=Iw tf;have hq:q.r=p.l:=by simpa using hq
 have hR:∀x∈R,x.r≠p.l:=λx hx=>by simpa using hR x hx
 have Y4:pf ad nx val (q::p::R) (replicate ad.length true):=Ap (sy (Nt.trans (hqR.cons p)) h1.sp);refine⟨val,⟨h1.nl,h1.ap,?_⟩,h2⟩;show pf ad nx val (qD (f.ow.map (Go.Proofs.YtciihepbeacppaaGreat.fo1 (f.ow.getD k az).l (f.ow.getD k az).r)) k) _;rw[Uw,<-SQ];have ajT:((qD f.ow k).map (Go.Proofs.YtciihepbeacppaaGreat.fo1 p.l p.r)).Perm (⟨4,q.l,p.r⟩::R):=by
  have h3:=hqR.map (Go.Proofs.YtciihepbeacppaaGreat.fo1 p.l p.r);rw[map_cons]at h3;have e1:Go.Proofs.YtciihepbeacppaaGreat.fo1 p.l p.r q=⟨4,q.l,p.r⟩:=by unfold Go.Proofs.YtciihepbeacppaaGreat.fo1;rw[if_pos hq]
  have e2:R.map (Go.Proofs.YtciihepbeacppaaGreat.fo1 p.l p.r)=R:=by
   conv=>rhs;rw[<-map_id R]
   apply map_congr_left;intro x hx;unfold Go.Proofs.YtciihepbeacppaaGreat.fo1;rw[if_neg (hR x hx)];rfl
  rw[e1,e2]at h3;exact h3
 refine sy ajT.symm ?_;obtain⟨u,fr1,a1,a2,a3,v,fr2,b1,b2,b3,hr⟩:=Y4;rw[hq]at a1;exact⟨u++v,fr2,Hk a1 b1,by rw[uz,a2];exact b2,λh=>absurd rfl h,hr⟩
theorem mM.fold:∀(n:Nat) {f:CF},mM ad nx s f->mM ad nx s (kk n f)
 |0,_,h=>h
 |n+1,f,h=>by
  unfold kk;split
  .exact h
  .rename_i k hk;exact mM.fold n (h.fo1 hk)
theorem mM.fo(h:mM ad nx s f):mM ad nx s (Mi f):=h.fold _
end
def Rc:List (Int × Int)->Int->Int->Prop
 |[],_,_=>False
 |[c],v,e=>c.1=v/\c.2=e
 |c::d::r,v,e=>c.1=v/\Rc (d::r) c.2 e
def qf(val:Nat->Int):List Pr->List (Int × Int)->Prop
 |[],cs=>cs=[]
 |p::r,cs=>∃q cs',cs.Perm (q++cs')/\Rc q (val p.l) (val p.r)/\(p.k≠4->q.length=1)/\qf val r cs'
structure mj(cs:List (Int × Int))(val:Nat->Int)(V:CF):Prop where
 nl:val (V.cl.getD 0 0)=0
 ap:∀p∈V.ap,val p.l≠val p.r
 sp:qf val V.ow cs
def ie(cs:List (Int × Int))(s:Nat->Int)(f:CF):Prop:=∃val,mj cs val f/\∀i,i<5->val (f.cl.getD i 0)=s i
section
variable {ad nx:List Int} {val:Nat->Int}
def PZ(ad nx:List Int)(k:Nat):Int × Int:=(ad.getD k 0,nx.getD k 0)
def zQ(fr:List Bool):List Nat:=(range fr.length).filter (λk=>fr.getD k false)
theorem x8:∀(q:List Nat) (v e:Int),Rc (q.map (PZ ad nx)) v e↔B9 ad nx q v e
 |[],_,_=>Iff.rfl
 |[k],_,_=>Iff.rfl
 |k::j::r,v,e=>by
  show(ad.getD k 0=v/\Rc ((j::r).map (PZ ad nx)) (nx.getD k 0) e)↔_;rw[x8 (j::r)];exact Iff.rfl
theorem Gb{fr:List Bool}{k:Nat}(h:fr.getD k false=true):(zQ fr).Perm (k::zQ (fr.set k false)):=by
 have hk:=Gc h;unfold zQ;rw[length_set];refine iS nodup_range (by simpa using hk) h ?_ (λj hj=>?_)
 .rw[bS _ _ _ _ _ hk,if_pos rfl]
 .rw[bS _ _ _ _ _ hk,if_neg (λe=>hj e.symm)]
theorem XU{fr:List Bool}{k:Nat}(h:k∈zQ fr):fr.getD k false=true:=(mem_filter.1 h).2
theorem Pi:∀{q:List Nat} {fr fr':List Bool},tk fr q=some fr'->(zQ fr).Perm (q++zQ fr')
 |[],_,_,h=>by cases h;exact List.Perm.refl _
 |k::r,fr,fr',h=>by
  unfold tk at h;split at h
  .rename_i hk;exact(Gb hk).trans ((Pi h).cons k)
  .cases h
theorem Mn:∀{q:List Nat} {fr:List Bool} {L:List Nat},(zQ fr).Perm (q++L)->∃fr',tk fr q=some fr'/\(zQ fr').Perm L
 |[],fr,_,h=>⟨fr,rfl,h⟩
 |k::r,fr,L,h=>by
  have hk:fr.getD k false=true:=XU (h.symm.subset (by simp));obtain⟨fr',h1,h2⟩:=Mn (q:=r) (fr:=fr.set k false) (L:=L) (((Gb hk).symm.trans h).cons_inv);refine⟨fr',?_,h2⟩;unfold tk;rw[if_pos hk];exact h1
theorem AT{fr:List Bool}:fr.any id=false↔zQ fr=[]:=by
 unfold zQ;rw[filter_eq_nil_iff,any_eq_false];constructor
 .intro h k hk;have hk:=mem_range.1 hk;have:=h fr[k] (getElem_mem hk);simpa[getD_eq_getElem?_getD,hk] using this
 .intro h x hx;obtain⟨k,hk,rfl⟩:=mem_iff_getElem.1 hx;have:=h k (by simpa using hk);simpa[getD_eq_getElem?_getD,hk] using this
theorem JL{α β:Type}{f:α->β}{l:List α}:∀{m:List β},(l.map f).Perm m->∃l',l.Perm l'/\l'.map f=m:=by
 intro m h;generalize hl:l.map f=L at h;induction h generalizing l with
 |nil=>exact⟨[],by rw[map_eq_nil_iff.1 hl],rfl⟩
 |cons x _ ih =>
  cases l with
  |nil=>cases hl
  |cons a l =>
   simp only[map_cons,List.cons.injEq]at hl;obtain⟨l',h1,h2⟩:=ih hl.2;exact⟨a::l',h1.cons a,by rw[map_cons,h2,hl.1]⟩
 |swap x y t =>
  cases l with
  |nil=>cases hl
  |cons a l =>
   cases l with
   |nil=>simp at hl
   |cons b l =>
    simp only[map_cons,List.cons.injEq]at hl;obtain⟨h1,h2,h3⟩:=hl;exact⟨b::a::l,List.Perm.swap b a l,by simp[h1,h2,h3]⟩
 |trans _ _ ih1 ih2 =>
  obtain⟨l1,h1,h2⟩:=ih1 hl;obtain⟨l2,h3,h4⟩:=ih2 h2;exact⟨l2,h1.trans h3,h4⟩
theorem wi:∀{l:List Pr} {cs cs':List (Int × Int)},cs.Perm cs'->qf val l cs->qf val l cs'
 |[],_,_,h,h2=>by rw[qf]at h2 ⊢;rw[h2]at h;exact h.nil_eq.symm
 |p::r,_,_,h,h2=>by
  obtain⟨q,c,h3,h4⟩:=h2;exact⟨q,c,h.symm.trans h3,h4⟩
theorem Vc:∀{l:List Pr} {fr:List Bool},pf ad nx val l fr->qf val l ((zQ fr).map (PZ ad nx))
 |[],_,h=>by
  show(zQ _).map _=[];rw[AT.1 h];rfl
 |p::r,fr,h=>by
  obtain⟨q,fr',h1,h2,h3,h4⟩:=h;refine⟨q.map (PZ ad nx),(zQ fr').map (PZ ad nx),?_,(x8 q _ _).2 h1,λhk=>by rw[length_map];exact h3 hk,Vc h4⟩;rw[<-map_append];exact(Pi h2).map _
theorem Vd:∀{l:List Pr} {fr:List Bool},qf val l ((zQ fr).map (PZ ad nx))->pf ad nx val l fr
 |[],_,h=>by
  have:(zQ _).map (PZ ad nx)=[]:=h;exact AT.2 (map_eq_nil_iff.1 this)
 |p::r,fr,h=>by
  obtain⟨q,cs',h1,h2,h3,h4⟩:=h;obtain⟨I,g1,g2⟩:=JL h1;obtain⟨a,b,rfl,ha,hb⟩:=map_eq_append_iff.1 g2;obtain⟨fr',k1,k2⟩:=Mn g1;subst ha;refine⟨a,fr',(x8 a _ _).1 h2,k1,λhk=>by have:=h3 hk;rwa [length_map]at this,Vd (wi ?_ h4)⟩;rw[<-hb];exact(k2.map _).symm
theorem RQ(n:Nat):zQ (replicate n true)=range n:=by
 unfold zQ;rw[length_replicate,filter_eq_self];intro k hk;have:=mem_range.1 hk;simp[getD_eq_getElem?_getD,this]
theorem Rh(cs:List (Int × Int)):(range cs.length).map (PZ (cs.map (·.1)) (cs.map (·.2)))=cs:=by
 apply ext_getElem
 .simp
 .intro i h1 h2;simp only[getElem_map,getElem_range];unfold PZ;simp[h2]
theorem xL{cs:List (Int × Int)}{l:List Pr}:pf (cs.map (·.1)) (cs.map (·.2)) val l (replicate (cs.map (·.1)).length true)↔qf val l cs:=by
 have e:(zQ (replicate (cs.map (·.1)).length true)).map (PZ (cs.map (·.1)) (cs.map (·.2)))=cs:=by
  rw[RQ,length_map];exact Rh cs
 constructor
 .intro h;have:=Vc h;rwa [e]at this
 .intro h;refine Vd ?_;rw[e];exact h
theorem iQ{cs:List (Int × Int)}{s:Nat->Int}{f:CF}:ie cs s f↔mM (cs.map (·.1)) (cs.map (·.2)) s f:=by
 constructor
 .rintro⟨v,h1,h2⟩;exact⟨v,⟨h1.nl,h1.ap,xL.2 h1.sp⟩,h2⟩
 .rintro⟨v,h1,h2⟩;exact⟨v,⟨h1.nl,h1.ap,xL.1 h1.sp⟩,h2⟩
end
section
variable {cs cs':List (Int × Int)} {s:Nat->Int} {f g:CF} {val:Nat->Int}
theorem ie.td(hk:au f)(h:ie cs s f):ie cs s (bJ f):=iQ.2 (mM.td hk (iQ.1 h))
theorem ie.fo(h:ie cs s f):ie cs s (Mi f):=iQ.2 (mM.fo (iQ.1 h))
structure xG(cs:List (Int × Int)):Prop where
 nd:(cs.map (·.1)).Nodup
 ps:∀c∈cs,0<c.1
theorem xG.perm(h:xG cs)(hp:cs.Perm cs'):xG cs':=⟨(hp.map _).nodup_iff.1 h.nd,λc hc=>h.ps c (hp.symm.subset hc)⟩
theorem ie.within(hc:xG cs)(hg:au g)(hw:C3 f g=true)(h:ie cs s f):ie cs s g :=
 iQ.2 (mM.within hc.nd (λv hv=>by obtain⟨c,h1,rfl⟩:=mem_map.1 hv;exact hc.ps c h1) hg hw (iQ.1 h))
theorem KR{a b:Pr}{r:List Pr}(h:qf val (a::b::r) cs):qf val (b::a::r) cs:=by
 obtain⟨q,c1,h1,h2,h3,u,c2,k1,k2,k3,k4⟩:=h;refine⟨u,q++c2,?_,k2,k3,q,c2,List.Perm.refl _,h2,h3,k4⟩;refine h1.trans ((k1.append_left q).trans ?_);rw[<-append_assoc,<-append_assoc];exact perm_append_comm.append_right c2
theorem kL{l l':List Pr}(h:l.Perm l'):∀{cs:List (Int × Int)},qf val l cs->qf val l' cs:=by
 induction h with
 |nil=>exact λh=>h
 |cons x _ ih =>
  rintro cs ⟨q,c,h1,h2,h3,h4⟩;exact⟨q,c,h1,h2,h3,ih h4⟩
 |swap x y t=>exact λh=>KR h
 |trans _ _ ih1 ih2=>exact λh=>ih2 (ih1 h)
theorem Dc{v v':Nat->Int}{g:Pr->Pr}:∀{l:List Pr} {cs:List (Int × Int)},(∀p∈l,((g p).k≠4->p.k≠4)/\v' (g p).l=v p.l/\v' (g p).r=v p.r)->qf v l cs->qf v' (l.map g) cs
 |[],_,_,h=>h
 |p::r,cs,hg,h=>by
  obtain⟨q,c,h1,h2,h3,h4⟩:=h;obtain⟨g1,g2,g3⟩:=hg p (by simp);exact⟨q,c,h1,by rw[g2,g3];exact h2,λhk=>h3 (g1 hk),Dc (λp hp=>hg p (by simp[hp])) h4⟩
theorem wd{v v':Nat->Int}{l:List Pr}(h:∀p∈l,v' p.l=v p.l/\v' p.r=v p.r)(hs:qf v l cs):qf v' l cs:=by
 have:=Dc (g:=id) (λp hp=>⟨λh=>h,h p hp⟩) hs;rwa [map_id]at this
theorem wg{l:List Pr}{i:Nat}(hi:i<l.length)(h:qf val l cs):qf val (l.getD i az::qD l i) cs:=kL (uy hi) h
theorem sM{q:List (Int × Int)}{v e:Int}(h:Rc q v e):∃c r,q=c::r/\c.1=v:=by
 cases q with
 |nil=>exact h.elim
 |cons c r =>
  refine⟨c,r,rfl,?_⟩;cases r with
  |nil=>exact h.1
  |cons d r=>exact h.1
theorem KQ{l:List Pr}{p:Pr}(hp:p∈l)(h:qf val l cs):∃c∈cs,c.1=val p.l:=by
 induction l generalizing cs with
 |nil=>simp at hp
 |cons a r ih =>
  obtain⟨q,c,h1,h2,h3,h4⟩:=h;rcases mem_cons.1 hp with rfl|hp
  .obtain⟨d,t,rfl,hd⟩:=sM h2;exact⟨d,h1.symm.subset (by simp),hd⟩
  .obtain⟨d,hd,he⟩:=ih hp h4;exact⟨d,h1.symm.subset (mem_append_right _ hd),he⟩
end
def vS(s:Nat->Int)(n:Nat)(x:Int)(c:Nat):Int:=if c=n then x else s c
theorem uf(s:Nat->Int)(n:Nat)(x:Int):vS s n x n=x:=by unfold vS;rw[if_pos rfl]
theorem zr{s:Nat->Int}{n:Nat}{x:Int}{c:Nat}(h:c≠n):vS s n x c=s c:=by unfold vS;rw[if_neg h]
section
variable {cs cs':List (Int × Int)} {s:Nat->Int} {f g:CF} {val:Nat->Int}
theorem Zu(f:CF){i:Nat}(hi:i<5):f.cl.getD i 0<=nF f:=by
 have:i=0\/i=1\/i=2\/i=3\/i=4:=by omega
 unfold nF;rcases this with rfl|rfl|rfl|rfl|rfl <;> omega
theorem ED(f:CF){i:Nat}(hi:i<5):f.cl.getD i 0<aD f:=by
 have h1:=Zu f hi;have h2:=(gG f.ow (nF f)).1;have h3:=(gG f.ap (oF (nF f) f.ow)).1;unfold aD;omega
theorem xi(f:CF){p:Pr}(hp:p∈f.ow):p.l<aD f/\p.r<aD f:=by
 have h2:=(gG f.ow (nF f)).2 p hp;have h3:=(gG f.ap (oF (nF f) f.ow)).1;unfold aD;omega
theorem We(f:CF){p:Pr}(hp:p∈f.ap):p.l<aD f/\p.r<aD f:=by
 have h3:=(gG f.ap (oF (nF f) f.ow)).2 p hp;unfold aD;omega
theorem mj.dif(hc:xG cs)(h:mj cs val f){a b:Nat}(hb:ew f a b=true):val a≠val b :=
 FN (ad:=cs.map (·.1)) (nx:=cs.map (·.2)) ⟨h.nl,h.ap,xL.2 h.sp⟩ hc.nd (λv hv=>by obtain⟨c,h1,rfl⟩:=mem_map.1 hv;exact hc.ps c h1) hb
theorem mj.jo(h:mj cs val f){a b:Nat}(e:val a=val b):mj cs val (rL f a b):=by
 have hr:∀c,val (jb a b c)=val c:=λc=>by
  unfold jb;split
  .rename_i hc;rw[hc,e]
  .rfl
 refine⟨?_,λp hp=>?_,Dc (λp _=>⟨λh=>h,hr _,hr _⟩) h.sp⟩
 .have h0:=h.nl;show val ((f.cl.map (jb a b)).getD 0 0)=0;cases de:f.cl with
  |nil=>rw[de]at h0;exact h0
  |cons x r=>rw[de]at h0;show val (jb a b x)=0;rw[hr];exact h0
 .obtain⟨q,hq,rfl⟩:=mem_map.1 (show p∈f.ap.map (C1 a b) from hp);show val (jb a b q.l)≠val (jb a b q.r);rw[hr,hr];exact h.ap q hq
theorem Zh(h5:f.cl.length=5){a b i:Nat}(hi:i<5):(rL f a b).cl.getD i 0=jb a b (f.cl.getD i 0):=by
 show(f.cl.map (jb a b)).getD i 0=_;simp[getD_eq_getElem?_getD,h5,hi]
theorem ie.jo(h5:f.cl.length=5)(h:mj cs val f)(h2:∀i,i<5->val (f.cl.getD i 0)=s i){a b:Nat}(e:val a=val b):ie cs s (rL f a b):=by
 refine⟨val,h.jo e,λi hi=>?_⟩;rw[Zh h5 hi,<-h2 i hi];unfold jb;split
 .rename_i hc;rw[hc,e]
 .rfl
theorem mj.pa(h:mj cs val f){a b:Nat}(e:val a≠val b):mj cs val (cC f a b):=by
 refine⟨h.nl,λp hp=>?_,h.sp⟩;rcases mem_append.1 (show p∈f.ap++[⟨2,a,b⟩] from hp) with hp|hp
 .exact h.ap p hp
 .rw[mem_singleton.1 hp];exact e
def teV(s:Nat->Int)(k i:Nat):Int:=if k=1 then s (1+i) else 0
theorem FJ(h:mj cs val f)(h2:∀i,i<5->val (f.cl.getD i 0)=s i){k i:Nat}(hi:i<4):val (lK f k i)=teV s k i:=by
 unfold lK teV;split
 .exact h2 _ (by omega)
 .exact h.nl
theorem Ca(h5:f.cl.length=5){i j c:Nat}(hi:i<5):(setC f i c).cl.getD j 0=if i=j then c else f.cl.getD j 0:=by
 show(f.cl.set i c).getD j 0=_;exact bS _ _ _ _ _ (by omega)
theorem mj.setC(h:mj cs val f)(h5:f.cl.length=5){i c:Nat}(hi:i<5)(h0:i≠0):mj cs val (Go.Proofs.YtciihepbeacppaaGreat.setC f i c):=by
 refine⟨?_,h.ap,h.sp⟩;rw[Ca h5 hi,if_neg h0];exact h.nl
theorem DL(h5:f.cl.length=5)(h:mj cs val f)(h2:∀i,i<5->val (f.cl.getD i 0)=s i){v c:Nat}(hv:v<4):ie cs (vS s (1+v) (val c)) (setC f (1+v) c):=by
 refine⟨val,h.setC h5 (by omega) (by omega),λi hi=>?_⟩;rw[Ca h5 (by omega)];by_cases e:1+v=i
 .rw[if_pos e,<-e,uf]
 .rw[if_neg e,zr (λe2=>e e2.symm)];exact h2 i hi
theorem EX{l:List Pr}{i:Nat}(hi:i<l.length)(x:Pr):(l.set i x).Perm (x::qD l i):=by
 have h1:=Cf hi x;have h2:=((JQ hi).symm.trans (uy hi)).cons_inv;exact h1.trans (h2.cons x)
theorem Pj{l:List Pr}{i:Nat}{p:Pr}(h:p∈qD l i):p∈l:=(kg l i).subset h
theorem Do{l:List Pr}{c i:Nat}(h:dJ l c=some i):i<l.length/\(l.getD i az).l=c:=eW h
theorem mj.up(h:mj cs val f)(x:Int):mj cs (vS val (aD f) x) f:=by
 have hl:∀{c},c<aD f->vS val (aD f) x c=val c:=λhc=>zr (Nat.ne_of_lt hc);refine⟨?_,λp hp=>?_,wd (λp hp=>⟨hl (xi f hp).1,hl (xi f hp).2⟩) h.sp⟩
 .rw[hl (ED f (by omega))];exact h.nl
 .rw[hl (We f hp).1,hl (We f hp).2];exact h.ap p hp
theorem JH(hk:au f){c i:Nat}(hb:dJ f.ow c=some i)(dM:(mC f c).2=false)(h:mj cs val f):
  ∃g∈(mC f c).1,∃val',mj cs val' g/\au g/\g.cl=f.cl/\(∀a,a<aD f->val' a=val a)/\∃r j,dJ g.ow c=some j/\g.ow.getD j az=⟨3,c,r⟩:=by
 obtain⟨hi,hl⟩:=Do hb;unfold mC at dM ⊢;rw[hb]at dM ⊢;simp only at dM ⊢;unfold Vo at dM ⊢;obtain⟨p,hp⟩:∃p,p=owA f i:=⟨_,rfl⟩;have er:p.l=c:=by rw[hp];exact hl
 have hpm:p∈f.ow:=by rw[hp];exact oG hi
 by_cases h3:(owA f i).k=3
 .rw[if_pos h3];refine⟨f,by simp,val,h,hk,rfl,λ_ _=>rfl,p.r,i,hb,?_⟩;rw[<-hp]at h3;show owA f i=_;rw[<-hp,<-er,<-h3]
 .rw[if_neg h3]at dM ⊢;by_cases CL:24<=aD f
  .rw[if_pos CL]at dM;cases dM
  .rw[if_neg CL];simp only;have Y4:=wg hi h.sp;rw[show f.ow.getD i az=p from hp.symm]at Y4;obtain⟨q,cs',h1,h2,h4,h5⟩:=Y4;obtain⟨c0,t,rfl,rI⟩:=sM h2;cases t with
   |nil =>
    have hg:au (mo f i):=hk.f1 i;refine⟨mo f i,by simp,val,⟨h.nl,h.ap,?_⟩,hg,rfl,λ_ _=>rfl,p.r,?_⟩
    .show qf val (f.ow.set i ⟨3,(owA f i).l,(owA f i).r⟩) cs;refine kL (EX hi _).symm ⟨[c0],cs',h1,?_,λ_=>rfl,h5⟩;rw[<-hp];exact h2
    .obtain⟨j,hj1,hj2⟩:=Dp (l:=(mo f i).ow) (p:=⟨3,c,p.r⟩) hg.lf (by
      show(⟨3,c,p.r⟩:Pr)∈f.ow.set i ⟨3,(owA f i).l,(owA f i).r⟩;rw[<-hp,er];exact mem_set hi _)
     exact⟨j,hj1,hj2⟩
   |cons d t =>
    have hg:au (sU f c i):=hk.f2 hb (by omega);have ar:∀{a},a<aD f->vS val (aD f) c0.2 a=val a:=λha=>zr (Nat.ne_of_lt ha);have hu:=h.up c0.2;refine⟨sU f c i,by simp,vS val (aD f) c0.2,⟨hu.nl,hu.ap,?_⟩,hg,rfl,λa ha=>ar ha,aD f,?_⟩
    .show qf _ (f.ow.set i ⟨3,c,aD f⟩++[⟨4,aD f,(owA f i).r⟩]) cs;have aj5:(⟨3,c,aD f⟩::⟨4,aD f,(owA f i).r⟩::qD f.ow i:List Pr).Perm (f.ow.set i ⟨3,c,aD f⟩++[⟨4,aD f,(owA f i).r⟩]) :=
      ((List.Perm.swap _ _ _).trans ((EX hi ⟨3,c,aD f⟩).symm.cons _)).trans (perm_append_comm (l₁:=[(⟨4,aD f,(owA f i).r⟩:Pr)]))
     refine kL aj5 ⟨[c0],(d::t)++cs',h1,?_,λ_=>rfl,d::t,cs',List.Perm.refl _,?_,λh=>absurd rfl h,wd (λq hq=>⟨ar (xi f (Pj hq)).1,ar (xi f (Pj hq)).2⟩) h5⟩
     .show c0.1=vS val (aD f) c0.2 c/\c0.2=vS val (aD f) c0.2 (aD f);rw[uf,ar (by rw[<-er];exact(xi f hpm).1),rI,er];exact⟨rfl,rfl⟩
     .show Rc (d::t) (vS val (aD f) c0.2 (aD f)) (vS val (aD f) c0.2 (owA f i).r);rw[uf,<-hp,ar (xi f hpm).2];exact h2.2
    .obtain⟨j,hj1,hj2⟩:=Dp (l:=(sU f c i).ow) (p:=⟨3,c,aD f⟩) hg.lf (by
      show(⟨3,c,aD f⟩:Pr)∈f.ow.set i ⟨3,c,aD f⟩++[⟨4,aD f,(owA f i).r⟩];exact mem_append_left _ (mem_set hi _))
     exact⟨j,hj1,hj2⟩
theorem ze(hk:au f){v:Nat}(hv:v<4)(h1:(gR f v).2.1=false)(h2:(gR f v).2.2.1=false)(h3:(gR f v).2.2.2=false)(h:ie cs s f):
  ∃g∈(gR f v).1,∃val',mj cs val' g/\au g/\(∀i,i<5->val' (g.cl.getD i 0)=s i)/\∃r j,dJ g.ow (g.cl.getD (1+v) 0)=some j/\g.ow.getD j az=⟨3,g.cl.getD (1+v) 0,r⟩:=by
 obtain⟨val,hm,hs⟩:=h;unfold gR at h1 h2 h3 ⊢;by_cases e0:f.cl.getD (1+v) 0=f.cl.getD 0 0
 .rw[if_pos e0]at h1;cases h1
 .rw[if_neg e0]at h1 h2 h3 ⊢;by_cases eb:(dJ f.ow (f.cl.getD (1+v) 0)).isSome=true
  .rw[if_pos eb]at h1 h2 h3 ⊢;obtain⟨i,hi⟩:=Option.isSome_iff_exists.1 eb;obtain⟨g,hg,val',g1,g2,g3,g4,r,j,g5,g6⟩:=JH hk hi h3 hm;refine⟨g,hg,val',g1,g2,λi hi=>?_,r,j,?_⟩
   .rw[g3,g4 _ (ED f hi)];exact hs i hi
   .rw[g3];exact⟨g5,g6⟩
  .rw[if_neg eb]at h2;cases h2
theorem zd(h:mj cs val g){c j r:Nat}(h1:dJ g.ow c=some j)(h2:g.ow.getD j az=⟨3,c,r⟩):∃cs0,cs.Perm ((val c,val r)::cs0)/\qf val (qD g.ow j) cs0:=by
 obtain⟨hi,-⟩:=Do h1;have Y4:=wg hi h.sp;rw[h2]at Y4;obtain⟨q,cs',k1,k2,k3,k4⟩:=Y4;have hl:=k3 (show(3:Nat)≠4 by decide);obtain⟨c0,t,rfl,rI⟩:=sM k2;cases t with
 |cons d t=>simp at hl
 |nil =>
  refine⟨cs',?_,k4⟩;have e:c0=(val c,val r):=Prod.ext k2.1 k2.2;rw[<-e];exact k1
theorem Dn{c j:Nat}(h:dJ g.ow c=some j):nN g c=j:=by unfold nN;rw[h];rfl
theorem Mk{n:Nd}(hk:au g)(hv:n.v<4)(hm:mj cs val g)(hs:∀i,i<5->val (g.cl.getD i 0)=s i){r j:Nat}(h1:dJ g.ow (g.cl.getD (1+n.ai) 0)=some j)(h2:g.ow.getD j az=⟨3,g.cl.getD (1+n.ai) 0,r⟩):
  ie cs (vS s (1+n.v) (val r)) (gD g n):=by
 have e:gD g n=setC g (1+n.v) r:=by unfold gD;rw[Dn h1];unfold owA;rw[h2]
 rw[e];exact DL hk.c5 hm hs hv
theorem Tm{n:Nd}(hv:n.v<4)(ha:n.ai<4)(hm:mj cs val g)(hs:∀i,i<5->val (g.cl.getD i 0)=s i){r j:Nat}(h1:dJ g.ow (g.cl.getD (1+n.v) 0)=some j)(h2:g.ow.getD j az=⟨3,g.cl.getD (1+n.v) 0,r⟩):
  ∃x cs0,cs.Perm ((s (1+n.v),x)::cs0)/\ie ((s (1+n.v),teV s n.ak n.ai)::cs0) s (q9 g n):=by
 obtain⟨cs0,k1,k2⟩:=zd hm h1 h2;rw[hs (1+n.v) (by omega)]at k1;have e:q9 g n=setO g j ⟨3,g.cl.getD (1+n.v) 0,lK g n.ak n.ai⟩:=by unfold q9;simp only;rw[Dn h1];unfold owA;rw[h2]
 refine⟨_,cs0,k1,?_⟩;rw[e];refine⟨val,⟨hm.nl,hm.ap,?_⟩,hs⟩;show qf val (g.ow.set j ⟨3,g.cl.getD (1+n.v) 0,lK g n.ak n.ai⟩) _;refine kL (EX (Do h1).1 _).symm ⟨[(s (1+n.v),teV s n.ak n.ai)],cs0,List.Perm.refl _,⟨?_,?_⟩,λ_=>rfl,k2⟩
 .exact(hs _ (by omega)).symm
 .exact(FJ hm hs ha).symm
theorem BV:∀(l:List Pr) {h:CF} {c:Nat},mj cs val h->(∀p∈l,val c≠val p.l)->mj cs val (l.foldl (λh p=>cC h c p.l) h)/\(l.foldl (λh p=>cC h c p.l) h).cl=h.cl
 |[],_,_,h,_=>⟨h,rfl⟩
 |p::r,h,c,hm,hl=>by
  rw[foldl_cons];obtain⟨g1,g2⟩:=BV r (hm.pa (hl p (by simp))) (λq hq=>hl q (by simp[hq]));exact⟨g1,g2⟩
theorem RT{v:Nat}(hv:v<4)(hc:xG cs)(hm:mj cs val g)(hs:∀i,i<5->val (g.cl.getD i 0)=s i){r j:Nat}(h1:dJ g.ow (g.cl.getD (1+v) 0)=some j)(h2:g.ow.getD j az=⟨3,g.cl.getD (1+v) 0,r⟩):
  ∃x cs0,cs.Perm ((s (1+v),x)::cs0)/\ie cs0 s (rD g v):=by
 obtain⟨cs0,k1,k2⟩:=zd hm h1 h2;have tf:=hc.perm k1;have hps:0<val (g.cl.getD (1+v) 0):=tf.ps (val (g.cl.getD (1+v) 0),val r) mem_cons_self;have hm0:mj cs0 val (fD g j):=⟨hm.nl,hm.ap,k2⟩;have aM:∀p∈(fD g j).ow,val (g.cl.getD (1+v) 0)≠val p.l:=λp hp e=>by
  obtain⟨d,hd,hde⟩:=KQ hp k2;have hn:=tf.nd;rw[map_cons,nodup_cons]at hn;exact hn.1 (mem_map.2 ⟨d,hd,by rw[hde,<-e]⟩)
 have e:rD g v=(fD g j).ow.foldl (λh p=>cC h (g.cl.getD (1+v) 0) p.l) (cC (fD g j) (g.cl.getD (1+v) 0) ((fD g j).cl.getD 0 0)):=by unfold rD;simp only;rw[Dn h1]
 have h0:val (g.cl.getD (1+v) 0)≠val ((fD g j).cl.getD 0 0):=by rw[hm0.nl];omega
 obtain⟨p1,p2⟩:=BV (fD g j).ow (hm0.pa h0) aM;rw[hs (1+v) (by omega)]at k1;refine⟨_,cs0,k1,?_⟩;rw[e];refine⟨val,p1,λi hi=>?_⟩;rw[p2];exact hs i hi
theorem Rn(h5:f.cl.length=5){v:Nat}(hv:v<4)(x:Int)(h:ie cs s f):ie ((x,0)::cs) (vS s (1+v) x) (FK f v):=by
 obtain⟨val,hm,hs⟩:=h;have hu:=hm.up x;have ar:∀{a},a<aD f->vS val (aD f) x a=val a:=λha=>zr (Nat.ne_of_lt ha);have qs:mj ((x,0)::cs) (vS val (aD f) x) (q8 f ⟨3,aD f,f.cl.getD 0 0⟩):=by
  refine⟨hu.nl,hu.ap,?_⟩;show qf _ (f.ow++[⟨3,aD f,f.cl.getD 0 0⟩]) _;refine kL (perm_append_comm (l₁:=[⟨3,aD f,f.cl.getD 0 0⟩])) ⟨[(x,0)],cs,List.Perm.refl _,⟨?_,?_⟩,λ_=>rfl,hu.sp⟩
  .exact(uf _ _ _).symm
  .exact hu.nl.symm
 have ce:∀i,i<5->vS val (aD f) x ((q8 f ⟨3,aD f,f.cl.getD 0 0⟩).cl.getD i 0)=s i:=λi hi=>by
  show vS val (aD f) x (f.cl.getD i 0)=s i;rw[ar (ED f hi)];exact hs i hi
 have:=DL (f:=q8 f ⟨3,aD f,f.cl.getD 0 0⟩) (c:=aD f) h5 qs ce hv;rw[uf]at this;exact this
end
theorem RO{f:CF}(h:au f)(k:Nat):au (yo f k)/\(yo f k).ap=f.ap:=by
 refine⟨au.mk' h.c5 h.cl' ?_ h.ap ?_ h.kd,rfl⟩
 .intro p hp;obtain⟨q,hq,rfl⟩:=mem_map.1 ((kg _ k).subset hp);unfold fo1;split
  .exact⟨(h.ow q hq).1,(h.oA k).2⟩
  .exact h.ow q hq
 .have hl:=h.lf;unfold Fq at hl ⊢;refine List.Nodup.sublist ((kg _ k).map _) ?_;rw[map_map];have e:((λx:Pr=>x.l) ∘ fo1 (f.ow.getD k az).l (f.ow.getD k az).r)=(λx:Pr=>x.l):=by
   funext x;simp only[Function.comp,fo1];split <;> rfl
  rw[e];exact hl
theorem nT:∀(n:Nat) {f:CF},au f->au (kk n f)/\(kk n f).ap=f.ap
 |0,_,h=>⟨h,rfl⟩
 |n+1,f,h=>by
  unfold kk;split
  .exact⟨h,rfl⟩
  .rename_i k _;obtain⟨h1,h2⟩:=RO h k;obtain⟨g1,g2⟩:=nT n h1;exact⟨g1,g2.trans h2⟩
theorem yS{c:Cd}{n:Nat}{f:CF}(h:Td f):Td (layN c n f):=by
 unfold layN;split
 .exact(nT _ h.ok).1.tidy
 .exact h
def kx(s:Sr):Prop:=∀l∈s.kn,∀e∈l,Td e.f
theorem kx.at{s:Sr}(h:kx s)(n:Nat):∀e∈bN s n,Td e.f:=by
 unfold bN;intro e he;by_cases hn:n<s.kn.length
 .rw[getD_eq_getElem?_getD,getElem?_eq_getElem hn]at he;exact h _ (getElem_mem hn) e he
 .rw[getD_eq_getElem?_getD,getElem?_eq_none (by omega)]at he;simp at he
theorem kx.set{s:Sr}(h:kx s)(n:Nat){l:List gC}(hl:∀e∈l,Td e.f):∀l'∈s.kn.set n l,∀e∈l',Td e.f:=by
 intro l' h' e he;rcases mem_or_eq_of_mem_set h' with h'|rfl
 .exact h l' h' e he
 .exact hl e he
theorem yT{c:Cd}{n:Nat}{f:CF}{s:Sr}(hf:Td f)(h:kx s):kx (bQ c n f s):=by
 unfold bQ;split
 .exact h
 .show kx (re c (oy n (layN c n f) (ng c s _)));show ∀l∈(s.kn.set n _),_;refine h.set n (λe he=>?_);rcases mem_append.1 he with he|he
  .exact h.at n e (mem_filter.1 he).1
  .rw[mem_singleton]at he;subst he;exact yS hf
theorem PF{f:CF}(h:au f):Td (UH f) :=
 au.tidy (au.mk' h.c5 h.cl' (λp hp=>h.ow p (mem_filter.1 hp).1) h.ap (h.lf.sublist (filter_sublist.map _)) h.kd)
def c9(cs:List CF):Prop:=∀f∈cs,Td f
theorem GS{f:CF}(h:au f){a i:Nat}(ha:a<24)(hb:dJ f.ow a=none):∀g∈gt f a i,au g:=by
 intro g hg;unfold gt at hg;rcases mem_append.1 hg with hg|hg
 .split at hg
  .simp at hg
  .rename_i hd;rw[mem_singleton]at hg;subst hg;exact h.m1 (by simpa using hd)
 .split at hg
  .rw[mem_singleton]at hg;subst hg;exact h.m2 ha hb
  .simp at hg
theorem XO{c:Cd}{r:List CF × Sr}{g:CF}(hr:c9 r.1)(hg:au g):c9 (mD c r g).1/\(mD c r g).2.kn=r.2.kn/\(mD c r g).2.wr=r.2.wr:=by
 unfold mD;split
 .refine⟨λf hf=>?_,rfl,rfl⟩;rcases mem_append.1 hf with hf|hf
  .exact hr f hf
  .rw[mem_singleton]at hf;subst hf;exact hg.tidy
 .exact⟨hr,rfl,rfl⟩
theorem FY{c:Cd}:∀(l:List CF) {r:List CF × Sr},c9 r.1->(∀g∈l,au g)->c9 (l.foldl (mD c) r).1/\(l.foldl (mD c) r).2.kn=r.2.kn/\(l.foldl (mD c) r).2.wr=r.2.wr
 |[],r,hr,_=>⟨hr,rfl,rfl⟩
 |g::l,r,hr,hl=>by
  obtain⟨h1,h2,h3⟩:=XO (c:=c) hr (hl g (by simp));obtain⟨g1,g2,g3⟩:=FY l h1 (λx hx=>hl x (by simp[hx]));exact⟨g1,g2.trans h2,g3.trans h3⟩
theorem XR{c:Cd}{f:CF}{i a:Nat}{r:List CF × Sr}(ha:a<24)(hf:au f)(hr:c9 r.1):c9 (nS c f i r a).1/\(nS c f i r a).2.kn=r.2.kn/\(nS c f i r a).2.wr=r.2.wr:=by
 unfold nS;split
 .rename_i h;unfold fnA at h;simp only[Bool.and_eq_true,Bool.not_eq_true']at h;refine FY _ hr (GS hf ha ?_);have:=h.2;cases hb:dJ f.ow a with
  |none=>rfl
  |some j=>rw[hb]at this;simp at this
 .exact⟨hr,rfl,rfl⟩
theorem FZ{c:Cd}{f:CF}{i:Nat}(hf:au f):∀(l:List Nat) {r:List CF × Sr},(∀a∈l,a<24)->c9 r.1->c9 (l.foldl (nS c f i) r).1/\(l.foldl (nS c f i) r).2.kn=r.2.kn/\(l.foldl (nS c f i) r).2.wr=r.2.wr
 |[],r,_,hr=>⟨hr,rfl,rfl⟩
 |a::l,r,hl,hr=>by
  obtain⟨h1,h2,h3⟩:=XR (c:=c) (i:=i) (hl a (by simp)) hf hr;obtain⟨g1,g2,g3⟩:=FZ hf l (λx hx=>hl x (by simp[hx])) h1;exact⟨g1,g2.trans h2,g3.trans h3⟩
theorem RM{c:Cd}{f:CF}(hf:au f){r:List CF × Sr}(i:Nat)(hr:c9 r.1):c9 (eZ c f r i).1/\(eZ c f r i).2.kn=r.2.kn/\(eZ c f r i).2.wr=r.2.wr:=FZ hf _ (λa ha=>mem_range.1 ha) hr
theorem AQ{c:Cd}{f:CF}(hf:au f):∀(l:List Nat) {r:List CF × Sr},c9 r.1->c9 (l.foldl (eZ c f) r).1/\(l.foldl (eZ c f) r).2.kn=r.2.kn/\(l.foldl (eZ c f) r).2.wr=r.2.wr
 |[],r,hr=>⟨hr,rfl,rfl⟩
 |i::l,r,hr=>by
  obtain⟨h1,h2,h3⟩:=RM (c:=c) hf i hr;obtain⟨g1,g2,g3⟩:=AQ hf l h1;exact⟨g1,g2.trans h2,g3.trans h3⟩
theorem Mb{c:Cd}{g:CF}(hg:Td g){r:List CF × Sr}{res:List CF}(hr:c9 r.1)(hs:c9 res):c9 (vj c g r res).1/\c9 (vj c g r res).2.1/\(vj c g r res).2.2.kn=r.2.kn/\(vj c g r res).2.2.wr=r.2.wr:=by
 have app:∀{x:CF},Td x->c9 (res++[x]):=λhx f hf=>by
  rcases mem_append.1 hf with hf|hf
  .exact hs f hf
  .rw[mem_singleton]at hf;subst hf;exact hx
 unfold vj;split
 .exact⟨app hg,hr,rfl,rfl⟩
 .exact⟨app (PF hg.ok),AQ hg.ok _ hr⟩
theorem mY{c:Cd}:∀(n k:Nat) {res:List CF} {r:List CF × Sr},c9 r.1->c9 res->c9 (iR c n k res r).1/\(iR c n k res r).2.kn=r.2.kn/\(iR c n k res r).2.wr=r.2.wr
 |0,k,res,r,_,hs=>⟨hs,rfl,rfl⟩
 |n+1,k,res,r,hr,hs=>by
  unfold iR;split
  .rename_i h;have hg:Td (r.1.getD k ⟨[],[],[]⟩):=by
    rw[getD_eq_getElem?_getD,getElem?_eq_getElem h.1];exact hr _ (getElem_mem h.1)
   obtain⟨h1,h2,h3,h4⟩:=Mb (c:=c) hg hr hs;obtain⟨g1,g2,g3⟩:=mY (c:=c) n (k+1) h2 h1;exact⟨g1,g2.trans h3,g3.trans h4⟩
  .exact⟨hs,rfl,rfl⟩
theorem GC{c:Cd}{n:Nat}:∀(l:List CF) {s:Sr},c9 l->kx s->kx (l.foldl (λs g=>bQ c n g s) s)
 |[],_,_,h=>h
 |g::l,s,hl,h=>GC l (λx hx=>hl x (by simp[hx])) (yT (hl g (by simp)) h)
theorem Dg{c:Cd}{fuel a b:Nat}{f:CF}{s:Sr}(hf:Td f)(h:kx s):kx (eo c fuel a b f s):=by
 unfold eo;split
 .exact yT hf h
 .have h1:c9 [f]:=λx hx=>by rw[mem_singleton]at hx;subst hx;exact hf
  obtain⟨g1,g2,-⟩:=mY (c:=c) fuel 0 (r:=([f],mf a 2 s)) (res:=[]) h1 (λx hx=>by simp at hx);refine GC _ g1 ?_;unfold kx;rw[g2];exact h
theorem De{c:Cd}{fuel a b:Nat}:∀(l:List CF) {s:Sr},c9 l->kx s->kx (l.foldl (λs g=>eo c fuel a b g s) s)
 |[],_,_,h=>h
 |g::l,s,hl,h=>De l (λx hx=>hl x (by simp[hx])) (Dg (hl g (by simp)) h)
theorem ny(b:Bool)(n k:Nat)(s:Sr):(wrI b n k s).kn=s.kn:=by unfold wrI;split <;> rfl
theorem O9{c:Cd}{fuel n:Nat}{f:CF}{s:Sr}(hv:(c.nds.getD n bj).v<4)(ha:(c.nds.getD n bj).ai<4)(hf:Td f)(h:kx s):kx (qB c fuel n f s):=by
 obtain⟨h1,h2⟩:=pG hv ha hf;unfold qB;refine De _ h2 (De _ h1 ?_);unfold kx;show ∀l∈(wrI _ n 4 (wrI _ n 3 (wrI _ n 2 s))).kn,_;rw[ny,ny,ny];exact h
def Db(s:Sr)(n:Nat)(cs:List (Int × Int))(t:Nat->Int):Prop:=∃e∈bN s n,ie cs t e.f
def Mg(s:Sr)(n k:Nat):Bool:=(s.wr.getD n []).getD k false
def Sf(s:Sr):Prop:=s.fu=false/\∀n k,k=2\/k=3\/k=4->Mg s n k=false
structure mA(N:Nat)(s:Sr):Prop where
 kn:s.kn.length=N
 wr:s.wr.length=N
 rw:∀r∈s.wr,r.length=5
 td:kx s
structure nA(s s':Sr):Prop where
 fu:s.fu=true->s'.fu=true
 fl:∀n k,Mg s n k=true->Mg s' n k=true
 kn:∀n cs t,xG cs->Db s n cs t->Db s' n cs t
theorem nA.refl(s:Sr):nA s s:=⟨λh=>h,λ_ _ h=>h,λ_ _ _ _ h=>h⟩
theorem nA.trans{a b c:Sr}(h:nA a b)(h':nA b c):nA a c:=⟨λx=>h'.fu (h.fu x),λn k x=>h'.fl n k (h.fl n k x),λn cs t hc x=>h'.kn n cs t hc (h.kn n cs t hc x)⟩
theorem nA.sf{a b:Sr}(h:nA a b)(hs:Sf b):Sf a:=by
 refine⟨?_,λn k hk=>?_⟩
 .cases hf:a.fu with
  |false=>rfl
  |true=>have:=h.fu hf;rw[hs.1]at this;cases this
 .cases hf:Mg a n k with
  |false=>rfl
  |true=>have:=h.fl n k hf;rw[hs.2 n k hk]at this;cases this
section
variable {c:Cd} {N n:Nat} {f:CF} {s:Sr} {cs:List (Int × Int)} {t:Nat->Int}
theorem ie.layN(hk:au f)(h:ie cs t f):ie cs t (Go.Proofs.YtciihepbeacppaaGreat.layN c n f):=by
 unfold Go.Proofs.YtciihepbeacppaaGreat.layN;split
 .exact ie.td (nT _ hk).1 h.fo
 .exact h
theorem tH{l:List gC}(hn:n<s.kn.length)(m:Nat):(s.kn.set n l).getD m []=if n=m then l else bN s m:=bS _ _ _ _ _ hn
theorem yU(hf:Td f)(hs:mA N s)(hn:n<N):nA s (bQ c n f s)/\mA N (bQ c n f s)/\∀cs t,xG cs->ie cs t f->Db (bQ c n f s) n cs t:=by
 have kz:kx (bQ c n f s):=yT hf hs.td;have hg:Td (layN c n f):=yS hf;have fC:n<s.kn.length:=by rw[hs.kn];exact hn
 unfold bQ at kz ⊢;split
 .rename_i nX;rw[if_pos nX]at kz;refine⟨⟨λh=>?_,λ_ _ h=>h,λ_ _ _ _ h=>h⟩,⟨hs.kn,hs.wr,hs.rw,kz⟩,λcs t hc h=>?_⟩
  .show(s.fu||_)=true;rw[h];rfl
  .obtain⟨e,he,hw⟩:=any_eq_true.1 nX;exact⟨e,he,ie.within hc (hs.td.at n e he).ok hw (h.layN hf.ok)⟩
 .rename_i nX;rw[if_neg nX]at kz;have hkA:∀m,bN (re c (oy n (layN c n f) (ng c s (2*(bN s n).length)))) m=if n=m then (bN s n).filter (λe=>!C3 e.f (layN c n f))++[⟨layN c n f,false⟩] else bN s m:=λm=>tH fC m
  refine⟨⟨λh=>?_,λ_ _ h=>h,λm cs t hc h=>?_⟩,⟨?_,hs.wr,hs.rw,kz⟩,λcs t hc h=>?_⟩
  .show((s.fu||_)||_)=true;rw[h];rfl
  .obtain⟨e,he,jB⟩:=h;unfold Db;rw[hkA];by_cases e0:n=m
   .subst e0;rw[if_pos rfl];by_cases hw:C3 e.f (layN c n f)=true
    .exact⟨⟨layN c n f,false⟩,by simp,ie.within hc hg.ok hw jB⟩
    .exact⟨e,mem_append_left _ (mem_filter.2 ⟨he,by simpa using hw⟩),jB⟩
   .rw[if_neg e0];exact⟨e,he,jB⟩
  .show(s.kn.set n _).length=N;rw[length_set];exact hs.kn
  .unfold Db;rw[hkA,if_pos rfl];exact⟨⟨layN c n f,false⟩,by simp,h.layN hf.ok⟩
theorem GE:∀(l:List CF) {s:Sr},c9 l->mA N s->n<N->nA s (l.foldl (λs g=>bQ c n g s) s)/\mA N (l.foldl (λs g=>bQ c n g s) s)
 |[],s,_,h,_=>⟨nA.refl s,h⟩
 |g::l,s,hl,h,hn=>by
  rw[foldl_cons];obtain⟨h1,h2,-⟩:=yU (c:=c) (hl g (by simp)) h hn;obtain⟨h3,h4⟩:=GE l (λx hx=>hl x (by simp[hx])) h2 hn;exact⟨h1.trans h3,h4⟩
theorem ym{k:Nat}(hs:mA N s)(hn:n<N)(hk:k<5)(m j:Nat):Mg (mf n k s) m j=if n=m/\k=j then true else Mg s m j:=by
 have hw:n<s.wr.length:=by rw[hs.wr];exact hn
 have hr:(s.wr.getD n []).length=5:=by
  rw[getD_eq_getElem?_getD,getElem?_eq_getElem hw];exact hs.rw _ (getElem_mem hw)
 unfold Mg;show((s.wr.set n ((s.wr.getD n []).set k true)).getD m []).getD j false=_;rw[bS _ _ _ _ _ hw];by_cases e:n=m
 .subst e;rw[if_pos rfl,bS _ _ _ _ _ (by omega)];by_cases e2:k=j
  .rw[if_pos e2,if_pos ⟨rfl,e2⟩]
  .rw[if_neg e2,if_neg (λh=>e2 h.2)]
 .rw[if_neg e,if_neg (λh=>e h.1)]
theorem Fb{k:Nat}(hs:mA N s)(hn:n<N)(hk:k<5):nA s (mf n k s)/\mA N (mf n k s):=by
 refine⟨⟨λh=>h,λm j h=>?_,λ_ _ _ _ h=>h⟩,⟨hs.kn,?_,λr hr=>?_,hs.td⟩⟩
 .rw[ym hs hn hk];split
  .rfl
  .exact h
 .show(s.wr.set n _).length=N;rw[length_set];exact hs.wr
 .rcases mem_or_eq_of_mem_set (show r∈s.wr.set n _ from hr) with h|rfl
  .exact hs.rw r h
  .rw[length_set];have hw:n<s.wr.length:=(by rw[hs.wr];exact hn);rw[getD_eq_getElem?_getD,getElem?_eq_getElem hw];exact hs.rw _ (getElem_mem hw)
theorem md{b:Bool}{k:Nat}(hs:mA N s)(hn:n<N)(hk:k<5):nA s (wrI b n k s)/\mA N (wrI b n k s)/\(k=2\/k=3\/k=4->Sf (wrI b n k s)->b=false):=by
 unfold wrI;split
 .obtain⟨h1,h2⟩:=Fb hs hn hk;refine⟨h1,h2,λkH hS=>?_⟩;have:=hS.2 n k kH;rw[ym hs hn hk,if_pos ⟨rfl,rfl⟩]at this;cases this
 .rename_i hb;exact⟨nA.refl s,hs,λ_ _=>by simpa using hb⟩
theorem XI:∀(m k:Nat) {res:List CF} {r:List CF × Sr},r.2.fu=true->(iR c m k res r).2.fu=true
 |0,_,_,_,h=>h
 |m+1,k,res,r,h=>by
  unfold iR;rw[if_neg (λh2=>by rw[h]at h2;cases h2.2)];exact h
theorem Di{fuel a b:Nat}(hf:Td f)(hs:mA N s)(ha:a<N)(hb:b<N):nA s (eo c fuel a b f s)/\mA N (eo c fuel a b f s)/\(Sf (eo c fuel a b f s)->∀cs t,xG cs->ie cs t f->Db (eo c fuel a b f s) b cs t):=by
 unfold eo;split
 .obtain⟨h1,h2,h3⟩:=yU (c:=c) hf hs hb;exact⟨h1,h2,λ_=>h3⟩
 .simp only;obtain⟨g1,g2⟩:=Fb hs ha (k:=2) (by omega);obtain⟨k1,k2,k3⟩:=mY (c:=c) fuel 0 (res:=[]) (r:=([f],mf a 2 s)) (λg hg=>by rw[mem_singleton.1 hg];exact hf) (λg hg=>by simp at hg);have hL:nA (mf a 2 s) (iR c fuel 0 [] ([f],mf a 2 s)).2:=by
   refine⟨λh=>XI fuel 0 h,λm k h=>?_,λm cs t hc h=>?_⟩
   .unfold Mg;rw[k3];exact h
   .unfold Db bN;rw[k2];exact h
  have hS:mA N (iR c fuel 0 [] ([f],mf a 2 s)).2:=⟨by rw[k2];exact g2.kn,by rw[k3];exact g2.wr,λr hr=>by rw[k3]at hr;exact g2.rw r hr,λl hl=>by rw[k2]at hl;exact g2.td l hl⟩;obtain⟨q1,q2⟩:=GE (c:=c) (n:=b) (iR c fuel 0 [] ([f],mf a 2 s)).1 k1 hS hb;refine⟨g1.trans (hL.trans q1),q2,λhsf=>?_⟩;have h9:=((hL.trans q1).sf hsf).2 a 2 (zq0 rfl);rw[ym hs ha (by omega),if_pos ⟨rfl,rfl⟩]at h9;cases h9
theorem xR{fuel a b:Nat}(ha:a<N):∀(l:List CF) {s:Sr},(l≠[]->b<N)->c9 l->mA N s->nA s (l.foldl (λs g=>eo c fuel a b g s) s)/\mA N (l.foldl (λs g=>eo c fuel a b g s) s) /\
  (Sf (l.foldl (λs g=>eo c fuel a b g s) s)->∀g∈l,∀cs t,xG cs->ie cs t g->Db (l.foldl (λs g=>eo c fuel a b g s) s) b cs t)
 |[],s,_,_,h=>⟨nA.refl s,h,λ_ g hg=>by simp at hg⟩
 |g::l,s,hb,hl,h=>by
  rw[foldl_cons];have hbN:=hb (by simp);obtain⟨h1,h2,h3⟩:=Di (c:=c) (fuel:=fuel) (hl g (by simp)) h ha hbN;obtain⟨h4,h5,h6⟩:=xR ha l (λ_=>hbN) (λx hx=>hl x (by simp[hx])) h2;refine⟨h1.trans h4,h5,λhS x hx cs t hc jB=>?_⟩;rcases mem_cons.1 hx with rfl|hx
  .exact h4.kn _ _ _ hc (h3 (h4.sf hS) cs t hc jB)
  .exact h6 hS x hx cs t hc jB
structure Wq(c:Cd)(s:Sr)(n:Nat)(f:CF):Prop where
 nu:(d7 (c.nds.getD n bj) f).nu=false
 da:(d7 (c.nds.getD n bj) f).da=false
 fu:(d7 (c.nds.getD n bj) f).fu=false
 en:(c.nds.getD n bj).op=0->fJ f=[]
 nx:∀g∈(d7 (c.nds.getD n bj) f).nx,∀cs t,xG cs->ie cs t g->Db s (c.nds.getD n bj).nx cs t
 ot:∀g∈(d7 (c.nds.getD n bj) f).ot,∀cs t,xG cs->ie cs t g->Db s (c.nds.getD n bj).ot cs t
theorem Wq.mono{s':Sr}(h:Wq c s n f)(hl:nA s s'):Wq c s' n f:=⟨h.nu,h.da,h.fu,h.en,λg hg cs t hc hf=>hl.kn _ _ _ hc (h.nx g hg cs t hc hf),λg hg cs t hc hf=>hl.kn _ _ _ hc (h.ot g hg cs t hc hf)⟩
end
