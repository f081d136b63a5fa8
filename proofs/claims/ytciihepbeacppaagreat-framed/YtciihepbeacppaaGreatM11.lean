import Derived.Test.YtciihepbeacppaaGreatM10
namespace Go.Proofs.YtciihepbeacppaaGreat
open Go.RowKit List
set_option linter.unusedVariables false
def Bs(p:Pr)(l:List Pr):Nat->Nat
 |0=>0
 |k+1=>if LV p (l.getD k ax)=true then Bs p l k else k+1
def fQ(l:List Pr)(p:Pr):List Pr:=l.take (Bs p l l.length)++p::l.drop (Bs p l l.length)
def Dy(p q:Pr):Bool:=decide (p.k=q.k)&&decide (p.l=q.l)&&decide (p.r=q.r)
def lW(a:List Pr)(p:Pr):List Pr:=if a=[]\/Dy p (a.getD (a.length-1) ax)=false then a++[p] else a
def mh(l:List Pr):List Pr:=(l.foldl fQ []).foldl lW []
theorem AU{p q:Pr}:Dy p q=true↔p=q:=by
 unfold Dy;cases p;cases q
 simp[and_assoc]
theorem GD(p:Pr)(l:List Pr):∀k,Bs p l k<=k
 |0=>zq4 _
 |k+1=>by
  unfold Bs;split
  .exact Nat.le_succ_of_le (GD p l k)
  .exact zq4 _
theorem Ro(p:Pr)(l:List Pr):∀k j,Bs p l k<=j->j<k->LV p (l.getD j ax)=true
 |0,j,_,h=>by omega
 |k+1,j,h1,h2=>by
  unfold Bs at h1;split at h1
  .rename_i h;by_cases e:j=k
   .rw[e];exact h
   .exact Ro p l k j h1 (by omega)
  .omega
theorem Rn(p:Pr)(l:List Pr):∀k,0<Bs p l k->LV p (l.getD (Bs p l k-1) ax)=false
 |0,h=>by simp[Bs]at h
 |k+1,h=>by
  unfold Bs at h ⊢;split
  .rename_i hb;rw[if_pos hb]at h;exact Rn p l k h
  .rename_i hb;simpa using hb
def BY(p q:Pr):Prop:=p.l<q.l\/(p.l=q.l/\p.r<=q.r)
def Er(p q:Pr):Prop:=p.l<q.l\/(p.l=q.l/\p.r<q.r)
theorem G7{p q:Pr}:LV p q=true↔Er p q:=by simp[LV,Er]
theorem SQ{p q:Pr}:LV p q=false↔BY q p:=by
 rw[<-Bool.not_eq_true,G7];unfold Er BY;omega
theorem yS{p q r:Pr}(h1:BY p q)(h2:BY q r):BY p r:=by unfold BY at *;omega
theorem ag9{p q:Pr}(h:Er p q):BY p q:=by unfold Er BY at *;omega
theorem K6{p q r:Pr}(h1:Er p q)(h2:Er q r):Er p r:=by unfold Er at *;omega
theorem bG{l:List Pr}{j:Nat}(h:j<l.length):l.getD j ax∈l:=by
 rw[getD_eq_getElem?_getD,getElem?_eq_getElem h];exact getElem_mem h
theorem cQ{l:List Pr}{j:Nat}(h:j<l.length):l.getD j ax=l[j]:=by
 rw[getD_eq_getElem?_getD,getElem?_eq_getElem h];rfl
theorem Pv{l:List Pr}{p q:Pr}:q∈fQ l p↔q=p\/q∈l:=by
 unfold fQ;rw[mem_append,mem_cons];constructor
 .rintro(h|h|h)
  .exact zq1 (mem_of_mem_take h)
  .exact zq0 h
  .exact zq1 (mem_of_mem_drop h)
 .rintro(h|h)
  .exact zq1 (zq0 h)
  .rw[<-take_append_drop (Bs p l l.length) l,mem_append]at h;rcases h with h|h
   .exact zq0 h
   .exact zq1 (zq1 h)
theorem Pu(l:List Pr)(p:Pr):(fQ l p).length=l.length+1:=by
 unfold fQ;have:=GD p l l.length;simp only[length_append,length_take,length_cons,length_drop];omega
theorem Pw{l:List Pr}{p:Pr}(h:l.Pairwise BY):(fQ l p).Pairwise BY:=by
 have l6:=GD p l l.length;have ar:=Ro p l l.length;have cN:=Rn p l l.length;unfold fQ;generalize hk:Bs p l l.length=k at *;have hd:∀q∈l.drop k,BY p q:=by
  intro q hq;obtain⟨j,hj,rfl⟩:=mem_iff_getElem.1 hq;rw[length_drop]at hj;rw[getElem_drop,<-cQ (by omega)];exact ag9 (G7.1 (ar (k+j) (by omega) (by omega)))
 have ht:∀q∈l.take k,BY q p:=by
  intro q hq;obtain⟨j,hj,rfl⟩:=mem_iff_getElem.1 hq;rw[length_take]at hj;have h1:=SQ.1 (cN (by omega));rw[getElem_take];by_cases e:j=k-1
  .rw[cQ (by omega)]at h1;subst e;exact h1
  .refine yS ?_ h1;rw[cQ (by omega)];exact pairwise_iff_getElem.1 h j (k-1) (by omega) (by omega) (by omega)
 rw[pairwise_append,pairwise_cons];refine⟨h.sublist (take_sublist _ _),⟨hd,h.sublist (drop_sublist _ _)⟩,?_⟩;intro a ha b hb;rcases mem_cons.1 hb with rfl|hb
 .exact ht a ha
 .exact yS (ht a ha) (hd b hb)
theorem qE:∀(l:List Pr) {a:List Pr},a.Pairwise BY->(l.foldl fQ a).Pairwise BY/\(∀q,q∈l.foldl fQ a↔q∈a\/q∈l)/\(l.foldl fQ a).length=a.length+l.length
 |[],a,h=>⟨h,λq=>by simp,by simp⟩
 |p::r,a,h=>by
  obtain⟨h1,h2,h3⟩:=qE r (Pw (p:=p) h);rw[foldl_cons];refine⟨h1,λq=>?_,?_⟩
  .rw[h2,Pv,mem_cons];constructor
   .rintro((h|h)|h)
    .exact zq1 (zq0 h)
    .exact zq0 h
    .exact zq1 (zq1 h)
   .rintro(h|h|h)
    .exact zq0 (zq1 h)
    .exact zq0 (zq0 h)
    .exact zq1 h
  .rw[h3,Pu,length_cons];omega
theorem Nt{a:List Pr}{p:Pr}:p∈lW a p:=by
 unfold lW;split
 .simp
 .rename_i h;rw[not_or]at h;have h1:Dy p (a.getD (a.length-1) ax)=true:=by simpa using h.2
  rw[AU]at h1;rw[h1];exact bG (by have:=length_pos_iff.2 h.1;omega)
theorem S6{a:List Pr}{p q:Pr}(h:q∈a):q∈lW a p:=by unfold lW;split;exact mem_append_left _ h;exact h
theorem Hh:∀(l:List Pr) {a:List Pr} {q:Pr},q∈l.foldl lW a↔q∈a\/q∈l
 |[],a,q=>by simp
 |p::r,a,q=>by
  rw[foldl_cons,Hh r,mem_cons];constructor
  .rintro(h|h)
   .unfold lW at h;split at h
    .rw[mem_append,mem_singleton]at h;rcases h with h|h
     .exact zq0 h
     .exact zq1 (zq0 h)
    .exact zq0 h
   .exact zq1 (zq1 h)
  .rintro(h|rfl|h)
   .exact zq0 (S6 h)
   .exact zq0 Nt
   .exact zq1 h
theorem dA{l:List Pr}{q:Pr}:q∈mh l↔q∈l:=by
 unfold mh;rw[Hh,(qE l (a:=[]) List.Pairwise.nil).2.1];simp
theorem zL{K:Nat}:∀(l:List Pr) {a:List Pr},a.Pairwise Er->l.Pairwise BY->(∀p∈a,∀q∈l,BY p q)->(∀p∈a,p.k=K)->(∀p∈l,p.k=K)->(l.foldl lW a).Pairwise Er
 |[],a,h,_,_,_,_=>h
 |p::r,a,h,hl,qc,ha,hk=>by
  rw[foldl_cons];have h1:=pairwise_cons.1 hl;by_cases hn:a=[]\/Dy p (a.getD (a.length-1) ax)=false
  .have e:lW a p=a++[p]:=(by unfold lW;rw[if_pos hn]);rw[e];refine zL (K:=K) r ?_ h1.2 ?_ ?_ (λq hq=>hk q (by simp[hq]))
   .rw[pairwise_append];refine⟨h,by simp,λx hx y hy=>?_⟩;rw[mem_singleton]at hy;subst hy;have Eo:=qc x hx y (by simp);rcases hn with hn|hn
    .subst hn;simp at hx
    .obtain⟨j,hj,rfl⟩:=mem_iff_getElem.1 hx;have hz:BY (a.getD (a.length-1) ax) y:=qc _ (bG (by omega)) y (by simp);have hzl:Er (a.getD (a.length-1) ax) y:=by
      have KH:y.k=K:=hk y (by simp);have mF:=ha _ (bG (l:=a) (j:=a.length-1) (by omega));generalize a.getD (a.length-1) ax=z at hn hz mF;have aL:y≠z:=λe=>by rw[AU.2 e]at hn;cases hn
      unfold BY at hz;unfold Er;rcases hz with h|⟨h,h'⟩
      .exact zq0 h
      .right;refine⟨h,?_⟩;by_cases hr:z.r=y.r
       .exfalso;apply aL;cases y;cases z
        simp_all
       .omega
     by_cases e:j=a.length-1
     .subst e;rwa [cQ (by omega)]at hzl
     .refine K6 ?_ hzl;rw[cQ (by omega)];exact pairwise_iff_getElem.1 h j (a.length-1) hj (by omega) (by omega)
   .intro x hx y hy;rw[mem_append,mem_singleton]at hx;rcases hx with hx|rfl
    .exact qc x hx y (by simp[hy])
    .exact h1.1 y hy
   .intro x hx;rw[mem_append,mem_singleton]at hx;rcases hx with hx|rfl
    .exact ha x hx
    .exact hk x (by simp)
  .have e:lW a p=a:=(by unfold lW;rw[if_neg hn]);rw[e];exact zL (K:=K) r h h1.2 (λx hx y hy=>qc x hx y (by simp[hy])) ha (λq hq=>hk q (by simp[hq]))
theorem VH{K:Nat}{l:List Pr}(hk:∀p∈l,p.k=K):(mh l).Pairwise Er:=by
 obtain⟨h1,h2,-⟩:=qE l (a:=[]) List.Pairwise.nil;refine zL (K:=K) _ List.Pairwise.nil h1 (λp hp=>by simp at hp) (λp hp=>by simp at hp) (λp hp=>hk p ?_);have:=(h2 p).1 hp;simpa using this
theorem Nq:∀(l:List Pr) {a:List Pr},mM (a++l)->l.foldl lW a=a++l
 |[],a,_=>by simp
 |p::r,a,h=>by
  have e:lW a p=a++[p]:=by
   unfold lW;rw[if_pos];by_cases ha:a=[]
   .exact zq0 ha
   .right;cases hx:Dy p (a.getD (a.length-1) ax) with
    |false=>rfl
    |true =>
     exfalso;rw[AU]at hx;have hm:=bG (l:=a) (j:=a.length-1) (by have:=length_pos_iff.2 ha;omega);rw[<-hx]at hm;unfold mM at h;rw[map_append,nodup_append]at h;exact h.2.2 p.l (mem_map_of_mem (f:=(·.l)) hm) p.l (by simp) rfl
  rw[foldl_cons,e,Nq r (by rw[append_assoc];exact h),append_assoc];rfl
theorem KX(l:List Pr)(p:Pr):(fQ l p).Perm (p::l):=by
 unfold fQ;refine perm_middle.trans ?_;rw[take_append_drop]
theorem yQ:∀(l:List Pr) {a:List Pr},(l.foldl fQ a).Perm (a++l)
 |[],a=>by simp
 |p::r,a=>by
  rw[foldl_cons];refine(yQ r).trans ?_;refine((KX a p).append_right r).trans ?_;exact(perm_middle (l₁:=a) (l₂:=r) (a:=p)).symm
theorem re{l:List Pr}(h:mM l):(mh l).Perm l:=by
 unfold mh;have h1:=yQ l (a:=[]);rw[Nq _ (by unfold mM at h ⊢;rw[nil_append];exact((h1.map (·.l)).nodup_iff).2 (by simpa using h)),nil_append];simpa using h1
theorem VI{l:List Pr}(h:l.Pairwise Er)(hb:∀p∈l,p.l<24/\p.r<24):l.length<=576:=by
 have h1:(l.map (λp=>p.l*24+p.r)).Nodup:=by
  unfold List.Nodup;rw[pairwise_map];refine List.Pairwise.imp_of_mem ?_ h;intro a b ha xp qw e;have:=hb a ha;have:=hb b xp;unfold Er at qw;omega
 have:=List.Nodup.length_le_of_subset h1 (l₂:=range 576) (λc hc=>by
  obtain⟨p,hp,rfl⟩:=mem_map.1 hc;have:=hb p hp;rw[mem_range];omega)
 simpa using this
def iU(p:Pr):Pr:=if p.r<p.l then ⟨p.k,p.r,p.l⟩ else p
def orF(f:CF):CF:=⟨f.cl,mh (f.ap.map iU),mh f.ow⟩
def aZ(f:CF):CF:=orF (qg (dm f))
structure aq(f:CF):Prop where
 c5:f.cl.length=5
 cl:∀c∈kP f,c<24
 ow:∀p∈f.ow,p.l<24/\p.r<24
 ap:∀p∈f.ap,p.l<24/\p.r<24
 lf:mM f.ow
 kd:∀p∈f.ap,p.k=2
theorem aq.owLen{f:CF}(h:aq f):f.ow.length<=24:=by
 have h0:d9 (f.ow.map (·.l)):=⟨h.lf,λc hc=>by obtain⟨p,hp,rfl⟩:=mem_map.1 hc;exact(h.ow p hp).1⟩;simpa using h0.len
theorem Gr(f:CF):b8 (dm f)=b8 f:=by
 have e:∀k ms,zm (dm f) k ms=zm f k ms:=λk ms=>rfl;have e2:∀n k ms,oV (dm f) n k ms=oV f n k ms:=by
  intro n;induction n with
  |zero=>intro k ms;rfl
  |succ n ih=>intro k ms;unfold oV;rw[e,ih]
 have e3:zc (dm f)=zc f:=by funext ms p;unfold zc;rw[e2]
 unfold b8;rw[e2,e3];rfl
theorem aq.fg{f:CF}(h:aq f):aq (dm f):=⟨h.c5,h.cl,h.ow,λp hp=>h.ap p ((mem_filter.1 hp).1),h.lf,λp hp=>h.kd p ((mem_filter.1 hp).1)⟩
theorem gF{f:CF}{p:Pr}(hp:p∈(dm f).ap):p.l∈bQ (dm f)/\p.r∈bQ (dm f):=by
 have:=(mem_filter.1 hp).2;unfold xQ at this;simp only[Bool.and_eq_true,decide_eq_true_eq]at this;exact this.1
theorem m8{ms:List Nat}(h:d9 ms){c:Nat}(hc:c∈ms):ms.idxOf c<24:=zq6 (idxOf_lt_length_iff.2 hc) h.len
theorem Ar{ms:List Nat}{c d:Nat}(hc:c∈ms)(hd:d∈ms)(e:ms.idxOf c=ms.idxOf d):c=d:=by
 have h1:=getElem_idxOf (idxOf_lt_length_iff.2 hc);have h2:=getElem_idxOf (idxOf_lt_length_iff.2 hd);rw[<-h1,<-h2];simp only[e]
theorem He{f:CF}(g:Nat->Nat)(ap ow:List Pr):kP ⟨(kP f).map g,ap,ow⟩=(kP f).map g:=rfl
theorem aq.rn{f:CF}(h:aq f)(hl:∀p∈f.ap,p.l∈bQ f/\p.r∈bQ f):aq (qg f):=by
 have hM:=(q9 h.ow h.cl).1;have hL:=iQ h.ow h.cl h.lf;refine⟨rfl,?_,?_,?_,?_,?_⟩
 .intro c hc;unfold qg at hc;rw[He]at hc;obtain⟨d,hd,rfl⟩:=mem_map.1 hc;exact m8 hM (hL d (mem_append_left _ hd))
 .intro p hp;obtain⟨q,hq,rfl⟩:=mem_map.1 hp;have RT:q.l∈bQ f:=mem_append_right _ (mem_flatMap.2 ⟨q,hq,by simp⟩);have hq2:q.r∈bQ f:=mem_append_right _ (mem_flatMap.2 ⟨q,hq,by simp⟩);exact⟨m8 hM (hL _ RT),m8 hM (hL _ hq2)⟩
 .intro p hp;obtain⟨q,hq,rfl⟩:=mem_map.1 hp;exact⟨m8 hM (hL _ (hl q hq).1),m8 hM (hL _ (hl q hq).2)⟩
 .have h2:=h.lf;unfold mM qg at *;simp only[map_map];have e:((λx:Pr=>x.l) ∘ jf (b8 f))=(λc=>(b8 f).idxOf c) ∘ (λx:Pr=>x.l):=rfl;rw[e,<-map_map];unfold List.Nodup at h2 ⊢;rw[pairwise_map];refine List.Pairwise.imp_of_mem ?_ h2;intro a b ha hb qw e2;obtain⟨p,hp,rfl⟩:=mem_map.1 ha;obtain⟨q,hq,rfl⟩:=mem_map.1 hb;exact qw (Ar (hL _ (mem_append_right _ (mem_flatMap.2 ⟨p,hp,by simp⟩))) (hL _ (mem_append_right _ (mem_flatMap.2 ⟨q,hq,by simp⟩))) e2)
 .intro p hp;obtain⟨q,hq,rfl⟩:=mem_map.1 hp;exact h.kd q hq
theorem XP(p:Pr):(iU p).k=p.k:=by unfold iU;split <;> rfl
theorem acb{p:Pr}(h:p.l<24/\p.r<24):(iU p).l<24/\(iU p).r<24:=by unfold iU;split;exact⟨h.2,h.1⟩;exact h
theorem aq.or{f:CF}(h:aq f):aq (orF f):=by
 refine⟨h.c5,h.cl,λp hp=>h.ow p (dA.1 hp),?_,?_,?_⟩
 .intro p hp;obtain⟨q,hq,rfl⟩:=mem_map.1 (dA.1 hp);exact acb (h.ap q hq)
 .have:=(re h.lf).map (·.l);exact this.nodup_iff.2 h.lf
 .intro p hp;obtain⟨q,hq,rfl⟩:=mem_map.1 (dA.1 hp);rw[XP];exact h.kd q hq
theorem aq.td{f:CF}(h:aq f):aq (aZ f):=(h.fg.rn (λ_ hp=>gF hp)).or
theorem Vc{f:CF}(h:aq f):(orF f).ap.length<=576:=by
 refine VI (VH (K:=2) ?_) (h.or).ap;intro p hp;obtain⟨q,hq,rfl⟩:=mem_map.1 hp;rw[XP];exact h.kd q hq
theorem VN{f:CF}(h:aq f):(aZ f).ap.length<=576:=Vc (h.fg.rn (λ_ hp=>gF hp))
def mH(s:List Nat)(p:Pr):List Nat:=if p.l∈s/\p.r ∉ s then s++[p.r] else s
def wm(f:CF)(s:List Nat):List Nat:=f.ow.foldl mH s
def Lm(f:CF):Nat->List Nat->List Nat
 |0,s=>s
 |n+1,s=>if (wm f s).length=s.length then s else Lm f n (wm f s)
def R6(f:CF):List Nat:=[f.cl.getD 1 0,f.cl.getD 2 0,f.cl.getD 3 0,f.cl.getD 4 0].foldl iT []
def pw(f:CF):List Nat:=Lm f 25 (R6 f)
def Ev(f:CF):List Bool:=(range 24).map (λc=>decide (c∈pw f))
theorem abG{s:List Nat}{p:Pr}(h:d9 s)(hp:p.r<24):d9 (mH s p):=by
 unfold mH;split
 .rename_i hc;have:=h.me hp;unfold iT at this;rwa [if_neg hc.2]at this
 .exact h
theorem Ba(s:List Nat)(p:Pr):s.length<=(mH s p).length:=by unfold mH;split <;> simp
theorem Gn:∀(l:List Pr) {s:List Nat},d9 s->(∀p∈l,p.r<24)->d9 (l.foldl mH s)/\s.length<=(l.foldl mH s).length
 |[],s,h,_=>⟨h,zq4 _⟩
 |p::r,s,h,hl=>by
  obtain⟨h1,h2⟩:=Gn r (abG h (hl p (by simp))) (λq hq=>hl q (by simp[hq]));exact⟨h1,zq3 (Ba s p) h2⟩
theorem abE{f:CF}(h:∀c∈kP f,c<24):d9 (R6 f):=(AE _ (λc hc=>h c (by unfold kP;simp at hc ⊢;rcases hc with h|h|h|h <;> simp[h])) d9.nil).1
structure MD where
 nx:List CF
 ot:List CF
 nu:Bool
 da:Bool
 fu:Bool
def sk:MD:=⟨[],[],false,false,false⟩
def clT(f:CF)(k i:Nat):Nat:=if k=1 then f.cl.getD (1+i) 0 else f.cl.getD 0 0
def setC(f:CF)(i c:Nat):CF:={ f with cl:=f.cl.set i c }
def ll(f:CF)(p:Pr):CF:={ f with ow:=f.ow++[p] }
def b7(f:CF)(a b:Nat):CF:={ f with ap:=f.ap++[⟨2,a,b⟩] }
def setO(f:CF)(i:Nat)(p:Pr):CF:={ f with ow:=f.ow.set i p }
def gY(f:CF)(i:Nat):CF:={ f with ow:=jr f.ow i }
def owA(f:CF)(i:Nat):Pr:=f.ow.getD i ax
def ma(f:CF)(c i:Nat):CF:=qe f (owA f i).l c
def Di(f:CF)(c i:Nat):CF:=ll (setO f i ⟨(owA f i).k,(owA f i).l,c⟩) ⟨4,c,(owA f i).r⟩
def iM(f:CF)(c i:Nat):List CF:=(if bj f c (owA f i).l=true then [] else [ma f c i])++(if (owA f i).k=4 then [Di f c i] else [])
def fO(f:CF)(i:Nat):CF:=setO f i ⟨3,(owA f i).l,(owA f i).r⟩
def oP(f:CF)(c i:Nat):CF:=ll (setO f i ⟨3,c,aw f⟩) ⟨4,aw f,(owA f i).r⟩
def J7(f:CF)(c i:Nat):List CF × Bool:=if (owA f i).k=3 then ([f],false) else if 24<=aw f then ([fO f i],true) else ([fO f i,oP f c i],false)
def jk(f:CF)(c:Nat):List CF × Bool:=match cU f.ow c with|none=>([],false)|some i=>J7 f c i
def D8(r:List CF × Bool)(g:CF)(c:Nat):List CF × Bool:=(r.1++(jk g c).1,r.2||(jk g c).2)
def yX(f:CF)(v i:Nat)(r:List CF × Bool):List CF × Bool:=(iM f (f.cl.getD (1+v) 0) i).foldl (λr g=>D8 r g (g.cl.getD (1+v) 0)) r
def dP(f:CF)(v:Nat):List CF × Bool × Bool × Bool :=
 if f.cl.getD (1+v) 0=f.cl.getD 0 0 then ([],true,false,false)
 else if (cU f.ow (f.cl.getD (1+v) 0)).isSome=true then ((jk f (f.cl.getD (1+v) 0)).1,false,false,(jk f (f.cl.getD (1+v) 0)).2)
 else
  let r:=(range f.ow.length).foldl (λr i=>yX f v i r) ([],false)
  (r.1,!bj f (f.cl.getD (1+v) 0) (f.cl.getD 0 0),true,r.2)
def pZ(f:CF)(c:Nat):Nat:=(cU f.ow c).getD 0
def eG(g:CF)(n:Nd):CF:=setC g (1+n.v) (owA g (pZ g (g.cl.getD (1+n.ai) 0))).r
def mx(g:CF)(n:Nd):CF:=let i:=pZ g (g.cl.getD (1+n.v) 0);setO g i ⟨(owA g i).k,(owA g i).l,clT g n.ak n.ai⟩
def kh(g:CF)(v:Nat):CF :=
 let c:=g.cl.getD (1+v) 0
 let t:=gY g (pZ g c)
 t.ow.foldl (λh p=>b7 h c p.l) (b7 t c (t.cl.getD 0 0))
def zK(f:CF)(v:Nat):CF:=setC (ll f ⟨3,aw f,f.cl.getD 0 0⟩) (1+v) (aw f)
def bt(r:List CF × Bool × Bool × Bool)(g:CF->CF):MD:=⟨r.1.map (λx=>aZ (g x)),[],r.2.1,r.2.2.1,r.2.2.2⟩
def jW(f:CF)(n:Nd):List CF × List CF :=
 let a:=f.cl.getD (1+n.v) 0
 let b:=clT f n.ak n.ai
 (if bj f a b=true then [] else [aZ (qe f a b)],if a=b then [] else [aZ (b7 f a b)])
def bL(n:Nd)(f:CF):MD :=
 if n.op=0 then sk
 else if n.op=1 then ⟨[aZ (setC f (1+n.v) (clT f n.ak n.ai))],[],false,false,false⟩
 else if n.op=2 then bt (dP f n.ai) (λg=>eG g n)
 else if n.op=3 then bt (dP f n.v) (λg=>mx g n)
 else if n.op=4 then (if 24<=aw f then ⟨[],[],false,false,true⟩ else ⟨[aZ (zK f n.v)],[],false,false,false⟩)
 else if n.op=5 then bt (dP f n.v) (λg=>kh g n.v)
 else if n.op=7 then ⟨[aZ f],[aZ f],false,false,false⟩
 else if n.op=8 then ⟨(jW f n).1,(jW f n).2,false,false,false⟩
 else if n.op=9 then ⟨(jW f n).2,(jW f n).1,false,false,false⟩
 else ⟨[aZ f],[],false,false,false⟩
theorem eQ{f:CF}{i:Nat}(hi:i<5):f.cl.getD i 0∈kP f:=by
 have:i=0\/i=1\/i=2\/i=3\/i=4:=by omega
 rcases this with rfl|rfl|rfl|rfl|rfl <;> simp[kP]
theorem tP{f:CF}(h5:f.cl.length=5):kP f=f.cl:=by
 match hc:f.cl,h5 with
 |[a,b,c,d,e],_=>simp[kP,hc]
theorem aq.mk'{f:CF}(c5:f.cl.length=5)(cl:∀c∈f.cl,c<24)(ow:∀p∈f.ow,p.l<24/\p.r<24)(ap:∀p∈f.ap,p.l<24/\p.r<24)(lf:mM f.ow)(kd:∀p∈f.ap,p.k=2):aq f:=⟨c5,by rw[tP c5];exact cl,ow,ap,lf,kd⟩
theorem aq.cl'{f:CF}(h:aq f):∀c∈f.cl,c<24:=by rw[<-tP h.c5];exact h.cl
theorem aq.get{f:CF}(h:aq f)(i:Nat):f.cl.getD i 0<24:=by
 by_cases hi:i<5
 .exact h.cl _ (eQ hi)
 .rw[getD_eq_getElem?_getD,getElem?_eq_none (by have:=h.c5;omega)];decide
theorem aq.cT{f:CF}(h:aq f)(k i:Nat):clT f k i<24:=by unfold clT;split <;> exact h.get _
theorem aq.oA{f:CF}(h:aq f)(i:Nat):(owA f i).l<24/\(owA f i).r<24:=by
 unfold owA;by_cases hi:i<f.ow.length
 .exact h.ow _ (bG hi)
 .rw[getD_eq_getElem?_getD,getElem?_eq_none (by omega)];decide
theorem aq.sC{f:CF}(h:aq f)(i:Nat){c:Nat}(hc:c<24):aq (setC f i c):=by
 refine aq.mk' ?_ ?_ h.ow h.ap h.lf h.kd
 .simpa[setC] using h.c5
 .intro d hd;rcases mem_or_eq_of_mem_set hd with hd|rfl
  .exact h.cl' d hd
  .exact hc
theorem aq.ly{f:CF}(h:aq f){p:Pr}(h1:p.l<24)(h2:p.r<24)(hn:∀q∈f.ow,q.l≠p.l):aq (ll f p):=by
 refine aq.mk' h.c5 h.cl' ?_ h.ap ?_ h.kd
 .intro q hq;rcases mem_append.1 hq with hq|hq
  .exact h.ow q hq
  .rw[mem_singleton]at hq;subst hq;exact⟨h1,h2⟩
 .have hl:=h.lf;unfold mM at hl ⊢;show((f.ow++[p]).map (·.l)).Nodup;rw[map_append,nodup_append];refine⟨hl,by simp,?_⟩;intro a ha b hb e;obtain⟨q,hq,rfl⟩:=mem_map.1 ha;simp only[map_cons,map_nil,mem_singleton]at hb;exact hn q hq (e.trans hb)
theorem aq.pa{f:CF}(h:aq f){a b:Nat}(h1:a<24)(h2:b<24):aq (b7 f a b):=by
 refine aq.mk' h.c5 h.cl' h.ow ?_ h.lf ?_
 .intro q hq;rcases mem_append.1 hq with hq|hq
  .exact h.ap q hq
  .rw[mem_singleton]at hq;subst hq;exact⟨h1,h2⟩
 .intro q hq;rcases mem_append.1 hq with hq|hq
  .exact h.kd q hq
  .rw[mem_singleton]at hq;subst hq;rfl
theorem qR{l:List Pr}{i:Nat}{p:Pr}(hp:i<l.length->p.l=(l.getD i ax).l):(l.set i p).map (·.l)=l.map (·.l):=by
 rw[map_set];by_cases hi:i<l.length
 .rw[hp hi,cQ hi];conv=>rhs;rw[<-@List.set_getElem_self _ (l.map (·.l)) i (by simpa using hi)]
  simp
 .rw[set_eq_of_length_le (by simp;omega)]
theorem aq.sO{f:CF}(h:aq f){i:Nat}{p:Pr}(hl:i<f.ow.length->p.l=(f.ow.getD i ax).l)(h2:p.r<24)(h1:p.l<24):aq (setO f i p):=by
 refine aq.mk' h.c5 h.cl' ?_ h.ap ?_ h.kd
 .intro q hq;rcases mem_or_eq_of_mem_set hq with hq|rfl
  .exact h.ow q hq
  .exact⟨h1,h2⟩
 .have:=h.lf;unfold mM at this ⊢;show((f.ow.set i p).map (·.l)).Nodup;rw[qR hl];exact this
theorem mj(l:List Pr)(i:Nat):(jr l i).Sublist l:=by
 have e:l=(range l.length).map (λj=>l.getD j ax):=by
  refine ext_getElem (by simp) (λj h1 h2=>?_);rw[getElem_map,getElem_range,cQ h1]
 unfold jr rh;conv=>rhs;rw[e]
 exact filter_sublist.map _
theorem aq.tk{f:CF}(h:aq f)(i:Nat):aq (gY f i):=aq.mk' h.c5 h.cl' (λp hp=>h.ow p ((mj f.ow i).subset hp)) h.ap (h.lf.sublist ((mj f.ow i).map _)) h.kd
theorem wo{k g c:Nat}(h1:k<24)(h2:c<24):ek k g c<24:=by unfold ek;split <;> assumption
theorem aq.jo{f:CF}(h:aq f){a b:Nat}(ha:a<24)(aL:a=b\/(∀p∈f.ow,p.l≠a)\/∀p∈f.ow,p.l≠b):aq (qe f a b):=by
 refine aq.mk' ?_ ?_ ?_ ?_ ?_ ?_
 .show(f.cl.map _).length=5;simpa using h.c5
 .intro c hc;obtain⟨d,hd,rfl⟩:=mem_map.1 hc;exact wo ha (h.cl' d hd)
 .intro p hp;obtain⟨q,hq,rfl⟩:=mem_map.1 hp;exact⟨wo ha (h.ow q hq).1,wo ha (h.ow q hq).2⟩
 .intro p hp;obtain⟨q,hq,rfl⟩:=mem_map.1 hp;exact⟨wo ha (h.ap q hq).1,wo ha (h.ap q hq).2⟩
 .have hl:=h.lf;unfold mM at hl ⊢;show((f.ow.map (qh a b)).map (·.l)).Nodup;have e:((λx:Pr=>x.l) ∘ qh a b)=(ek a b) ∘ (λx:Pr=>x.l):=rfl;rw[map_map,e,<-map_map];unfold List.Nodup at hl ⊢;rw[pairwise_map];refine List.Pairwise.imp_of_mem ?_ hl;intro x y hx hy hxy e2;obtain⟨p,hp,rfl⟩:=mem_map.1 hx;obtain⟨q,hq,rfl⟩:=mem_map.1 hy;unfold ek at e2;rcases aL with rfl|aL|aL
  .split at e2 <;> split at e2 <;> omega
  .have:=aL p hp;have:=aL q hq;split at e2 <;> split at e2 <;> omega
  .rw[if_neg (aL p hp),if_neg (aL q hq)]at e2;exact hxy e2
 .intro p hp;obtain⟨q,hq,rfl⟩:=mem_map.1 hp;exact h.kd q hq
theorem pC:∀{l:List Pr} {c:Nat},cU l c=none->∀p∈l,p.l≠c
 |[],_,_,p,hp=>by simp at hp
 |q::r,c,h,p,hp=>by
  unfold cU at h;split at h
  .cases h
  .rename_i hq;rcases mem_cons.1 hp with rfl|hp
   .exact hq
   .exact pC (Option.map_eq_none_iff.1 h) p hp
theorem eR{f:CF}{a b:Nat}(h:bj f a b=false):a=b\/(∀p∈f.ow,p.l≠a)\/∀p∈f.ow,p.l≠b:=by
 unfold bj at h;split at h
 .exact zq0 (by assumption)
 .rw[Bool.or_eq_false_iff]at h;have h2:=h.2;unfold lV at h2;right;cases ha:cU f.ow a with
  |none=>exact zq0 (pC ha)
  |some i =>
   cases hb:cU f.ow b with
   |none=>exact zq1 (pC hb)
   |some j=>rw[ha,hb]at h2;simp at h2
theorem iZ:∀(l:List Pr) (m:Nat),m<=qT m l/\∀p∈l,p.l<=qT m l/\p.r<=qT m l
 |[],m=>⟨zq4 _,λp hp=>by simp at hp⟩
 |q::r,m=>by
  obtain⟨h1,h2⟩:=iZ r (max (max m q.l) q.r);have e:qT m (q::r)=qT (max (max m q.l) q.r) r:=rfl;rw[e];refine⟨by omega,λp hp=>?_⟩;rcases mem_cons.1 hp with rfl|hp
  .exact⟨by omega,by omega⟩
  .exact h2 p hp
theorem P0{f:CF}:∀q∈f.ow,q.l≠aw f:=by
 intro q hq;unfold aw;have h1:=((iZ f.ow (qf f)).2 q hq).1;have h2:=(iZ f.ap (qT (qf f) f.ow)).1;omega
theorem oj{f:CF}{i:Nat}(h:i<f.ow.length):owA f i∈f.ow:=bG h
theorem aq.m1{f:CF}(h:aq f){c i:Nat}(hd:bj f c (owA f i).l=false):aq (ma f c i) :=
 h.jo (h.oA i).1 (by rcases eR hd with e|e|e;exact zq0 e.symm;exact zq1 (zq1 e);exact zq1 (zq0 e))
theorem zg{f:CF}{i:Nat}{p q:Pr}(hl:i<f.ow.length->p.l=(f.ow.getD i ax).l)(hq:q∈(setO f i p).ow):∃q'∈f.ow,q'.l=q.l:=by
 have e:=qR hl;have h1:q.l∈(f.ow.set i p).map (·.l):=mem_map_of_mem (f:=(·.l)) hq;rw[e]at h1;obtain⟨q',h2,h3⟩:=mem_map.1 h1;exact⟨q',h2,h3⟩
theorem aq.m2{f:CF}(h:aq f){c i:Nat}(hc:c<24)(hb:cU f.ow c=none):aq (Di f c i):=by
 have h1:aq (setO f i ⟨(owA f i).k,(owA f i).l,c⟩):=h.sO (λ_=>rfl) hc (h.oA i).1;refine h1.ly hc (h.oA i).2 (λq hq e=>?_);obtain⟨q',h2,h3⟩:=zg (p:=⟨(owA f i).k,(owA f i).l,c⟩) (λ_=>rfl) hq;exact pC hb q' h2 (h3.trans e)
theorem aq.f1{f:CF}(h:aq f)(i:Nat):aq (fO f i):=h.sO (λ_=>rfl) (h.oA i).2 (h.oA i).1
theorem aq.f2{f:CF}(h:aq f){c i:Nat}(hi:cU f.ow c=some i)(hn:aw f<24):aq (oP f c i):=by
 obtain⟨g1,g2⟩:=eC hi;have dp:c<24:=by rw[<-g2];exact(h.oA i).1
 have h1:aq (setO f i ⟨3,c,aw f⟩):=h.sO (λ_=>g2.symm) hn dp;refine h1.ly hn (h.oA i).2 (λq hq e=>?_);obtain⟨q',h2,h3⟩:=zg (λ_=>g2.symm) hq;exact P0 q' h2 (h3.trans e)
theorem qn{l:List Pr}{c:Nat}:(cU l c).isSome=true↔∃p∈l,p.l=c:=by
 constructor
 .intro h;obtain⟨i,hi⟩:=Option.isSome_iff_exists.1 h;exact⟨_,tO hi,(eC hi).2⟩
 .rintro⟨p,hp,rfl⟩;cases h:cU l p.l with
  |none=>exact absurd rfl (pC h p hp)
  |some i=>rfl
structure rE(N v:Nat)(g:CF):Prop where
 ok:aq g
 ln:g.ap.length<=N
 bg:(cU g.ow (g.cl.getD (1+v) 0)).isSome=true
theorem DK{f:CF}{i:Nat}{p:Pr}{c:Nat}(hl:i<f.ow.length->p.l=(f.ow.getD i ax).l)(h:(cU f.ow c).isSome=true):(cU (setO f i p).ow c).isSome=true:=by
 rw[qn]at h ⊢;obtain⟨q,hq,rfl⟩:=h;have e:=qR hl;have h1:q.l∈f.ow.map (·.l):=mem_map_of_mem (f:=(·.l)) hq;rw[<-e]at h1;obtain⟨q',h2,h3⟩:=mem_map.1 h1;exact⟨q',h2,h3⟩
theorem NY{N v:Nat}{g:CF}(h:rE N v g):∀x∈(jk g (g.cl.getD (1+v) 0)).1,rE N v x:=by
 intro x hx;unfold jk at hx;cases hb:cU g.ow (g.cl.getD (1+v) 0) with
 |none=>rw[hb]at hx;simp at hx
 |some i =>
  rw[hb]at hx;simp only[J7]at hx;have h1:rE N v (fO g i):=⟨h.ok.f1 i,h.ln,DK (p:=⟨3,(owA g i).l,(owA g i).r⟩) (λ_=>rfl) h.bg⟩;split at hx
  .simp only[mem_singleton]at hx;subst hx;exact h
  .split at hx
   .simp only[mem_singleton]at hx;subst hx;exact h1
   .rename_i hn;simp only[mem_cons,not_mem_nil,or_false]at hx;rcases hx with rfl|rfl
    .exact h1
    .refine⟨h.ok.f2 hb (by omega),h.ln,?_⟩;have:=DK (f:=g) (i:=i) (p:=⟨3,g.cl.getD (1+v) 0,aw g⟩) (λ_=>(eC hb).2.symm) h.bg;rw[qn]at this ⊢;obtain⟨p,hp,e⟩:=this;exact⟨p,mem_append_left _ hp,e⟩
theorem AF{N v:Nat}{f:CF}(hv:v<4)(h:aq f)(hl:f.ap.length<=N)(hb:cU f.ow (f.cl.getD (1+v) 0)=none){i:Nat}(hi:i<f.ow.length):∀x∈iM f (f.cl.getD (1+v) 0) i,rE N v x:=by
 intro x hx;unfold iM at hx;rcases mem_append.1 hx with hx|hx
 .split at hx
  .simp at hx
  .rename_i hd;simp only[mem_singleton]at hx;subst hx;refine⟨h.m1 (by simpa using hd),by simpa[ma,qe] using hl,?_⟩;have e:(ma f (f.cl.getD (1+v) 0) i).cl.getD (1+v) 0=(owA f i).l:=by
    show(f.cl.map _).getD (1+v) 0=_;have h5:=h.c5;rw[getD_eq_getElem?_getD,getElem?_map,getElem?_eq_getElem (by omega)];simp only[Option.map_some,Option.getD_some];unfold ek;rw[if_pos];rw[getD_eq_getElem?_getD,getElem?_eq_getElem (by omega)];rfl
   rw[e,qn];refine⟨qh (owA f i).l (f.cl.getD (1+v) 0) (owA f i),mem_map_of_mem (oj hi),?_⟩;show ek _ _ _=_;unfold ek;split <;> rfl
 .split at hx
  .simp only[mem_singleton]at hx;subst hx;refine⟨h.m2 (h.get _) hb,hl,?_⟩;rw[qn];exact⟨⟨4,f.cl.getD (1+v) 0,(owA f i).r⟩,mem_append_right _ (by simp),rfl⟩
  .simp at hx
theorem rQ{α β:Type}{P:α->Prop}(g:List α × Bool->β->List α × Bool):∀(l:List β) (r:List α × Bool),(∀x∈r.1,P x)->(∀b∈l,∀r,(∀x∈r.1,P x)->∀x∈(g r b).1,P x)->∀x∈(l.foldl g r).1,P x
 |[],_,hr,_=>hr
 |b::l,r,hr,hg=>rQ g l (g r b) (hg b (by simp) r hr) (λb' xp=>hg b' (by simp[xp]))
theorem im{N v:Nat}{f:CF}(hv:v<4)(h:aq f)(hl:f.ap.length<=N):∀x∈(dP f v).1,rE N v x:=by
 unfold dP;split
 .intro x hx;simp at hx
 .split
  .rename_i hb;exact NY ⟨h,hl,hb⟩
  .rename_i hb;have xp:cU f.ow (f.cl.getD (1+v) 0)=none:=(by simpa using hb);refine rQ (P:=rE N v) _ _ _ (λx hx=>by simp at hx) ?_;intro i hi r hr;rw[mem_range]at hi;refine rQ (P:=rE N v) _ _ _ hr ?_;intro g hg r hr x hx;rcases mem_append.1 hx with hx|hx
   .exact hr x hx
   .exact NY (AF hv h hl xp hi g hg) x hx
theorem I6:∀(l:List Pr) {g:CF} {c:Nat},aq g->c<24->(∀p∈l,p.l<24)->aq (l.foldl (λh p=>b7 h c p.l) g)/\(l.foldl (λh p=>b7 h c p.l) g).ap.length=g.ap.length+l.length
 |[],g,c,h,_,_=>⟨h,rfl⟩
 |p::r,g,c,h,hc,hl=>by
  obtain⟨h1,h2⟩:=I6 r (h.pa hc (hl p (by simp))) hc (λq hq=>hl q (by simp[hq]));refine⟨h1,?_⟩;rw[foldl_cons,h2];simp[b7];omega
theorem mV{N v:Nat}{g:CF}(h:rE N v g):aq (kh g v)/\(kh g v).ap.length<=N+25:=by
 have h1:=h.ok.tk (pZ g (g.cl.getD (1+v) 0));have h2:=h1.pa (h.ok.get (1+v)) (h.ok.get 0);obtain⟨g1,g2⟩:=I6 (gY g (pZ g (g.cl.getD (1+v) 0))).ow h2 (h.ok.get (1+v)) (λp hp=>(h1.ow p hp).1);refine⟨g1,zq3 (Nat.le_of_eq g2) ?_⟩;have hl:=h1.owLen;have h3:=h.ln;show((g.ap++[_]).length+_:Nat)<=_;rw[length_append,length_singleton];omega
theorem zS{N:Nat}{n:Nd}{g:CF}(h:rE N n.ai g):aq (eG g n)/\(eG g n).ap.length<=N:=⟨h.ok.sC _ (h.ok.oA _).2,h.ln⟩
theorem FX{N:Nat}{n:Nd}{g:CF}(h:rE N n.v g):aq (mx g n)/\(mx g n).ap.length<=N:=⟨h.ok.sO (λ_=>rfl) (h.ok.cT _ _) (h.ok.oA _).1,h.ln⟩
theorem mN{f:CF}{v:Nat}(h:aq f)(hn:aw f<24):aq (zK f v):=(h.ly (p:=⟨3,aw f,f.cl.getD 0 0⟩) hn (h.get 0) P0).sC _ hn
structure Td(f:CF):Prop where
 ok:aq f
 ln:f.ap.length<=576
theorem aq.tidy{f:CF}(h:aq f):Td (aZ f):=⟨h.td,VN h⟩
theorem sg{r:List CF × Bool × Bool × Bool}{g:CF->CF}(h:∀x∈r.1,aq (g x)):(∀x∈(bt r g).nx,Td x)/\∀x∈(bt r g).ot,Td x:=by
 refine⟨λx hx=>?_,λx hx=>by simp[bt]at hx⟩;obtain⟨y,hy,rfl⟩:=mem_map.1 hx;exact(h y hy).tidy
theorem Ni{f:CF}(h:aq f)(n:Nd):(∀x∈(jW f n).1,Td x)/\∀x∈(jW f n).2,Td x:=by
 constructor
 .intro x hx;simp only[jW]at hx;split at hx
  .simp at hx
  .rename_i hd;simp only[mem_singleton]at hx;subst hx;exact(h.jo (h.get _) (eR (by simpa using hd))).tidy
 .intro x hx;simp only[jW]at hx;split at hx
  .simp at hx
  .simp only[mem_singleton]at hx;subst hx;exact(h.pa (h.get _) (h.cT _ _)).tidy
theorem lY{n:Nd}{f:CF}(hv:n.v<4)(ha:n.ai<4)(h:Td f):(∀x∈(bL n f).nx,Td x)/\∀x∈(bL n f).ot,Td x:=by
 have one:∀{g:CF},aq g->(∀x∈[aZ g],Td x):=λhg x hx=>by rw[mem_singleton]at hx;subst hx;exact hg.tidy
 have no:∀x∈([]:List CF),Td x:=λx hx=>by simp at hx
 unfold bL;split
 .exact⟨no,no⟩
 .split
  .exact⟨one (h.ok.sC _ (h.ok.cT _ _)),no⟩
  .split
   .exact sg (λx hx=>(zS (im ha h.ok h.ln x hx)).1)
   .split
    .exact sg (λx hx=>(FX (im hv h.ok h.ln x hx)).1)
    .split
     .split
      .exact⟨no,no⟩
      .exact⟨one (mN h.ok (by omega)),no⟩
     .split
      .exact sg (λx hx=>(mV (im hv h.ok h.ln x hx)).1)
      .split
       .exact⟨one h.ok,one h.ok⟩
       .split
        .exact Ni h.ok n
        .split
         .exact(Ni h.ok n).symm
         .exact⟨one h.ok,no⟩
def Ct(f:CF)(i:Nat):Nat:=((range (i+1)).find? (λk=>f.cl.getD k 0==f.cl.getD i 0)).getD 0
def BC(f:CF)(i:Nat):Nat:=match cU f.ow (f.cl.getD i 0) with|some j=>(owA f j).k|none=>0
def Qu(f:CF):Nat:=f.ow.countP (λp=>decide (p.k=3))
def UR(f:CF):Nat:=f.ow.countP (λp=>!decide (p.k=3))
def roB(s t:CF):Bool:=!(decide (Qu s<Qu t)||decide (Qu s+UR s<Qu t+UR t))&&(decide (0<UR t)||(decide (UR s=0)&&decide (Qu s=Qu t)))
def IJ(s t:CF)(i:Nat):Bool:=decide (Ct s (Ct t i)=Ct s i)&&!(decide (BC t i=3)&&!decide (BC s i=3))&&!(decide (BC t i=4)&&decide (BC s i=0))
def RW(s t:CF):Bool:=IJ s t 0&&IJ s t 1&&IJ s t 2&&IJ s t 3&&IJ s t 4
def xF(s t:CF):Bool:=roB s t&&RW s t&&(match xP s t [0,1,2,3,4] (replicate 24 none) with|none=>false|some an=>(D9 s t an 128).1)
structure gT where
 f:CF
 d:Bool
structure Sr where
 kn:List (List gT)
 wr:List (List Bool)
 lf:Int
 lo:Int
 fu:Bool
 ok:Bool
structure Cd where
 nds:List Nd
 hd:List Bool
 lp:Bool
 bd:Bool
def aI:Nd:=⟨0,0,0,0,0,0⟩
def pU(c:Cd)(s:Sr):Sr:={ s with lf:=wrap64 (s.lf-1),fu:=s.fu||(decide (wrap64 (s.lf-1)<0)&&c.bd) }
def mG(c:Cd)(s:Sr)(n:Nat):Sr:={ s with lo:=wrap64 (s.lo-n),fu:=s.fu||(decide (wrap64 (s.lo-n)<0)&&c.bd) }
def a7(s:Sr)(n:Nat):List gT:=s.kn.getD n []
def bm(c:Cd)(n:Nat)(f:CF):CF:=if c.hd.getD n false=true then aZ (Eb f) else f
def th:Nat:=1000000000000
def ik:Nat:=900000
def nk(n:Nat)(g:CF)(s:Sr):Sr:={ s with ok:=s.ok&&decide ((a7 s n).length<=th),kn:=s.kn.set n ((a7 s n).filter (λe=>!xF e.f g)++[⟨g,false⟩]) }
def bF(c:Cd)(n:Nat)(f:CF)(s:Sr):Sr :=
 if (a7 s n).any (λe=>xF (bm c n f) e.f)=true then { mG c s (2*(a7 s n).length) with ok:=s.ok&&decide ((a7 s n).length<=th) }
 else pU c (nk n (bm c n f) (mG c s (2*(a7 s n).length)))
def fj(f:CF):List Nat:=(range f.ow.length).filter (λi=>!decide ((owA f i).l∈pw f))
def VZ(f:CF):CF:=aZ { f with ow:=f.ow.filter (λp=>decide (p.l∈pw f)) }
def q7(a b:List Pr):Bool:=decide (a.length=b.length)&&(range a.length).all (λi=>Dy (a.getD i ax) (b.getD i ax))
def Vw(f g:CF):Bool:=decide (kP f=kP g)&&q7 f.ap g.ap&&q7 f.ow g.ow
def neB(cs:List CF)(f:CF):Bool:=!cs.any (λg=>Vw f g)
def oX(c:Cd)(r:List CF × Sr)(g:CF):List CF × Sr:=if neB r.1 (aZ g)=true then (r.1++[aZ g],pU c { r.2 with ok:=r.2.ok&&decide (r.1.length<=ik) }) else r
def fnA(f:CF)(a:Nat):Bool:=decide (a∈pw f)&&!decide (a=f.cl.getD 0 0)&&!(cU f.ow a).isSome
def qu(c:Cd)(f:CF)(i:Nat)(r:List CF × Sr)(a:Nat):List CF × Sr:=if fnA f a=true then (iM f a i).foldl (oX c) r else r
def gG(c:Cd)(f:CF)(r:List CF × Sr)(i:Nat):List CF × Sr:=(range 24).foldl (qu c f i) r
def xR(c:Cd)(g:CF)(r:List CF × Sr)(res:List CF):List CF × List CF × Sr :=
 if fj g=[] then (res++[g],r) else (res++[VZ g],(fj g).foldl (gG c g) r)
def jC(c:Cd):Nat->Nat->List CF->List CF × Sr->List CF × Sr
 |0,_,res,r=>(res,{ r.2 with ok:=false })
 |n+1,k,res,r=>if k<r.1.length/\r.2.fu=false then jC c n (k+1) (xR c (r.1.getD k ⟨[],[],[]⟩) r res).1 (xR c (r.1.getD k ⟨[],[],[]⟩) r res).2 else (res,r.2)
def mm(n k:Nat)(s:Sr):Sr:={ s with wr:=s.wr.set n ((s.wr.getD n []).set k true) }
def dJ(c:Cd)(fuel from_ to_:Nat)(f:CF)(s:Sr):Sr :=
 if c.lp=false\/fj f=[] then bF c to_ f s
 else
  let r:=jC c fuel 0 [] ([f],mm from_ 2 s)
  r.1.foldl (λs g=>bF c to_ g s) r.2
def fuS(b:Bool)(s:Sr):Sr:={ s with fu:=s.fu||b }
def wrI(b:Bool)(n k:Nat)(s:Sr):Sr:=if b=true then mm n k s else s
def oE(c:Cd)(fuel:Nat)(n:Nat)(f:CF)(s:Sr):Sr :=
 let nd:=c.nds.getD n aI
 let o:=bL nd f
 let s1:=wrI (decide (nd.op=0)&&!decide (fj f=[])) n 2 s
 let s2:=fuS o.fu (wrI o.da n 4 (wrI o.nu n 3 s1))
 let s3:=o.nx.foldl (λs g=>dJ c fuel n nd.nx g s) s2
 o.ot.foldl (λs g=>dJ c fuel n nd.ot g s) s3
def mJ(c:Cd)(fuel n:Nat):List CF->Sr->Sr
 |[],s=>s
 |f::r,s=>if s.fu=true then s else mJ c fuel n r (oE c fuel n f s)
def lJ(l:List gT):List CF:=(l.filter (λe=>!e.d)).map (·.f)
def rp(c:Cd)(fuel n:Nat)(s:Sr):Sr:=mJ c fuel n (lJ (a7 s n)) { s with kn:=s.kn.set n ((a7 s n).map (λe=>⟨e.f,true⟩)) }
def Et(s:Sr):Option Nat:=s.kn.findIdx? (λl=>l.any (λe=>!e.d))
def pS(c:Cd)(fuel:Nat):Nat->Sr->Sr
 |0,s=>{ s with ok:=false }
 |n+1,s=>match Et s with
  |none=>s
  |some k=>if s.fu=true then s else pS c fuel n (rp c fuel k s)
def xW(al:List cn):Nat:=al.foldl (λm a=>let m1:=if a.lk=2/\m<=a.li then a.li+1 else m;if a.rk=2/\m1<=a.ri then a.ri+1 else m1) 0
def lS(nds:List Nd)(i:Nat):Bool:=decide ((nds.getD i aI).op=10)&&decide ((nds.getD i aI).nx<i)
def Mi(nds:List Nd)(nv:Nat)(al:List cn):Bool :=
 !(range nds.length).any (lS nds)&&!al.any (λa=>decide (a.k=4)) &&
 decide (nds.countP (λn=>decide (n.op=7\/n.op=8\/n.op=9))<=5)&&decide (nds.countP (λn=>decide (n.op=4))<=4)&&decide (nv+xW al<=6)&&decide (nv+xW al+nds.countP (λn=>decide (n.op=4))<=8)
def OJ(nds:List Nd):List Bool:=(range nds.length).foldl (λh i=>if lS nds i=true then h.set (nds.getD i aI).nx true else h) (replicate nds.length false)
def xN(nds:List Nd)(nv:Nat)(al:List cn):Cd:=⟨nds,OJ nds,(range nds.length).any (lS nds),!Mi nds nv al⟩
def kL(nds:List Nd):Sr:=⟨replicate nds.length [],replicate nds.length (replicate 5 false),3000,2097152,false,true⟩
def oO(f:CF)(nv:Nat):CF:={ f with cl:=(range 5).map (λi=>if nv<i then f.cl.getD 0 0 else f.cl.getD i 0) }
def er(c:Cd)(fuel nv:Nat)(al:List cn)(s:Sr):Sr:=if eE (bf al)=true then s else dJ c fuel (c.nds.length-1) 0 (aZ (oO (bf al) nv)) s
structure Rs where
 vd:Nat
 al:List (Nat × Nat)
 kn:List (List CF)
def LS(wr:List (List Bool)):List (Nat × Nat):=(range wr.length).flatMap (λn=>([2,3,4].filter (λk=>(wr.getD n []).getD k false)).map (λk=>(n,k)))
def DF(s:Sr):Rs:=if s.fu=true then ⟨2,[],[]⟩ else ⟨if LS s.wr=[] then 0 else 1,LS s.wr,s.kn.map (λl=>l.map (·.f))⟩
def py(ad nx:List Int)(s:Nat->Int)(f:CF):Prop:=∃val,Yw ad nx val f/\∀i,i<5->val (f.cl.getD i 0)=s i
section
variable {ad nx:List Int} {s:Nat->Int} {f g:CF}
theorem MF{v v':Nat->Int}{g:Pr->Pr}:∀{l:List Pr} {fr:List Bool},(∀p∈l,((g p).k≠4->p.k≠4)/\v' (g p).l=v p.l/\v' (g p).r=v p.r)->xM ad nx v l fr->xM ad nx v' (l.map g) fr
 |[],_,_,h=>h
 |p::r,fr,hg,h=>by
  obtain⟨q,fr',h1,h2,h3,h4⟩:=h;obtain⟨g1,g2,g3⟩:=hg p (by simp);refine⟨q,fr',by rw[g2,g3];exact h1,h2,λhk=>h3 (g1 hk),?_⟩;exact MF (λp hp=>hg p (by simp[hp])) h4
theorem py.fg(h:py ad nx s f):py ad nx s (dm f):=by
 obtain⟨val,h1,h2⟩:=h;exact⟨val,⟨h1.nl,λp hp=>h1.ap p (mem_filter.1 hp).1,h1.sp⟩,h2⟩
theorem gC(f:CF)(G:Nat->Nat){i:Nat}(hi:i<5):((kP f).map G).getD i 0=G (f.cl.getD i 0):=by
 have:i=0\/i=1\/i=2\/i=3\/i=4:=by omega
 rcases this with rfl|rfl|rfl|rfl|rfl <;> rfl
theorem py.rn(hk:aq f)(hl:∀p∈f.ap,p.l∈bQ f/\p.r∈bQ f)(h:py ad nx s f):py ad nx s (qg f):=by
 obtain⟨val,h1,h2⟩:=h;have ic:=iQ hk.ow hk.cl hk.lf;have hv:∀c,c∈bQ f->val ((b8 f).getD ((b8 f).idxOf c) 0)=val c:=λc hc=>by
  have hm:=ic c hc;rw[getD_eq_getElem?_getD,getElem?_eq_getElem (idxOf_lt_length_iff.2 hm)];simp
 have dp:∀i,i<5->f.cl.getD i 0∈bQ f:=λi hi=>mem_append_left _ (eQ hi);refine⟨λn=>val ((b8 f).getD n 0),⟨?_,λp hp=>?_,?_⟩,λi hi=>?_⟩
 .show val ((b8 f).getD ((qg f).cl.getD 0 0) 0)=0;have e:(qg f).cl.getD 0 0=(b8 f).idxOf (f.cl.getD 0 0):=gC f (λc=>(b8 f).idxOf c) (i:=0) (by omega);rw[e,hv _ (dp 0 (by omega))];exact h1.nl
 .obtain⟨q,hq,rfl⟩:=mem_map.1 (show p∈f.ap.map (jf (b8 f)) from hp);obtain⟨g1,g2⟩:=hl q hq;show val ((b8 f).getD ((b8 f).idxOf q.l) 0)≠val ((b8 f).getD ((b8 f).idxOf q.r) 0);rw[hv _ g1,hv _ g2];exact h1.ap q hq
 .show xM ad nx _ (f.ow.map (jf (b8 f))) _;refine MF (λp hp=>⟨λh=>h,hv _ ?_,hv _ ?_⟩) h1.sp
  .exact mem_append_right _ (mem_flatMap.2 ⟨p,hp,by simp⟩)
  .exact mem_append_right _ (mem_flatMap.2 ⟨p,hp,by simp⟩)
 .show val ((b8 f).getD ((qg f).cl.getD i 0) 0)=s i;have e:(qg f).cl.getD i 0=(b8 f).idxOf (f.cl.getD i 0):=gC f (λc=>(b8 f).idxOf c) hi;rw[e,hv _ (dp i hi)];exact h2 i hi
theorem py.or(hk:aq f)(h:py ad nx s f):py ad nx s (orF f):=by
 obtain⟨val,h1,h2⟩:=h;refine⟨val,⟨h1.nl,λp hp=>?_,uI (re hk.lf).symm h1.sp⟩,h2⟩;obtain⟨q,hq,rfl⟩:=mem_map.1 (dA.1 (show p∈mh (f.ap.map iU) from hp));have:=h1.ap q hq;unfold iU;split
 .exact this.symm
 .exact this
theorem py.td(hk:aq f)(h:py ad nx s f):py ad nx s (aZ f):=py.or (hk.fg.rn (λ_ hp=>gF hp)) (py.rn hk.fg (λ_ hp=>gF hp) h.fg)
theorem py.within(hd:ad.Nodup)(hp:∀v∈ad,0<v)(hg:aq g)(hw:xF f g=true)(h:py ad nx s f):py ad nx s g:=by
 obtain⟨val,h1,h2⟩:=h;unfold xF at hw;rw[Bool.and_eq_true]at hw;obtain⟨-,hw⟩:=hw;cases kS:xP f g [0,1,2,3,4] (replicate 24 none) with
 |none=>rw[kS]at hw;cases hw
 |some an =>
  rw[kS]at hw;obtain⟨g1,_,g3,g4⟩:=uX (λi _=>hg.get i) (by decide) (by simp) kS;obtain⟨sv,k1,k2,k3⟩:=Tt h1 hd hp hg.ow g1 (st:=128) (s':=(D9 f g an 128).2) (Prod.ext hw rfl);have hv:∀i,i<5->sv (g.cl.getD i 0)=s i:=λi hi=>by rw[k1 _ _ (g3 i (by simp;omega))];exact h2 i hi
  refine⟨sv,⟨?_,k2,k3⟩,hv⟩;rw[hv 0 (by omega),<-h2 0 (by omega)];exact h1.nl
theorem VQ(g:Pr->Pr)(l:List Pr)(i k:Nat)(hk:k<=l.length):rh (l.map g) i k=(rh l i k).map g:=by
 unfold rh;rw[map_map];apply map_congr_left;intro j hj;have hj2:=mem_range.1 (mem_filter.1 hj).1;have f7:j<l.length:=by omega
 simp[getD_eq_getElem?_getD,f7]
theorem Bp(g:Pr->Pr)(l:List Pr)(i:Nat):jr (l.map g) i=(jr l i).map g:=by
 unfold jr;rw[length_map];exact VQ g l i l.length (zq4 _)
theorem pR(l:List Pr):(range l.length).map (λj=>l.getD j ax)=l:=by
 apply ext_getElem
 .simp
 .intro i h1 h2;simp only[getElem_map,getElem_range];exact cQ h2
theorem dZ{l:List Pr}{i:Nat}(hi:i<l.length):l.Perm (l.getD i ax::jr l i):=by
 have h1:(range l.length).Perm (i::(range l.length).filter (λj=>j != i)):=by
  have:=kg (p:=λ_=>true) (q:=λj=>j != i) (l:=range l.length) (i:=i) nodup_range (by simpa using hi) rfl (by simp) (λj hj=>by simpa using hj);rwa [filter_eq_self.2 (λ_ _=>rfl)]at this
 have h2:=h1.map (λj=>l.getD j ax);rw[pR]at h2;exact h2
theorem rK{l:List Pr}{P:Pr->Bool}(h:l.countP P=1):∃q R,l.Perm (q::R)/\P q=true/\∀x∈R,P x=false:=by
 obtain⟨q,hq,hp⟩:=countP_pos_iff.1 (show 0<l.countP P by omega);obtain⟨a,b,rfl⟩:=append_of_mem hq;rw[countP_append,countP_cons,hp]at h;simp only[if_true]at h;refine⟨q,a++b,perm_middle,hp,λx hx=>?_⟩;have h0:(a++b).countP P=0:=by rw[countP_append];omega
 have:=countP_eq_zero.1 h0 x hx;simpa using this
theorem Bg{p:Pr}(h:DO f p=true):RY f p.l=false/\p.r≠p.l/\zO f.ow p.l=1:=by
 unfold DO at h;simp only[Bool.and_eq_true,Bool.not_eq_true',Bool.or_eq_false_iff,decide_eq_true_eq,decide_eq_false_iff_not]at h;exact⟨h.1.1,h.1.2,h.2⟩
theorem py.fo1{k:Nat}(hs:tH f=some k)(h:py ad nx s f):py ad nx s (jD f k):=by
 obtain⟨hk,hp⟩:k<f.ow.length/\DO f (f.ow.getD k ax)=true:=by
  unfold tH at hs;obtain⟨h1,h2,-⟩:=findIdx?_eq_some_iff_getElem.1 hs;exact⟨h1,by rw[cQ h1];exact h2⟩
 obtain⟨val,h1,h2⟩:=h;obtain⟨p,pL⟩:∃p,p=f.ow.getD k ax:=⟨_,rfl⟩;rw[<-pL]at hp;obtain⟨-,aL,hc⟩:=Bg hp;have jc:=dZ hk;rw[<-pL]at jc;have tr:(jr f.ow k).countP (λq=>decide (q.r=p.l))=1:=by
  have:=jc.countP_eq (λq=>decide (q.r=p.l));unfold zO at hc;rw[hc,countP_cons,decide_eq_false aL]at this;simpa using this.symm
 obtain⟨q,R,hqR,hq,hR⟩:=rK tr;have hq:q.r=p.l:=by simpa using hq
 have hR:∀x∈R,x.r≠p.l:=λx hx=>by simpa using hR x hx
 have xD:xM ad nx val (q::p::R) (replicate ad.length true):=B9 (uI (jc.trans (hqR.cons p)) h1.sp);refine⟨val,⟨h1.nl,h1.ap,?_⟩,h2⟩;show xM ad nx val (jr (f.ow.map (Go.Proofs.YtciihepbeacppaaGreat.fo1 (f.ow.getD k ax).l (f.ow.getD k ax).r)) k) _;rw[Bp,<-pL];have alG:((jr f.ow k).map (Go.Proofs.YtciihepbeacppaaGreat.fo1 p.l p.r)).Perm (⟨4,q.l,p.r⟩::R):=by
  have h3:=hqR.map (Go.Proofs.YtciihepbeacppaaGreat.fo1 p.l p.r);rw[map_cons]at h3;have e1:Go.Proofs.YtciihepbeacppaaGreat.fo1 p.l p.r q=⟨4,q.l,p.r⟩:=by unfold Go.Proofs.YtciihepbeacppaaGreat.fo1;rw[if_pos hq]
  have e2:R.map (Go.Proofs.YtciihepbeacppaaGreat.fo1 p.l p.r)=R:=by
   conv=>rhs;rw[<-map_id R]
   apply map_congr_left;intro x hx;unfold Go.Proofs.YtciihepbeacppaaGreat.fo1;rw[if_neg (hR x hx)];rfl
  rw[e1,e2]at h3;exact h3
 refine uI alG.symm ?_;obtain⟨u,fr1,a1,a2,a3,v,fr2,b1,b2,b3,hr⟩:=xD;rw[hq]at a1;exact⟨u++v,fr2,Jn a1 b1,by rw[wS,a2];exact b2,λh=>absurd rfl h,hr⟩
theorem py.fold:∀(n:Nat) {f:CF},py ad nx s f->py ad nx s (dM n f)
 |0,_,h=>h
 |n+1,f,h=>by
  unfold dM;split
  .exact h
  .rename_i k hk;exact py.fold n (h.fo1 hk)
theorem py.fo(h:py ad nx s f):py ad nx s (Eb f):=h.fold _
end
def chH:List (Int × Int)->Int->Int->Prop
 |[],_,_=>False
 |[c],v,e=>c.1=v/\c.2=e
 |c::d::r,v,e=>c.1=v/\chH (d::r) c.2 e
def Wz(val:Nat->Int):List Pr->List (Int × Int)->Prop
 |[],cs=>cs=[]
 |p::r,cs=>∃q cs',cs.Perm (q++cs')/\chH q (val p.l) (val p.r)/\(p.k≠4->q.length=1)/\Wz val r cs'
structure MoH(cs:List (Int × Int))(val:Nat->Int)(V:CF):Prop where
 nl:val (V.cl.getD 0 0)=0
 ap:∀p∈V.ap,val p.l≠val p.r
 sp:Wz val V.ow cs
def EA(cs:List (Int × Int))(s:Nat->Int)(f:CF):Prop:=∃val,MoH cs val f/\∀i,i<5->val (f.cl.getD i 0)=s i
section
variable {ad nx:List Int} {val:Nat->Int}
def RH(ad nx:List Int)(k:Nat):Int × Int:=(ad.getD k 0,nx.getD k 0)
def BG(fr:List Bool):List Nat:=(range fr.length).filter (λk=>fr.getD k false)
theorem zH:∀(q:List Nat) (v e:Int),chH (q.map (RH ad nx)) v e↔Jm ad nx q v e
 |[],_,_=>Iff.rfl
 |[k],_,_=>Iff.rfl
 |k::j::r,v,e=>by
  show(ad.getD k 0=v/\chH ((j::r).map (RH ad nx)) (nx.getD k 0) e)↔_;rw[zH (j::r)];exact Iff.rfl
theorem Hx{fr:List Bool}{k:Nat}(h:fr.getD k false=true):(BG fr).Perm (k::BG (fr.set k false)):=by
 have hk:=Hy h;unfold BG;rw[length_set];refine kg nodup_range (by simpa using hk) h ?_ (λj hj=>?_)
 .rw[cM _ _ _ _ _ hk,if_pos rfl]
 .rw[cM _ _ _ _ _ hk,if_neg (λe=>hj e.symm)]
theorem Zm{fr:List Bool}{k:Nat}(h:k∈BG fr):fr.getD k false=true:=(mem_filter.1 h).2
theorem Q5:∀{q:List Nat} {fr fr':List Bool},tk fr q=some fr'->(BG fr).Perm (q++BG fr')
 |[],_,_,h=>by cases h;exact List.Perm.refl _
 |k::r,fr,fr',h=>by
  unfold tk at h;split at h
  .rename_i hk;exact(Hx hk).trans ((Q5 h).cons k)
  .cases h
theorem N4:∀{q:List Nat} {fr:List Bool} {L:List Nat},(BG fr).Perm (q++L)->∃fr',tk fr q=some fr'/\(BG fr').Perm L
 |[],fr,_,h=>⟨fr,rfl,h⟩
 |k::r,fr,L,h=>by
  have hk:fr.getD k false=true:=Zm (h.symm.subset (by simp));obtain⟨fr',h1,h2⟩:=N4 (q:=r) (fr:=fr.set k false) (L:=L) (((Hx hk).symm.trans h).cons_inv);refine⟨fr',?_,h2⟩;unfold tk;rw[if_pos hk];exact h1
theorem CA{fr:List Bool}:fr.any id=false↔BG fr=[]:=by
 unfold BG;rw[filter_eq_nil_iff,any_eq_false];constructor
 .intro h k hk;have hk:=mem_range.1 hk;have:=h fr[k] (getElem_mem hk);simpa[getD_eq_getElem?_getD,hk] using this
 .intro h x hx;obtain⟨k,hk,rfl⟩:=mem_iff_getElem.1 hx;have:=h k (by simpa using hk);simpa[getD_eq_getElem?_getD,hk] using this
theorem Lk{α β:Type}{f:α->β}{l:List α}:∀{m:List β},(l.map f).Perm m->∃l',l.Perm l'/\l'.map f=m:=by
 intro m h;generalize hl:l.map f=L at h;induction h generalizing l with
 |nil=>exact⟨[],by rw[map_eq_nil_iff.1 hl],rfl⟩
 |cons x _ ih =>
  cases l with
  |nil=>cases hl
  |cons a l =>
   simp only[map_cons,List.cons.injEq]at hl;obtain⟨l',h1,h2⟩:=ih hl.2;exact⟨a::l',h1.cons a,by rw[map_cons,h2,hl.1]⟩
 |swap x y t =>
  cases l with
  |nil=>cases hl
  |cons a l =>
   cases l with
   |nil=>simp at hl
   |cons b l =>
    simp only[map_cons,List.cons.injEq]at hl;obtain⟨h1,h2,h3⟩:=hl;exact⟨b::a::l,List.Perm.swap b a l,by simp[h1,h2,h3]⟩
 |trans _ _ ih1 ih2 =>
  obtain⟨l1,h1,h2⟩:=ih1 hl;obtain⟨l2,h3,h4⟩:=ih2 h2;exact⟨l2,h1.trans h3,h4⟩
theorem JR:∀{l:List Pr} {cs cs':List (Int × Int)},cs.Perm cs'->Wz val l cs->Wz val l cs'
 |[],_,_,h,h2=>by rw[Wz]at h2 ⊢;rw[h2]at h;exact h.nil_eq.symm
 |p::r,_,_,h,h2=>by
  obtain⟨q,c,h3,h4⟩:=h2;exact⟨q,c,h.symm.trans h3,h4⟩
theorem Wy:∀{l:List Pr} {fr:List Bool},xM ad nx val l fr->Wz val l ((BG fr).map (RH ad nx))
 |[],_,h=>by
  show(BG _).map _=[];rw[CA.1 h];rfl
 |p::r,fr,h=>by
  obtain⟨q,fr',h1,h2,h3,h4⟩:=h;refine⟨q.map (RH ad nx),(BG fr').map (RH ad nx),?_,(zH q _ _).2 h1,λhk=>by rw[length_map];exact h3 hk,Wy h4⟩;rw[<-map_append];exact(Q5 h2).map _
theorem WA:∀{l:List Pr} {fr:List Bool},Wz val l ((BG fr).map (RH ad nx))->xM ad nx val l fr
 |[],_,h=>by
  have:(BG _).map (RH ad nx)=[]:=h;exact CA.2 (map_eq_nil_iff.1 this)
 |p::r,fr,h=>by
  obtain⟨q,cs',h1,h2,h3,h4⟩:=h;obtain⟨I,g1,g2⟩:=Lk h1;obtain⟨a,b,rfl,ha,hb⟩:=map_eq_append_iff.1 g2;obtain⟨fr',k1,k2⟩:=N4 g1;subst ha;refine⟨a,fr',(zH a _ _).1 h2,k1,λhk=>by have:=h3 hk;rwa [length_map]at this,WA (JR ?_ h4)⟩;rw[<-hb];exact(k2.map _).symm
theorem TB(n:Nat):BG (replicate n true)=range n:=by
 unfold BG;rw[length_replicate,filter_eq_self];intro k hk;have:=mem_range.1 hk;simp[getD_eq_getElem?_getD,this]
theorem SZ(cs:List (Int × Int)):(range cs.length).map (RH (cs.map (·.1)) (cs.map (·.2)))=cs:=by
 apply ext_getElem
 .simp
 .intro i h1 h2;simp only[getElem_map,getElem_range];unfold RH;simp[h2]
theorem GS{cs:List (Int × Int)}{l:List Pr}:xM (cs.map (·.1)) (cs.map (·.2)) val l (replicate (cs.map (·.1)).length true)↔Wz val l cs:=by
 have e:(BG (replicate (cs.map (·.1)).length true)).map (RH (cs.map (·.1)) (cs.map (·.2)))=cs:=by
  rw[TB,length_map];exact SZ cs
 constructor
 .intro h;have:=Wy h;rwa [e]at this
 .intro h;refine WA ?_;rw[e];exact h
theorem lL{cs:List (Int × Int)}{s:Nat->Int}{f:CF}:EA cs s f↔py (cs.map (·.1)) (cs.map (·.2)) s f:=by
 constructor
 .rintro⟨v,h1,h2⟩;exact⟨v,⟨h1.nl,h1.ap,GS.2 h1.sp⟩,h2⟩
 .rintro⟨v,h1,h2⟩;exact⟨v,⟨h1.nl,h1.ap,GS.1 h1.sp⟩,h2⟩
end
section
variable {cs cs':List (Int × Int)} {s:Nat->Int} {f g:CF} {val:Nat->Int}
theorem EA.td(hk:aq f)(h:EA cs s f):EA cs s (aZ f):=lL.2 (py.td hk (lL.1 h))
theorem EA.fo(h:EA cs s f):EA cs s (Eb f):=lL.2 (py.fo (lL.1 h))
structure CsH(cs:List (Int × Int)):Prop where
 nd:(cs.map (·.1)).Nodup
 ps:∀c∈cs,0<c.1
theorem EA.within(hc:CsH cs)(hg:aq g)(hw:xF f g=true)(h:EA cs s f):EA cs s g :=
 lL.2 (py.within hc.nd (λv hv=>by obtain⟨c,h1,rfl⟩:=mem_map.1 hv;exact hc.ps c h1) hg hw (lL.1 h))
end
