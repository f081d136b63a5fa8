import Derived.Test.YtciihepbeacppaaGreatM30
namespace Go.Proofs.YtciihepbeacppaaGreat
open Go.RowKit List
set_option linter.unusedVariables false
structure CsC(C:CF->Prop):Prop where
 ok:∀g,C g->aj g/\js g
 st:∀g,C g->∀i∈dc g,∀a,a<24->Kp g a=true->∀x∈eM g a i,C (aQ x)
section
variable {w:Nat} {F V f:CF} {val:Nat->Nat} {L:List (Pr × List Pr)}
theorem uf(hk:aj f){a:Nat}:Kp f a=true↔dI f a/\a≠f.cl.getD 0 0/\cD f.ow a=none:=by
 unfold Kp;rw[Bool.and_eq_true,Bool.and_eq_true,decide_eq_true_iff,ez hk];constructor
 .rintro⟨⟨h1,h2⟩,h3⟩;refine⟨h1,by simpa using h2,?_⟩;cases hb:cD f.ow a with
  |none=>rfl
  |some j=>rw[hb]at h3;simp at h3
 .rintro⟨h1,h2,h3⟩;exact⟨⟨h1,by simpa using h2⟩,by rw[h3];rfl⟩
theorem dI.lt(hk:aj f){a:Nat}(h:dI f a):a<24:=h (λa=>a<24) (λi _ _=>hk.get i) (λp hp _=>(hk.ow p hp).2)
theorem Gm(hf:aj f)(kf:js f){i c:Nat}(hi:i<f.ow.length)(hc:c<24)(h0:c≠f.cl.getD 0 0)(hb:cD f.ow c=none){g:CF}(hg:g∈eM f c i):aj g/\js (aQ g)/\((g=fY f c i/\aV f c (owA f i).l=false)\/(g=dB f c i/\(owA f i).k=4)):=by
 have hm:owA f i∈f.ow:=aY hi;unfold eM at hg;rcases mem_append.1 hg with hg|hg
 .split at hg
  .simp at hg
  .rename_i hd;have hd:aV f c (owA f i).l=false:=(by simpa using hd);rw[mem_singleton.1 hg];have bm:=hf.m1 hd;refine⟨bm,⟨(kf.k.jo (a:=(owA f i).l) (b:=c)).td,qb bm,fH.td bm (kf.n.jo hf.c5 ?_)⟩,zq0 ⟨rfl,hd⟩⟩;cases Cn:aV f (owA f i).l c with
   |false=>rfl
   |true=>rw[iC Cn]at hd;cases hd
 .split at hg
  .rename_i hk;rw[mem_singleton.1 hg];have bm:aj (dB f c i):=hf.m2 hc hb;have hs:(dB f c i).ow.Perm (⟨4,(owA f i).l,c⟩::⟨4,c,(owA f i).r⟩::iQ f.ow i):=by
    show(f.ow.set i (⟨(owA f i).k,(owA f i).l,c⟩:Pr)++[(⟨4,c,(owA f i).r⟩:Pr)]).Perm _;rw[hk];exact((perm_append_comm (l₂:=[(⟨4,c,(owA f i).r⟩:Pr)])).trans ((iW hi (⟨4,(owA f i).l,c⟩:Pr)).cons _)).trans (List.Perm.swap _ _ _)
   have gW:∀p∈(dB f c i).ow,p=⟨4,(owA f i).l,c⟩\/p=⟨4,c,(owA f i).r⟩\/p∈f.ow:=λp hp=>by
    rcases mem_cons.1 (hs.subset hp) with h|h
    .exact zq0 h
    .rcases mem_cons.1 h with h|h
     .exact zq1 (zq0 h)
     .exact zq1 (zq1 (nM h))
   have SE:Kd (dB f c i):=λp hp=>by
    rcases gW p hp with rfl|rfl|h
    .exact zq1 rfl
    .exact zq1 rfl
    .exact kf.k p h
   have Dn:fH (dB f c i):=⟨kf.n.ap,λp hp=>by
    have e:(dB f c i).cl.getD 0 0=f.cl.getD 0 0:=rfl;rw[e];rcases gW p hp with rfl|rfl|h
    .exact kf.n.ow (owA f i) hm
    .exact h0
    .exact kf.n.ow p h⟩
   exact⟨bm,⟨SE.td,qb bm,Dn.td bm⟩,zq1 ⟨rfl,hk⟩⟩
  .simp at hg
theorem Zk{C:CF->Prop}(hC:CsC C)(hw:w<4)(hF:aj F)(kF:js F):∀(n:Nat) {g:CF},F.ow.length<=Jz g+n->C g->Cz (λi=>i) w F g->∃g',C g'/\Cz (λi=>i) w (qf F) (qf g'):=by
 intro n;induction n with
 |zero =>
  intro g hn hg hE;obtain⟨val,h⟩:=hE;obtain⟨hV,kV⟩:=hC.ok g hg;obtain⟨cs,s1,s2⟩:=h.sp;rw[nil_append]at s1;obtain⟨L,w1,w2,w3⟩:=qu s2;have hp:=s1.trans w3;refine⟨g,hg,Ra hF kF.n hV hw h w1 w2 hp (λe he hr=>?_)⟩;exfalso;have h1:=Wo w1;have h2:=hp.length_eq;have h3:L.length=g.ow.length:=by rw[<-w2,length_map]
  have h4:Jz g<g.ow.length:=by
   have hm:e.1∈g.ow:=(by rw[<-w2];exact mem_map.2 ⟨e,he,rfl⟩);have h5:g.ow.countP (λp=>decide (p.l∈jx g))<g.ow.countP (λ_=>true):=Ff (λ_ _ _=>rfl) ⟨e.1,hm,decide_eq_false (λh9=>hr ((ez hV).1 h9)),rfl⟩;have h6:g.ow.countP (λ_=>true)<=g.ow.length:=countP_le_length;unfold Jz;omega
  omega
 |succ n ih =>
  intro g hn hg hE;obtain⟨val,h⟩:=hE;obtain⟨hV,kV⟩:=hC.ok g hg;obtain⟨cs,s1,s2⟩:=h.sp;rw[nil_append]at s1;obtain⟨L,w1,w2,w3⟩:=qu s2;have hp:=s1.trans w3;rcases VK hF kF.n hV h.cl w1 w2 hp with hd|⟨a,a1,a2,a3,e,he,hr,y,hy,UT⟩
  .exact⟨g,hg,Ra hF kF.n hV hw h w1 w2 hp hd⟩
  .have hm:e.1∈g.ow:=(by rw[<-w2];exact mem_map.2 ⟨e,he,rfl⟩);obtain⟨i,hi,KU⟩:=mem_iff_getElem.1 hm;have KX:g.ow.getD i ay=e.1:=(by rw[bX hi];exact KU);obtain⟨q1,q2,hq⟩:=append_of_mem hy;obtain⟨L',hL'⟩:=q9 he;have b1:F.ow.Perm ((q1++y::q2)++L'.flatMap (·.2)):=by
    rw[<-hq];have:=List.Perm.flatMap_right (λe:Pr × List Pr=>e.2) hL';rw[flatMap_cons]at this;exact hp.trans this
   have b4:g.ow.Perm (g.ow.getD i ay::L'.map (·.1)):=by
    rw[KX,<-w2];exact hL'.map _
   have hW':Tp val L':=⟨λx hx=>w1.ch x (hL'.symm.subset (mem_cons_of_mem _ hx)),λx hx=>w1.k x (hL'.symm.subset (mem_cons_of_mem _ hx))⟩;obtain⟨V',KK,e1,-⟩:=h.midA hF kF.n hV rfl kV.l UT hi b1 (by rw[KX,<-hq];exact w1.ch e he) (by rw[KX,<-hq];exact w1.k e he) b4 (E0 hW');have jN:i∈dc g:=(fX hV).2 ⟨hi,by show ¬ dI g (g.ow.getD i ay).l;rw[KX];exact hr⟩;have hCn:=hC.st g hg i jN a (a1.lt hV) ((uf hV).2 ⟨a1,a2,a3⟩) V' KK;obtain⟨o1,o2,o3⟩:=Gm hV kV hi (a1.lt hV) a2 a3 KK;have au:Jz g<Jz V':=by
    rcases o3 with⟨rfl,hd⟩|⟨rfl,hk⟩
    .exact abx hV hi ((fX hV).1 jN).2 a1 hd
    .exact aby hV hi hk ((fX hV).1 jN).2 a1 (a1.lt hV) a3
   have m8:=abz o1;obtain⟨v2,h2⟩:=e1.tdV o1;exact ih (by omega) hCn ⟨v2,h2⟩
end
theorem Jr{a b:List Pr}(h:pf a b=true):a=b:=by
 unfold pf at h;rw[Bool.and_eq_true,decide_eq_true_iff,all_eq_true]at h;refine ext_getElem h.1 (λi h1 h2=>?_);have:=uH.1 (h.2 i (mem_range.2 h1));rw[bX h1,bX h2]at this;exact this
theorem abN{f g:CF}(hf:aj f)(hg:aj g)(h:Mx f g=true):f=g:=by
 unfold Mx at h;rw[Bool.and_eq_true,Bool.and_eq_true,decide_eq_true_iff]at h;obtain⟨⟨h1,h2⟩,h3⟩:=h;have h2:=Jr h2;have h3:=Jr h3;have h1:f.cl=g.cl:=by
  refine ext_getElem (by rw[hf.c5,hg.c5]) (λi a b=>?_);have e1:(kj f).getD i 0=(kj g).getD i 0:=by rw[h1]
  have hi:i<5:=by rw[<-hf.c5];exact a
  have k:∀f:CF,(kj f).getD i 0=f.cl.getD i 0:=λf=>by
   have:i=0\/i=1\/i=2\/i=3\/i=4:=(by omega);rcases this with rfl|rfl|rfl|rfl|rfl <;> rfl
  rw[k,k,getD_eq_getElem?_getD,getD_eq_getElem?_getD,getElem?_eq_getElem a,getElem?_eq_getElem b]at e1;exact e1
 cases f;cases g
 simp_all
def JZ(g y:CF):Prop:=∃i∈dc g,∃a,a<24/\Kp g a=true/\∃x∈eM g a i,y=aQ x
structure ET(P:CF->Prop)(r r':List CF × Sr):Prop where
 pre:∃t,r'.1=r.1++t/\∀y∈t,P y
 fu:r.2.fu=true->r'.2.fu=true
theorem ET.refl(P:CF->Prop)(r:List CF × Sr):ET P r r:=⟨⟨[],by simp,by simp⟩,λh=>h⟩
theorem ET.trans{P:CF->Prop}{a b c:List CF × Sr}(h:ET P a b)(h':ET P b c):ET P a c:=by
 obtain⟨⟨t,h1,h2⟩,h3⟩:=h;obtain⟨⟨u,g1,g2⟩,g3⟩:=h';refine⟨⟨t++u,by rw[g1,h1,append_assoc],λy hy=>?_⟩,λx=>g3 (h3 x)⟩;rcases mem_append.1 hy with hy|hy
 .exact h2 y hy
 .exact g2 y hy
theorem ET.sub{P:CF->Prop}{a b:List CF × Sr}(h:ET P a b){x:CF}(hx:x∈a.1):x∈b.1:=by
 obtain⟨⟨t,h1,-⟩,-⟩:=h;rw[h1];exact mem_append_left _ hx
theorem ug{β:Type}{P:CF->Prop}{g:List CF × Sr->β->List CF × Sr}{K:List CF × Sr->Prop}{W:β->CF->Prop}:∀(l:List β),(∀b∈l,∀r,K r->ET P r (g r b)/\K (g r b)/\∀y,W b y->y∈(g r b).1)->∀{r:List CF × Sr},K r->ET P r (l.foldl g r)/\K (l.foldl g r)/\∀b∈l,∀y,W b y->y∈(l.foldl g r).1
 |[],_,r,h=>⟨ET.refl P r,h,λb hb=>by simp at hb⟩
 |b::l,hg,r,h=>by
  rw[foldl_cons];obtain⟨h1,h2,h3⟩:=hg b (by simp) r h;obtain⟨g1,g2,g3⟩:=ug l (λx hx=>hg x (by simp[hx])) h2;refine⟨h1.trans g1,g2,λx hx y hy=>?_⟩;rcases mem_cons.1 hx with rfl|hx
  .exact g1.sub (h3 y hy)
  .exact g3 x hx y hy
section
variable {c:Cd} {g:CF}
theorem Zn{r:List CF × Sr}{x:CF}{P:CF->Prop}(hr:bV r.1)(hx:aj x)(hP:P (aQ x)):ET P r (l7 c r x)/\bV (l7 c r x).1/\aQ x∈(l7 c r x).1:=by
 have bm:=(Ot (c:=c) hr hx).1;unfold l7 at bm ⊢;split
 .rename_i hn;rw[if_pos hn]at bm;refine⟨⟨⟨[aQ x],rfl,λy hy=>by rw[mem_singleton.1 hy];exact hP⟩,λh=>?_⟩,bm,by simp⟩;show(r.2.fu||_)=true;rw[h];rfl
 .rename_i hn;rw[if_neg hn]at bm;refine⟨ET.refl P r,bm,?_⟩;have hn:r.1.any (λg=>Mx (aQ x) g)=true:=by
   unfold XW at hn;simpa using hn
  obtain⟨y,hy,hs⟩:=any_eq_true.1 hn;rw[abN hx.td (hr y hy).ok hs];exact hy
theorem Ov(hg:Td g)(l:List Nat)(hl:∀i∈l,i∈dc g){r:List CF × Sr}(hr:bV r.1):ET (JZ g) r (l.foldl (eU c g) r)/\bV (l.foldl (eU c g) r).1/\∀i∈l,∀a,a<24->Kp g a=true->∀x∈eM g a i,aQ x∈(l.foldl (eU c g) r).1:=by
 obtain⟨h1,h2,h3⟩:=ug (P:=JZ g) (g:=eU c g) (K:=λr=>bV r.1) (W:=λi y=>∃a,a<24/\Kp g a=true/\∃x∈eM g a i,y=aQ x) l (λi hi r hr=>by
  obtain⟨k1,k2,k3⟩:=ug (P:=JZ g) (g:=oS c g i) (K:=λr=>bV r.1) (W:=λa y=>Kp g a=true/\∃x∈eM g a i,y=aQ x) (range 24) (λa ha r hr=>by
   have C6:=mem_range.1 ha;unfold oS;split
   .rename_i ha;obtain⟨-,-,hb⟩:=(uf hg.ok).1 ha;have fj:=Bl hg.ok (i:=i) C6 hb;obtain⟨m1,m2,m3⟩:=ug (P:=JZ g) (g:=l7 c) (K:=λr=>bV r.1) (W:=λx y=>y=aQ x) (eM g a i) (λx hx r hr=>by
     obtain⟨n1,n2,n3⟩:=Zn (c:=c) (P:=JZ g) hr (fj x hx) ⟨i,hl i hi,a,C6,ha,x,hx,rfl⟩;exact⟨n1,n2,λy hy=>by rw[hy];exact n3⟩) hr
    exact⟨m1,m2,λy ⟨_,x,hx,hy⟩=>m3 x hx y hy⟩
   .rename_i ha;exact⟨ET.refl _ _,hr,λy hy=>absurd hy.1 ha⟩) hr
  exact⟨k1,k2,λy ⟨a,ha,h4,h5⟩=>k3 a (mem_range.2 ha) y ⟨h4,h5⟩⟩) hr
 exact⟨h1,h2,λi hi a ha hf x hx=>h3 i hi _ ⟨a,ha,hf,x,hx,rfl⟩⟩
theorem Oe(r:List CF × Sr)(res:List CF):ud c g r res=(res++[qf g],(dc g).foldl (eU c g) r):=by
 unfold ud qf;split
 .rename_i h;rw[h];rfl
 .rfl
theorem Ig{Q:CF->Prop}(hQ:∀g y,Td g->Q g->JZ g y->Q y):∀(n k:Nat) {res:List CF} {r:List CF × Sr},bV r.1->(∀x∈r.1,Q x)->∀y∈(ip c n k res r).1,y∈res\/∃G,Td G/\Q G/\y=qf G
 |0,k,res,r,_,_,y,hy=>zq0 hy
 |n+1,k,res,r,hr,hq,y,hy=>by
  unfold ip at hy;split at hy
  .rename_i h;have hm:r.1.getD k ⟨[],[],[]⟩∈r.1:=by
    rw[getD_eq_getElem?_getD,getElem?_eq_getElem h.1];exact getElem_mem h.1
   rw[Oe]at hy;obtain⟨g1,g2,-⟩:=Ov (c:=c) (hr _ hm) (dc (r.1.getD k ⟨[],[],[]⟩)) (λ_ h=>h) hr;obtain⟨⟨t,t1,t2⟩,-⟩:=g1;rcases Ig hQ n (k+1) g2 (λx hx=>by
    rw[t1]at hx;rcases mem_append.1 hx with hx|hx
    .exact hq x hx
    .exact hQ _ x (hr _ hm) (hq _ hm) (t2 x hx)) y hy with h9|h9
   .rcases mem_append.1 h9 with h9|h9
    .exact zq0 h9
    .exact zq1 ⟨_,hr _ hm,hq _ hm,mem_singleton.1 h9⟩
   .exact zq1 h9
  .exact zq0 hy
theorem N9{Q:CF->Prop}(hQ:∀g y,Td g->Q g->JZ g y->Q y):∀(n k:Nat) {res:List CF} {r:List CF × Sr},bV r.1->(∀x∈r.1,Q x)->(∀j,j<k->∀x,r.1[j]?=some x->qf x∈res/\∀y,JZ x y->y∈r.1)->(ip c n k res r).2.ok=true->(ip c n k res r).2.fu=false->∃C:List CF,(∀x∈r.1,x∈C)/\(∀x∈C,Td x/\Q x/\qf x∈(ip c n k res r).1/\∀y,JZ x y->y∈C)
 |0,k,res,r,_,_,_,ho,_=>by cases ho
 |n+1,k,res,r,hr,hq,hk,ho,hf=>by
  unfold ip at ho hf ⊢;split
  .rename_i h;rw[if_pos h]at ho hf;have hm:r.1.getD k ⟨[],[],[]⟩∈r.1:=by
    rw[getD_eq_getElem?_getD,getElem?_eq_getElem h.1];exact getElem_mem h.1
   rw[Oe]at ho hf ⊢;obtain⟨g1,g2,g3⟩:=Ov (c:=c) (hr _ hm) (dc (r.1.getD k ⟨[],[],[]⟩)) (λ_ h=>h) hr;have PJ:=λx (hx:x∈r.1)=>g1.sub hx;obtain⟨⟨t,t1,t2⟩,-⟩:=g1;obtain⟨C,c1,c2⟩:=N9 hQ n (k+1) (res:=res++[qf (r.1.getD k ⟨[],[],[]⟩)]) g2 (λx hx=>by
    rw[t1]at hx;rcases mem_append.1 hx with hx|hx
    .exact hq x hx
    .exact hQ _ x (hr _ hm) (hq _ hm) (t2 x hx)) (λj hj x hx=>by
     rw[t1,getElem?_append_left (by omega)]at hx;by_cases e:j=k
     .subst e;have ex:r.1.getD j ⟨[],[],[]⟩=x:=(by rw[getD_eq_getElem?_getD,hx];rfl);refine⟨by rw[ex];simp,λy ⟨i,hi,a,ha,h5,x',hx',hy⟩=>?_⟩;rw[<-ex]at hi h5 hx';rw[hy];exact g3 i hi a ha h5 x' hx'
     .obtain⟨h5,h6⟩:=hk j (by omega) x hx;exact⟨mem_append_left _ h5,λy hy=>PJ _ (h6 y hy)⟩) ho hf
   exact⟨C,λx hx=>c1 x (PJ x hx),c2⟩
  .rename_i h;rw[if_neg h]at hf;have dN:r.1.length<=k:=by
    apply Nat.le_of_not_lt;intro h9;exact h ⟨h9,hf⟩
   refine⟨r.1,λx hx=>hx,λx hx=>?_⟩;obtain⟨j,hj,rfl⟩:=mem_iff_getElem.1 hx;obtain⟨h5,h6⟩:=hk j (by omega) _ (getElem?_eq_getElem hj);exact⟨hr _ hx,hq _ hx,h5,h6⟩
end
def Wv(f G:CF):Prop:=∀Q:CF->Prop,Q f->(∀g y,Td g->Q g->JZ g y->Q y)->Q G
structure ArJ(c:Cd)(J:Nat->CF->Prop)(Fl:Nat->Nat->Prop)(a b:Nat)(f:CF):Prop where
 fl:c.lp=true->dc f≠[]->Fl a 2
 no:c.lp=false->J b (bH c b f)
 yes:c.lp=true->∀G,Td G->Wv f G->J b (bH c b (qf G))
structure StJ(c:Cd)(J:Nat->CF->Prop)(Fl:Nat->Nat->Prop)(n:Nat)(f:CF):Prop where
 en:(c.nds.getD n aI).op=0->dc f≠[]->Fl n 2
 nu:(cj (c.nds.getD n aI) f).nu=true->Fl n 3
 da:(cj (c.nds.getD n aI) f).da=true->Fl n 4
 nx:∀x∈(cj (c.nds.getD n aI) f).nx,ArJ c J Fl n (c.nds.getD n aI).nx x
 ot:∀x∈(cj (c.nds.getD n aI) f).ot,ArJ c J Fl n (c.nds.getD n aI).ot x
structure J8(c:Cd)(N:Nat)(J:Nat->CF->Prop)(Fl:Nat->Nat->Prop):Prop where
 len:c.nds.length=N
 o:sQ c.nds
 st:∀n,n<N->∀f,Td f->J n f->StJ c J Fl n f
structure ij(N:Nat)(J:Nat->CF->Prop)(Fl:Nat->Nat->Prop)(s:Sr):Prop where
 sh:ki N s
 kn:∀n,∀e∈bq s n,J n e.f
 fl:∀n k,k=2\/k=3\/k=4->sW s n k=true->Fl n k
theorem Wv.refl(f:CF):Wv f f:=λ_ h _=>h
section
variable {c:Cd} {N n:Nat} {J:Nat->CF->Prop} {Fl:Nat->Nat->Prop} {f:CF} {s:Sr}
theorem I4(hn:n<N)(hs:ij N J Fl s)(hf:Td f)(hJ:J n (bH c n f)):ij N J Fl (bu c n f s):=by
 obtain⟨-,h2,-⟩:=oh (c:=c) hf hs.sh hn;have gu:n<s.kn.length:=by rw[hs.sh.kn];exact hn
 refine⟨h2,?_,λm k hk=>?_⟩
 .unfold bu;split
  .exact hs.kn
  .intro m e he;have hkA:bq (sJ c (pW n (bH c n f) (oY c s (2*(bq s n).length)))) m=if n=m then (bq s n).filter (λe=>!Eg e.f (bH c n f))++[⟨bH c n f,false⟩] else bq s m:=lw gu m
   rw[hkA]at he;by_cases e0:n=m
   .subst e0;rw[if_pos rfl]at he;rcases mem_append.1 he with he|he
    .exact hs.kn n e (mem_filter.1 he).1
    .rw[mem_singleton.1 he];exact hJ
   .rw[if_neg e0]at he;exact hs.kn m e he
 .have h9:sW (bu c n f s) m k=sW s m k:=by unfold bu;split <;> rfl
  rw[h9];exact hs.fl m k hk
theorem DA(hn:n<N):∀(l:List CF) {s:Sr},(∀x∈l,Td x/\J n (bH c n x))->ij N J Fl s->ij N J Fl (l.foldl (λs g=>bu c n g s) s)
 |[],_,_,h=>h
 |g::l,s,hl,h=>by
  rw[foldl_cons];exact DA hn l (λx hx=>hl x (by simp[hx])) (I4 hn h (hl g (by simp)).1 (hl g (by simp)).2)
theorem JY{k:Nat}(hn:n<N)(hk:k<5)(hs:ij N J Fl s)(hF:Fl n k):ij N J Fl (kO n k s):=by
 obtain⟨-,h2⟩:=xG hs.sh hn hk;refine⟨h2,hs.kn,λm j hj h=>?_⟩;rw[nT hs.sh hn hk]at h;split at h
 .rename_i h9;rw[<-h9.1,<-h9.2];exact hF
 .exact hs.fl m j hj h
theorem B0{b:Bool}{k:Nat}(hn:n<N)(hk:k<5)(hs:ij N J Fl s)(hF:b=true->Fl n k):ij N J Fl (wrI b n k s):=by
 unfold wrI;split
 .rename_i hb;exact JY hn hk hs (hF hb)
 .exact hs
theorem Ih{fuel k:Nat}{res:List CF}{r:List CF × Sr}(hr:bV r.1)(hq:bV res)(hs:ki N r.2):ki N (ip c fuel k res r).2:=by
 obtain⟨-,k2,k3⟩:=kQ (c:=c) fuel k (res:=res) (r:=r) hr hq;exact⟨by rw[k2];exact hs.kn,by rw[k3];exact hs.wr,λr hr=>by rw[k3]at hr;exact hs.rw r hr,λl hl=>by rw[k2]at hl;exact hs.td l hl⟩
theorem su(hf:Td f):bV [f]:=λg hg=>by rw[mem_singleton.1 hg];exact hf
theorem Bv:bV []:=λg hg=>by simp at hg
theorem wX{G:CF}(h:Td G):Td (qf G):=by
 unfold qf;split
 .exact h
 .exact GR h.ok
theorem tZ{fuel a b:Nat}(ha:a<N)(hb:b<N)(hf:Td f)(hs:ij N J Fl s)(hA:ArJ c J Fl a b f):ij N J Fl (dU c fuel a b f s):=by
 unfold dU;split
 .rename_i h;refine I4 hb hs hf ?_;cases hl:c.lp with
  |false=>exact hA.no hl
  |true =>
   rcases h with h|h
   .rw[hl]at h;cases h
   .have:=hA.yes hl f hf (Wv.refl f);unfold qf at this;rw[if_pos h]at this;exact this
 .rename_i h;have zj:c.lp=true:=by
   cases hl:c.lp with
   |true=>rfl
   |false=>exact absurd (zq0 hl) h
  have jN:dc f≠[]:=λh9=>h (zq1 h9);simp only;have h1:=JY (k:=2) ha (by omega) hs (hA.fl zj jN);obtain⟨k1,k2,k3⟩:=kQ (c:=c) fuel 0 (res:=[]) (r:=([f],kO a 2 s)) (su hf) Bv;have hS:=Ih (c:=c) (fuel:=fuel) (k:=0) (res:=[]) (r:=([f],kO a 2 s)) (su hf) Bv h1.sh;refine DA hb _ (λx hx=>⟨k1 x hx,?_⟩) ⟨hS,λm e he=>?_,λm k hk h=>?_⟩
  .rcases Ig (c:=c) (Q:=Wv f) (λg y hg hq hn=>λQ q1 q2=>q2 g y hg (hq Q q1 q2) hn) fuel 0 (su hf) (λx hx=>by rw[mem_singleton.1 hx];exact Wv.refl f) x hx with h9|⟨G,g1,g2,rfl⟩
   .simp at h9
   .exact hA.yes zj G g1 g2
  .unfold bq at he;rw[k2]at he;exact h1.kn m e he
  .unfold sW at h;rw[k3]at h;exact h1.fl m k hk h
theorem zZ{fuel a b:Nat}(ha:a<N):∀(l:List CF) {s:Sr},(l≠[]->b<N)->bV l->(∀x∈l,ArJ c J Fl a b x)->ij N J Fl s->ij N J Fl (l.foldl (λs g=>dU c fuel a b g s) s)
 |[],_,_,_,_,h=>h
 |g::l,s,hb,ht,hl,h=>by
  rw[foldl_cons];have hbN:=hb (by simp);exact zZ ha l (λ_=>hbN) (λx hx=>ht x (by simp[hx])) (λx hx=>hl x (by simp[hx])) (tZ ha hbN (ht g (by simp)) h (hl g (by simp)))
theorem V8{fuel:Nat}(hH:J8 c N J Fl)(hn:n<N)(hf:Td f)(hJ:J n f)(hs:ij N J Fl s):ij N J Fl (pm c fuel n f s):=by
 obtain⟨hv,ha⟩:=hH.o.v n;obtain⟨t1,t2⟩:=jG hv ha hf;have jO:n<c.nds.length:=by rw[hH.len];exact hn
 have ce:(cj (c.nds.getD n aI) f).nx≠[]->(c.nds.getD n aI).nx<N:=λh=>by rw[<-hH.len];exact hH.o.nx n jO (rS h)
 have yh:(cj (c.nds.getD n aI) f).ot≠[]->(c.nds.getD n aI).ot<N:=λh=>by rw[<-hH.len];exact hH.o.ot n jO (rT h)
 have aP:=hH.st n hn f hf hJ;unfold pm;simp only;have a1:=B0 (b:=decide ((c.nds.getD n aI).op=0)&&!decide (dc f=[])) (k:=2) hn (by omega) hs (λh=>by
  rw[Bool.and_eq_true,decide_eq_true_iff]at h;exact aP.en h.1 (by simpa using h.2))
 have a2:=B0 (b:=(cj (c.nds.getD n aI) f).nu) (k:=3) hn (by omega) a1 aP.nu;have a3:=B0 (b:=(cj (c.nds.getD n aI) f).da) (k:=4) hn (by omega) a2 aP.da;refine zZ hn _ yh t2 aP.ot (zZ hn _ ce t1 aP.nx ⟨(Aw _ a3.sh).2.1,a3.kn,a3.fl⟩)
theorem JW{fuel:Nat}(hH:J8 c N J Fl)(hn:n<N):∀(l:List CF) {s:Sr},(∀x∈l,Td x/\J n x)->ij N J Fl s->ij N J Fl (nN c fuel n l s)
 |[],_,_,h=>h
 |f::l,s,hl,h=>by
  unfold nN;split
  .exact h
  .obtain⟨h1,h2⟩:=hl f (by simp);exact JW hH hn l (λx hx=>hl x (by simp[hx])) (V8 hH hn h1 h2 h)
theorem Wm{fuel:Nat}(hH:J8 c N J Fl)(hn:n<N)(h:ij N J Fl s):ij N J Fl (sN c fuel n s):=by
 have gu:n<s.kn.length:=by rw[h.sh.kn];exact hn
 obtain⟨s0,tN⟩:∃s0:Sr,s0={ s with kn:=s.kn.set n ((bq s n).map (λe:ig=>(⟨e.f,true⟩:ig))) }:=⟨_,rfl⟩;have hkA:∀m,bq s0 m=if n=m then (bq s n).map (λe=>⟨e.f,true⟩) else bq s m:=λm=>by rw[tN];exact lw gu m
 have OW:ki N s0:=by
  rw[tN];refine⟨by show(s.kn.set n _).length=N;rw[length_set];exact h.sh.kn,h.sh.wr,h.sh.rw,λl hl e he=>?_⟩;rcases mem_or_eq_of_mem_set (show l∈s.kn.set n _ from hl) with h1|rfl
  .exact h.sh.td l h1 e he
  .obtain⟨x,hx,rfl⟩:=mem_map.1 he;exact h.sh.td.at n x hx
 have h0:ij N J Fl s0:=by
  refine⟨OW,λm e he=>?_,by rw[tN];exact h.fl⟩;rw[hkA]at he;by_cases e0:n=m
  .subst e0;rw[if_pos rfl]at he;obtain⟨x,hx,rfl⟩:=mem_map.1 he;exact h.kn n x hx
  .rw[if_neg e0]at he;exact h.kn m e he
 have e1:sN c fuel n s=nN c fuel n (mH (bq s n)) s0:=by rw[tN];rfl
 rw[e1];refine JW hH hn _ (λx hx=>?_) h0;obtain⟨e,he,rfl⟩:=mem_map.1 hx;have he:=(mem_filter.1 he).1;exact⟨h.sh.td.at n e he,h.kn n e he⟩
theorem uK{fuel:Nat}(hH:J8 c N J Fl):∀(k:Nat) {s:Sr},ij N J Fl s->ij N J Fl (qg c fuel k s)
 |0,_,h=>⟨⟨h.sh.kn,h.sh.wr,h.sh.rw,h.sh.td⟩,h.kn,h.fl⟩
 |k+1,s,h=>by
  unfold qg;split
  .exact h
  .rename_i n hp;have hn:n<N:=by
    unfold EN at hp;obtain⟨h1,-⟩:=findIdx?_eq_some_iff_getElem.1 hp;rw[<-h.sh.kn];exact h1
   split
   .exact h
   .exact uK hH k (Wm hH hn h)
end
def Nf(s:Sr):Prop:=s.ok=true/\s.fu=false
theorem Nf.of{a b:Sr}(h:Nf b)(hl:mR a b)(hm:b.ok=true->a.ok=true):Nf a:=by
 refine⟨hm h.1,?_⟩;cases hf:a.fu with
 |false=>rfl
 |true=>have:=hl.fu hf;rw[h.2]at this;cases this
structure R3(c:Cd)(s:Sr)(a b:Nat)(f:CF):Prop where
 fl:c.lp=true->dc f≠[]->sW s a 2=true
 cs:∃C:List CF,f∈C/\∀x∈C,Td x/\(js f->js x)/\(c.lp=true->∀y,JZ x y->y∈C)/\∀P,SW P->P (bH c b (if c.lp=true then qf x else x))->CC s b P
structure Wu(c:Cd)(s:Sr)(n:Nat)(f:CF):Prop where
 nu:(cj (c.nds.getD n aI) f).nu=true->sW s n 3=true
 da:(cj (c.nds.getD n aI) f).da=true->sW s n 4=true
 fu:(cj (c.nds.getD n aI) f).fu=false
 en:(c.nds.getD n aI).op=0->dc f≠[]->sW s n 2=true
 nx:∀g∈(cj (c.nds.getD n aI) f).nx,R3 c s n (c.nds.getD n aI).nx g
 ot:∀g∈(cj (c.nds.getD n aI) f).ot,R3 c s n (c.nds.getD n aI).ot g
section
variable {c:Cd} {N n:Nat} {f:CF} {s:Sr}
theorem R3.mono{s':Sr}{a b:Nat}(h:R3 c s a b f)(hl:mR s s'):R3 c s' a b f:=by
 obtain⟨h1,C,h2,h3⟩:=h;refine⟨λx y=>hl.fl _ _ (h1 x y),C,h2,λx hx=>?_⟩;obtain⟨k1,k2,k3,k4⟩:=h3 x hx;exact⟨k1,k2,k3,λP hc hp=>hl.kn _ _ hc (k4 P hc hp)⟩
theorem Wu.mono{s':Sr}(h:Wu c s n f)(hl:mR s s'):Wu c s' n f:=⟨λx=>hl.fl _ _ (h.nu x),λx=>hl.fl _ _ (h.da x),h.fu,λx y=>hl.fl _ _ (h.en x y),λg hg=>(h.nx g hg).mono hl,λg hg=>(h.ot g hg).mono hl⟩
theorem Dz:∀(l:List CF) {s:Sr},bV l->ki N s->n<N->∀g∈l,∀P,SW P->P (bH c n g)->CC (l.foldl (λs g=>bu c n g s) s) n P
 |[],s,_,_,_,g,hg=>by simp at hg
 |g::l,s,hl,h,hn,x,hx=>by
  intro P hP hp;rw[foldl_cons];obtain⟨-,h2,h3⟩:=oh (c:=c) (hl g (by simp)) h hn;obtain⟨h4,-⟩:=uu (c:=c) (n:=n) l (λx hx=>hl x (by simp[hx])) h2 hn;rcases mem_cons.1 hx with rfl|hx
  .exact h4.kn _ _ hP (h3 P hP hp)
  .exact Dz l (λx hx=>hl x (by simp[hx])) h2 hn x hx P hP hp
theorem wh{g y:CF}(hg:Td g)(kg:js g)(h:JZ g y):js y:=by
 obtain⟨i,hi,a,ha,hf,x,hx,rfl⟩:=h;obtain⟨-,f2,f3⟩:=(uf hg.ok).1 hf;exact(Gm hg.ok kg ((fX hg.ok).1 hi).1 ha f2 f3 hx).2.1
theorem M5{fuel a b:Nat}(hf:Td f)(hs:ki N s)(ha:a<N)(hb:b<N)(hN:Nf (dU c fuel a b f s)):R3 c (dU c fuel a b f s) a b f:=by
 unfold dU at hN ⊢;split
 .rename_i h;obtain⟨-,-,h3⟩:=oh (c:=c) hf hs hb;refine⟨λhl jN=>?_,[f],by simp,λx hx=>?_⟩
  .rcases h with h|h
   .rw[hl]at h;cases h
   .exact absurd h jN
  .rw[mem_singleton.1 hx];refine⟨hf,λh=>h,λhl y hy=>?_,λP hc hp=>h3 P hc ?_⟩
   .obtain⟨i,hi,-⟩:=hy;rcases h with h|h
    .rw[hl]at h;cases h
    .rw[h]at hi;simp at hi
   .cases hl:c.lp with
    |false=>rw[hl,if_neg (by simp)]at hp;exact hp
    |true =>
     rw[hl,if_pos rfl]at hp;rcases h with h|h
     .rw[hl]at h;cases h
     .unfold qf at hp;rw[if_pos h]at hp;exact hp
 .rename_i h;rw[if_neg h]at hN;have zj:c.lp=true:=by
   cases hl:c.lp with
   |true=>rfl
   |false=>exact absurd (zq0 hl) h
  simp only at hN ⊢;obtain⟨g1,g2⟩:=xG hs ha (k:=2) (by omega);obtain⟨k1,k2,k3⟩:=kQ (c:=c) fuel 0 (res:=[]) (r:=([f],kO a 2 s)) (su hf) Bv;have hS:=Ih (c:=c) (fuel:=fuel) (k:=0) (res:=[]) (r:=([f],kO a 2 s)) (su hf) Bv g2;obtain⟨q1,-⟩:=uu (c:=c) (n:=b) (ip c fuel 0 [] ([f],kO a 2 s)).1 k1 hS hb;have hNf:Nf (ip c fuel 0 [] ([f],kO a 2 s)).2:=hN.of q1 (jw _);refine⟨λ_ _=>q1.fl _ _ ?_,?_⟩
  .unfold sW;rw[k3];have:=nT hs ha (k:=2) (by omega) a 2;rw[if_pos ⟨rfl,rfl⟩]at this;exact this
  .obtain⟨C,c1,c2⟩:=N9 (c:=c) (Q:=λx=>js f->js x) (λg y hg hq hn h=>wh hg (hq h) hn) fuel 0 (res:=[]) (r:=([f],kO a 2 s)) (su hf) (λx hx h=>by rw[mem_singleton.1 hx];exact h) (λj hj=>by omega) hNf.1 hNf.2;refine⟨C,c1 f (by simp),λx hx=>?_⟩;obtain⟨d1,d2,d3,d4⟩:=c2 x hx;refine⟨d1,d2,λ_=>d4,λP hc hp=>?_⟩;rw[if_pos zj]at hp;exact Dz _ k1 hS hb _ d3 P hc hp
theorem E3{fuel a b:Nat}(ha:a<N):∀(l:List CF) {s:Sr},(l≠[]->b<N)->bV l->ki N s->Nf (l.foldl (λs g=>dU c fuel a b g s) s)->∀g∈l,R3 c (l.foldl (λs g=>dU c fuel a b g s) s) a b g
 |[],s,_,_,_,_,g,hg=>by simp at hg
 |g::l,s,hb,hl,h,hN,x,hx=>by
  rw[foldl_cons]at hN ⊢;have hbN:=hb (by simp);obtain⟨h1,h2,h3⟩:=Ac (c:=c) (fuel:=fuel) (hl g (by simp)) h ha hbN;obtain⟨h4,h5,-⟩:=pH (c:=c) (fuel:=fuel) ha l (λ_=>hbN) (λx hx=>hl x (by simp[hx])) h2;rcases mem_cons.1 hx with rfl|hx
  .exact(M5 (hl x (by simp)) h ha hbN (hN.of h4 (eR _))).mono h4
  .exact E3 ha l (λ_=>hbN) (λx hx=>hl x (by simp[hx])) h2 hN x hx
theorem GS{b:Bool}{k:Nat}(hs:ki N s)(hn:n<N)(hk:k<5)(hb:b=true):sW (wrI b n k s) n k=true:=by
 unfold wrI;rw[if_pos hb,nT hs hn hk,if_pos ⟨rfl,rfl⟩]
theorem ab1{fuel:Nat}(hN:c.nds.length=N)(hO:sQ c.nds)(hn:n<N)(hf:Td f)(hs:ki N s)(hF:Nf (pm c fuel n f s)):Wu c (pm c fuel n f s) n f:=by
 obtain⟨hv,ha⟩:=hO.v n;obtain⟨t1,t2⟩:=jG hv ha hf;have jO:n<c.nds.length:=by rw[hN];exact hn
 have ce:(cj (c.nds.getD n aI) f).nx≠[]->(c.nds.getD n aI).nx<N:=λh=>by rw[<-hN];exact hO.nx n jO (rS h)
 have yh:(cj (c.nds.getD n aI) f).ot≠[]->(c.nds.getD n aI).ot<N:=λh=>by rw[<-hN];exact hO.ot n jO (rT h)
 unfold pm at hF ⊢;simp only at hF ⊢;obtain⟨a1,a2,-⟩:=jr (b:=decide ((c.nds.getD n aI).op=0)&&!decide (dc f=[])) (k:=2) hs hn (by omega);obtain⟨b1,b2,-⟩:=jr (b:=(cj (c.nds.getD n aI) f).nu) (k:=3) a2 hn (by omega);obtain⟨d1,d2,-⟩:=jr (b:=(cj (c.nds.getD n aI) f).da) (k:=4) b2 hn (by omega);obtain⟨e1,e2,-⟩:=Aw (cj (c.nds.getD n aI) f).fu d2;obtain⟨g1,g2,-⟩:=pH (c:=c) (fuel:=fuel) (b:=(c.nds.getD n aI).nx) hn (cj (c.nds.getD n aI) f).nx ce t1 e2;obtain⟨k1,k2,-⟩:=pH (c:=c) (fuel:=fuel) (b:=(c.nds.getD n aI).ot) hn (cj (c.nds.getD n aI) f).ot yh t2 g2;have gf:=hF.of k1 (eR _);have pp:=gf.of g1 (eR _);have hl:=g1.trans k1;refine⟨λh=>?_,λh=>?_,?_,λh0 jN=>?_,λg hg=>(E3 hn _ ce t1 e2 gf g hg).mono k1,λg hg=>E3 hn _ yh t2 g2 hF g hg⟩
 .exact hl.fl _ _ (e1.fl _ _ (d1.fl _ _ (GS a2 hn (by omega) h)))
 .exact hl.fl _ _ (e1.fl _ _ (GS b2 hn (by omega) h))
 .have h1:(_||(cj (c.nds.getD n aI) f).fu)=false:=pp.2;rw[Bool.or_eq_false_iff]at h1;exact h1.2
 .exact hl.fl _ _ (e1.fl _ _ (d1.fl _ _ (b1.fl _ _ (GS hs hn (by omega) (by rw[decide_eq_true h0,Bool.true_and];simpa using jN)))))
def MT(c:Cd)(s:Sr)(n0:Nat)(R:List CF):Prop:=∀n,∀e∈bq s n,e.d=true->Wu c s n e.f\/(n=n0/\e.f∈R)
theorem MT.old{s':Sr}{n0:Nat}{R:List CF}(h:MT c s n0 R)(ho:jA s s')(hl:mR s s'):MT c s' n0 R:=λn e he hd=>by
 rcases h n e (ho n e he hd) hd with h1|h1
 .exact zq0 (h1.mono hl)
 .exact zq1 h1
theorem RL{fuel:Nat}(hN:c.nds.length=N)(hO:sQ c.nds)(hn:n<N):∀(l:List CF) {s:Sr},bV l->ki N s->Nf (nN c fuel n l s)->MT c s n l->MT c (nN c fuel n l s) n []
 |[],s,_,_,_,h=>h
 |f::r,s,hl,h,hF,hJ=>by
  unfold nN at hF ⊢;split
  .rename_i dX;rw[if_pos dX]at hF;rw[hF.2]at dX;cases dX
  .rename_i dX;rw[if_neg dX]at hF;obtain⟨h1,h2,-⟩:=Ru (fuel:=fuel) hN hO hn (hl f (by simp)) h;obtain⟨h4,h5,-⟩:=GP (fuel:=fuel) hN hO hn r (λx hx=>hl x (by simp[hx])) h2;have gf:=hF.of h4 (nO _);refine RL hN hO hn r (λx hx=>hl x (by simp[hx])) h2 hF ?_;intro m e he hd;rcases hJ.old (JN hN hO hn (hl f (by simp)) h) h1 m e he hd with g|⟨g1,g2⟩
   .exact zq0 g
   .rcases mem_cons.1 g2 with g2|g2
    .left;rw[g1,g2];exact ab1 hN hO hn (hl f (by simp)) h gf
    .exact zq1 ⟨g1,g2⟩
theorem MT.nil{n0 n1:Nat}(h:MT c s n0 []):MT c s n1 []:=λn e he hd=>by
 rcases h n e he hd with g|⟨-,g⟩
 .exact zq0 g
 .simp at g
theorem ab9{fuel:Nat}(hN:c.nds.length=N)(hO:sQ c.nds)(hn:n<N)(h:ki N s)(hF:Nf (sN c fuel n s))(hJ:MT c s n []):MT c (sN c fuel n s) n []:=by
 have gu:n<s.kn.length:=by rw[h.kn];exact hn
 obtain⟨s0,tN⟩:∃s0:Sr,s0={ s with kn:=s.kn.set n ((bq s n).map (λe:ig=>(⟨e.f,true⟩:ig))) }:=⟨_,rfl⟩;have hkA:∀m,bq s0 m=if n=m then (bq s n).map (λe=>⟨e.f,true⟩) else bq s m:=λm=>by rw[tN];exact lw gu m
 have hL:mR s s0:=by
  refine⟨λh=>by rw[tN];exact h,λm k h=>by rw[tN];exact h,λm P _ hk=>?_⟩;obtain⟨e,he,hf⟩:=hk;unfold CC;rw[hkA];by_cases e0:n=m
  .subst e0;rw[if_pos rfl];exact⟨⟨e.f,true⟩,mem_map.2 ⟨e,he,rfl⟩,hf⟩
  .rw[if_neg e0];exact⟨e,he,hf⟩
 have OW:ki N s0:=by
  rw[tN];refine⟨by show(s.kn.set n _).length=N;rw[length_set];exact h.kn,h.wr,h.rw,λl hl e he=>?_⟩;rcases mem_or_eq_of_mem_set (show l∈s.kn.set n _ from hl) with h1|rfl
  .exact h.td l h1 e he
  .obtain⟨x,hx,rfl⟩:=mem_map.1 he;exact h.td.at n x hx
 have lQ:bV (mH (bq s n)):=λg hg=>by
  obtain⟨e,he,rfl⟩:=mem_map.1 hg;exact h.td.at n e (mem_filter.1 he).1
 have e1:sN c fuel n s=nN c fuel n (mH (bq s n)) s0:=by rw[tN];rfl
 rw[e1]at hF ⊢;refine RL hN hO hn _ lQ OW hF ?_;intro m e he hd;rw[hkA]at he;by_cases e0:n=m
 .subst e0;rw[if_pos rfl]at he;obtain⟨x,hx,rfl⟩:=mem_map.1 he;cases hxd:x.d with
  |true =>
   rcases hJ n x hx hxd with g|⟨-,g⟩
   .exact zq0 (g.mono hL)
   .simp at g
  |false=>exact zq1 ⟨rfl,mem_map.2 ⟨x,mem_filter.2 ⟨hx,by simp[hxd]⟩,rfl⟩⟩
 .rw[if_neg e0]at he;rcases hJ m e he hd with g|⟨-,g⟩
  .exact zq0 (g.mono hL)
  .simp at g
theorem Rb{fuel:Nat}(hN:c.nds.length=N)(hO:sQ c.nds):∀(k:Nat) {s:Sr},ki N s->Nf (qg c fuel k s)->MT c s 0 []->∀n,∀e∈bq (qg c fuel k s) n,Wu c (qg c fuel k s) n e.f
 |0,s,h,hF,_=>by have:=hF.1;cases this
 |k+1,s,h,hF,hJ=>by
  unfold qg at hF ⊢;split
  .rename_i hp;intro n e he;have hd:e.d=true:=by
    unfold EN at hp;rw[findIdx?_eq_none_iff]at hp;unfold bq at he;obtain⟨y,hy,hey⟩:∃y∈s.kn,e∈y:=by
     rw[getD_eq_getElem?_getD]at he;cases hg:s.kn[n]? with
     |none=>rw[hg]at he;simp at he
     |some y=>rw[hg]at he;exact⟨y,mem_of_getElem? hg,he⟩
    have:=hp y hy;rw[any_eq_false]at this;have:=this e hey;simpa using this
   rcases hJ n e he hd with g|⟨-,g⟩
   .exact g
   .simp at g
  .rename_i n hp;rw[hp]at hF;have hn:n<N:=by
    unfold EN at hp;obtain⟨h1,-⟩:=findIdx?_eq_some_iff_getElem.1 hp;rw[<-h.kn];exact h1
   split
   .rename_i dX;simp only at hF;rw[if_pos dX]at hF;rw[hF.2]at dX;cases dX
   .rename_i dX;simp only at hF;rw[if_neg dX]at hF;obtain⟨h1,h2,-⟩:=RQ (fuel:=fuel) hN hO hn h;obtain⟨h4,h5,-⟩:=BP (fuel:=fuel) hN hO k h2;exact Rb hN hO k h2 hF (ab9 hN hO hn h (hF.of h4 (nI _)) hJ.nil).nil
end
def lL(F V:CF):Prop:=Cz (λi=>i) 0 F V
theorem Q7{w:Nat}(hw:w<4):RnV (λi=>i) w:=⟨rfl,λ_ h=>h,hw⟩
section
variable {F V U f G:CF} {w:Nat}
theorem Cz.any{w':Nat}(h:Cz (λi=>i) w F V):Cz (λi=>i) w' F V:=by
 obtain⟨val,h⟩:=h;exact⟨val,h.cl,h.ap,h.sp,λx hx=>by simp at hx⟩
theorem lL.any{w':Nat}(h:lL F V):Cz (λi=>i) w' F V:=Cz.any (w:=0) h
theorem lL.trans(h:lL F V)(hF:aj F)(nF:fH F)(hV:aj V)(h':lL V U):lL F U:=by
 obtain⟨val,h⟩:=h;obtain⟨v2,h'⟩:=h';exact⟨_,h.transL hF.lf nF.ow rfl hV.lf h'⟩
theorem pO(hV:aj V)(hw:Eg F V=true):lL F V:=Fk hV hw
theorem TE(hF:aj F)(nF:fH F):SW (lL F):=⟨λhf hg hw h=>h.trans hF nF hf (pO hg hw)⟩
theorem lL.tV(hV:aj V)(h:lL F V):lL F (aQ V):=by
 obtain⟨val,h⟩:=h;exact h.tdV hV
theorem lL.tF(hF:aj F)(h:lL F V):lL (aQ F) V:=by
 obtain⟨val,h⟩:=h;exact⟨_,h.tdF' (λ_ h=>h) (by omega) hF⟩
theorem lL.refl(hF:aj F)(kF:js F):lL F F:=by
 refine⟨λc=>c,λ_ _=>rfl,λp hp _ _=>?_,⟨F.ow,by simp,?_⟩,λx hx=>by simp at hx⟩
 .exact bZ.2 ⟨kF.n.ap p hp,zq0 ⟨p,hp,zq0 ⟨rfl,rfl⟩⟩⟩
 .have:∀l:List Pr,mr (λc=>c) l l:=by
   intro l;induction l with
   |nil=>rfl
   |cons p l ih=>exact⟨[p],l,List.Perm.refl _,⟨rfl,rfl⟩,λh=>⟨p,rfl,h⟩,ih⟩
  exact this F.ow
theorem lL.foV(hV:aj V)(h:lL F V):lL F (aQ (As V)):=by
 obtain⟨val,h⟩:=h;exact(show lL F (As V) from ⟨val,h.foV V.ow.length⟩).tV (dp _ hV).1
theorem lL.fo(hF:aj F)(hV:aj V)(hH:Sk V)(h:lL F V):lL (aQ (As F)) (aQ (As V)):=by
 obtain⟨val,h⟩:=h;exact(h.fold (λ_ h=>h) (by omega) hF hV hH).emn (Q7 (by omega)) (dp _ hF).1 (dp _ hV).1
theorem P8(hF:aj F)(hV:aj V)(h:lL F V)(hl:dc V=[]):dc F=[]:=by
 obtain⟨val,h⟩:=h;obtain⟨cs,s1,s2⟩:=h.sp;rw[nil_append]at s1;obtain⟨L,w1,w2,w3⟩:=qu s2;have hp:=s1.trans w3;rw[eq_nil_iff_forall_not_mem];intro i hi;obtain⟨i1,i2⟩:=(fX hF).1 hi;apply i2;obtain⟨e,he,hx⟩:=mem_flatMap.1 (hp.subset (show owA F i∈F.ow from aY i1));refine GC h.cl w1 w2 hp he ?_ _ hx;apply Classical.byContradiction;intro hn;have hm:e.1∈V.ow:=by rw[<-w2];exact mem_map.2 ⟨e,he,rfl⟩
 obtain⟨j,hj,hje⟩:=mem_iff_getElem.1 hm;have:j∈dc V:=(fX hV).2 ⟨hj,by rw[show owA V j=V.ow[j] from bX hj,hje];exact hn⟩;rw[hl]at this;simp at this
theorem P7(hf:aj f)(h:∀p∈f.ow,dI f p.l):dc f=[]:=by
 rw[eq_nil_iff_forall_not_mem];intro i hi;obtain⟨i1,i2⟩:=(fX hf).1 hi;exact i2 (h _ (aY i1))
theorem ahc(hf:aj f)(h:dc f=[]):∀p∈f.ow,dI f p.l:=by
 intro p hp;obtain⟨i,hi,rfl⟩:=mem_iff_getElem.1 hp;apply Classical.byContradiction;intro hn;have:i∈dc f:=(fX hf).2 ⟨hi,by rw[show owA f i=f.ow[i] from bX hi];exact hn⟩;rw[h]at this;simp at this
theorem I9(hf:aj f)(h:dc f=[]):dc (aQ f)=[]:=by
 refine P7 hf.td (λp hp=>?_);obtain⟨x,hx,rfl⟩:=mem_map.1 (show p∈f.ow.map (jk (df (cJ f))) from dG.1 (show p∈mm (wU (cJ f)).ow from hp));exact QX hf (ahc hf h x hx)
theorem P9(hf:aj f):dc (qf f)=[]:=by
 unfold qf;split
 .assumption
 .rw[BZ];refine I9 (zq hf) (P7 (zq hf) (λp hp=>?_));obtain⟨p1,p2⟩:=(wj hf).1 hp;have:=p2 (λc=>dI f c/\dI (Gj f) c) (λi i1 i5=>⟨dI.root i1 i5,dI.root (f:=Gj f) i1 i5⟩) (λq hq h=>⟨dI.on hq h.1,dI.on ((wj hf).2 ⟨hq,h.1⟩) h.2⟩);exact this.2
theorem X0(h:dc f=[]):qf f=f:=by unfold qf;rw[if_pos h]
theorem P0(hf:aj f)(h:js f):js (aQ f):=⟨h.k.td,qb hf,h.n.td hf⟩
theorem Ba(hf:aj f)(h:js f):js (qf f):=by
 unfold qf;split
 .exact h
 .rw[BZ];have hs:∀p∈(Gj f).ow,p∈f.ow:=λp hp=>((wj hf).1 hp).1;exact⟨(show Kd (Gj f) from λp hp=>h.k p (hs p hp)).td,qb (zq hf),(show fH (Gj f) from ⟨h.n.ap,λp hp=>h.n.ow p (hs p hp)⟩).td (zq hf)⟩
theorem NT{y x:CF}(hV:aj V)(kV:js V)(hy:Td y)(ky:js y)(h:lL y V)(hx:JZ y x):js x/\lL x V:=by
 refine⟨wh hy ky hx,?_⟩;obtain⟨i,hi,a,ha,hf,z,hz,rfl⟩:=hx;obtain⟨-,f2,f3⟩:=(uf hy.ok).1 hf;have um:=((fX hy.ok).1 hi).1;obtain⟨o1,o2,o3⟩:=Gm hy.ok ky um ha f2 f3 hz;refine lL.tF o1 ?_;obtain⟨val,h⟩:=h;have eJ:=h.apa kV.l;rcases o3 with⟨rfl,hd⟩|⟨rfl,hk⟩
 .have hd':aV y (owA y i).l a=false:=by
   cases Cn:aV y (owA y i).l a with
   |false=>rfl
   |true=>rw[iC Cn]at hd;cases hd
  exact⟨_,(h.joF1 (λ_ h=>h) (by omega) hy.ok.c5 eJ hd').1⟩
 .exact⟨_,(h.me2F hy.ok eJ um hk).1⟩
end
structure SX(c:Cd)(S:Sr)(a b:Nat)(y F:CF):Prop where
 fl:c.lp=true->dc F≠[]->sW S a 2=true
 no:c.lp=false->CC S b (lL F)
 yes:c.lp=true->∀G,Td G->Wv F G->js G/\CC S b (λz=>lL (qf G) z/\(c.hd.getD b false=true->lL (aQ (As (qf G))) z))
theorem qv{c:Cd}{S:Sr}{a b:Nat}{y F:CF}(jO:c.lp=false->∀n,c.hd.getD n false=false)(h:R3 c S a b y)(hy:Td y)(ky:js y)(hF:Td F)(kF:js F)(hE:lL F y):SX c S a b y F:=by
 obtain⟨h1,C,h2,h3⟩:=h;refine⟨λhl jN=>h1 hl (λe=>jN (P8 hF.ok hy.ok hE e)),λhl=>?_,λhl G hG hc=>?_⟩
 .obtain⟨-,-,-,k4⟩:=h3 y h2;refine k4 _ (TE hF.ok kF.n) ?_;unfold bH;rw[jO hl,if_neg (by simp),if_neg (by rw[hl];simp)];exact hE
 .obtain⟨kG,eG⟩:=hc (λx=>js x/\lL x y) ⟨kF,hE⟩ (λg x hg hq hn=>NT hy.ok ky hg hq.1 hq.2 hn);refine⟨kG,?_⟩;obtain⟨g',c1,c2⟩:=Zk (w:=0) (C:=λx=>x∈C) ⟨λg hg=>⟨(h3 g hg).1.ok,(h3 g hg).2.1 ky⟩,λg hg i hi a ha hf x hx=>(h3 g hg).2.2.1 hl _ ⟨i,hi,a,ha,hf,x,hx,rfl⟩⟩ (by omega) hG.ok kG G.ow.length (by omega) h2 eG;have c2:lL (qf G) (qf g'):=c2;obtain⟨k1,k2,-,k4⟩:=h3 g' c1;have hrG:=wX hG;have krG:=Ba hG.ok kG;have uq:=wX k1;have fj:aj (aQ (As (qf G))):=(dp _ hrG.ok).1.td;refine k4 _ ⟨λhf hg hw h=>⟨h.1.trans hrG.ok krG.n hf (pO hg hw),λhh=>(h.2 hh).trans fj (Gi hrG.ok krG).n hf (pO hg hw)⟩⟩ ?_;rw[if_pos hl];unfold bH;split
  .exact⟨c2.foV uq.ok,λ_=>c2.fo hrG.ok uq.ok (Py (P9 k1.ok))⟩
  .rename_i hh;exact⟨c2,λh9=>absurd h9 hh⟩
section
variable {r:Nat->Nat} {w N n:Nat} {c c':Cd} {S s:Sr} {F V:CF}
theorem A9(hf:aj F)(h:js F):js (bH c n F):=by
 unfold bH;split
 .exact Gi hf h
 .exact h
end
structure NdX(nd nd':Nd):Prop where
 op:nd'.op=nd.op
 ef:∀f,cj nd' f=cj nd f
structure Pla(c c':Cd)(N':Nat)(S:Sr)(u:Nat->Nat)(G:Nat->Prop):Prop where
 len':c'.nds.length=N'
 o:sQ c.nds
 o':sQ c'.nds
 lp:c'.lp=c.lp
 nl:c.lp=false->∀n,c.hd.getD n false=false
 nl':c'.lp=false->∀n,c'.hd.getD n false=false
 gd:∀m,m<N'->G m->NdX (c.nds.getD (u m) aI) (c'.nds.getD m aI)/\((c'.nds.getD m aI).op≠0->u (c'.nds.getD m aI).nx=(c.nds.getD (u m) aI).nx/\G (c'.nds.getD m aI).nx)/\((c'.nds.getD m aI).op=7\/(c'.nds.getD m aI).op=8\/(c'.nds.getD m aI).op=9->u (c'.nds.getD m aI).ot=(c.nds.getD (u m) aI).ot/\G (c'.nds.getD m aI).ot)
 hd:∀m,G m->c'.hd.getD m false=c.hd.getD (u m) false
 hn:∀m,¬ G m->c'.hd.getD m false=false
 sk:∀m,m<N'->¬ G m->(c'.nds.getD m aI).op=6/\u (c'.nds.getD m aI).nx=u m/\G (c'.nds.getD m aI).nx
 cl:∀n,∀e∈bq S n,Wu c S n e.f
 td:qo S
 kl:EnN js S
structure Jm(c:Cd)(S:Sr)(u:Nat->Nat)(G:Nat->Prop)(m:Nat)(f:CF):Prop where
 k:js f
 kn:CC S (u m) (λz=>lL f z/\(¬ G m->c.hd.getD (u m) false=true->lL (aQ (As f)) z))
 lo:¬ G m->c.lp=true->dc f=[]
def Flm(S:Sr)(u:Nat->Nat)(G:Nat->Prop)(m k:Nat):Prop:=G m/\sW S (u m) k=true
section
variable {c c':Cd} {N' n m:Nat} {S s:Sr} {u:Nat->Nat} {G:Nat->Prop} {f F V:CF}
theorem qz{nd:Nd}(h:nd.op=6):cj nd f=⟨[aQ f],[],false,false,false⟩:=by
 unfold cj;rw[h];rfl
theorem amH(a b:Nat):∃w,w<4/\a≠w/\b≠w:=by
 by_cases h0:a≠0/\b≠0
 .exact⟨0,by omega,h0⟩
 .by_cases h1:a≠1/\b≠1
  .exact⟨1,by omega,h1⟩
  .exact⟨2,by omega,by omega,by omega⟩
theorem aa6{nd:Nd}(hv:nd.v<4)(ha:nd.ai<4){w:Nat}(h1:nd.v≠w)(h2:nd.ai≠w):NdR (λi=>i) w nd nd :=
 ⟨rfl,λ_=>⟨rfl,λi _ e=>e,hv,hv,h1⟩,λ_=>rfl,λ_=>⟨rfl,λi _ e=>e,ha,ha,h2⟩⟩
theorem vq(hP:Pla c c' N' S u G){a b:Nat}(hf:Td f){y:CF}(ha:G a\/c.lp=false\/dc f=[])(kf:js f)(h:SX c S (u a) (u b) y f):ArJ c' (Jm c S u G) (Flm S u G) a b f:=by
 refine⟨λhl jN=>⟨?_,h.fl (by rw[<-hP.lp];exact hl) jN⟩,λhl=>?_,λhl x hx hc=>?_⟩
 .rw[hP.lp]at hl;rcases ha with ha|ha|ha
  .exact ha
  .rw[hl]at ha;cases ha
  .exact absurd ha jN
 .have e:bH c' b f=f:=by unfold bH;rw[hP.nl' hl,if_neg (by simp)]
  rw[e];rw[hP.lp]at hl;obtain⟨z,hz,h1⟩:=h.no hl;exact⟨kf,⟨z,hz,h1,λ_ h9=>by rw[hP.nl hl]at h9;cases h9⟩,λ_ h9=>by rw[hl]at h9;cases h9⟩
 .rw[hP.lp]at hl;obtain⟨kx,z,hz,h1,h2⟩:=h.yes hl x hx hc;have hr:=wX hx;have kr:=Ba hx.ok kx;by_cases hG:G b
  .refine⟨A9 hr.ok kr,⟨z,hz,?_,λh9=>absurd hG h9⟩,λh9=>absurd hG h9⟩;unfold bH;rw[hP.hd b hG];split
   .rename_i hh;exact h2 hh
   .exact h1
  .have e:bH c' b (qf x)=qf x:=(by unfold bH;rw[hP.hn b hG,if_neg (by simp)]);rw[e];exact⟨kr,⟨z,hz,h1,λ_=>h2⟩,λ_ _=>P9 hx.ok⟩
theorem Jp(hP:Pla c c' N' S u G):J8 c' N' (Jm c S u G) (Flm S u G):=by
 refine⟨hP.len',hP.o',λn hn f hf hJ=>?_⟩;obtain⟨hv',Iz⟩:=hP.o'.v n;obtain⟨t1,t2⟩:=jG hv' Iz hf;obtain⟨z,hz,hE,hE2⟩:=hJ.kn;have dT:=hP.cl _ z hz;have sn:=hP.td.at _ z hz;have gJ:=hP.kl _ z hz;by_cases hG:G n
 .obtain⟨dF,vX,Mr⟩:=hP.gd n hn hG;obtain⟨hv,ha⟩:=hP.o.v (u n);obtain⟨w,w1,w2,w3⟩:=amH (c.nds.getD (u n) aI).v (c.nds.getD (u n) aI).ai;obtain⟨q1,q2,q3,q4⟩:=TM (Q7 w1) hf.ok hJ.k sn.ok gJ (aa6 hv ha w2 w3) hv ha hv ha hE.any dT.fu;rw[<-dF.ef f]at q1 q2 q3 q4;obtain⟨k1,k2⟩:=AZ hf.ok hv' Iz hJ.k;obtain⟨l1,l2⟩:=AZ sn.ok hv ha gJ;obtain⟨d1,d2⟩:=jG hv ha sn;refine⟨λh0 jN=>⟨hG,dT.en (by rw[<-dF.op];exact h0) (λe=>jN (P8 hf.ok sn.ok hE e))⟩,λh=>⟨hG,dT.nu (q1 h)⟩,λh=>⟨hG,dT.da (q2 h)⟩,λx hx=>?_,λx hx=>?_⟩
  .obtain⟨y,hy,XM⟩:=q3 x hx;obtain⟨e1,e2⟩:=vX (rS (ne_nil_of_mem hx));refine vq hP (t1 x hx) (zq0 hG) (k1 x hx) (y:=y) ?_;rw[e1];exact qv hP.nl (dT.nx y hy) (d1 y hy) (l1 y hy) (t1 x hx) (k1 x hx) XM.any
  .obtain⟨y,hy,XM⟩:=q4 x hx;obtain⟨e1,e2⟩:=Mr (rT (ne_nil_of_mem hx));refine vq hP (t2 x hx) (zq0 hG) (k2 x hx) (y:=y) ?_;rw[e1];exact qv hP.nl (dT.ot y hy) (d2 y hy) (l2 y hy) (t2 x hx) (k2 x hx) XM.any
 .obtain⟨o6,e1,e2⟩:=hP.sk n hn hG;have jN:=hJ.lo hG;have htf:Td (aQ f):=hf.ok.tidy;have ktf:=P0 hf.ok hJ.k;refine⟨λh0=>absurd (o6.symm.trans h0) (by decide),?_,?_,λx hx=>?_,?_⟩
  .rw[qz o6];exact λh=>by cases h
  .rw[qz o6];exact λh=>by cases h
  .rw[qz o6]at hx;have hx:x=aQ f:=mem_singleton.1 hx;subst hx;refine vq hP (y:=f) htf ?_ ktf ?_
   .cases hl:c.lp with
    |false=>exact zq1 (zq0 rfl)
    |true=>exact zq1 (zq1 (I9 hf.ok (jN hl)))
   .rw[e1];refine⟨λhl h9=>absurd (I9 hf.ok (jN hl)) h9,λhl=>⟨z,hz,hE.tF hf.ok⟩,λhl x hx hc=>?_⟩;have AE:=I9 hf.ok (jN hl);have ex:x=aQ f:=hc (λx=>x=aQ f) rfl (λg y _ hg hn=>by
     obtain⟨i,hi,-⟩:=hn;rw[hg,AE]at hi;simp at hi)
    rw[ex,X0 AE];refine⟨ktf,z,hz,hE.tF hf.ok,λhh=>?_⟩;have h1:lL (aQ f) f:=(lL.refl hf.ok hJ.k).tF hf.ok;have h2:=h1.fo htf.ok hf.ok (Py (jN hl));exact h2.trans (dp _ htf.ok).1.td (Gi htf.ok ktf).n (dp _ hf.ok).1.td (hE2 hG hh)
  .rw[qz o6];exact λx hx=>by simp at hx
theorem AY{a b:Nat}{x:CF}(hx:Td x)(kx:js x):ArJ c (λ_ f=>js f) (λ_ _=>True) a b x:=⟨λ_ _=>trivial,λ_=>A9 hx.ok kx,λ_ G hG hc=>by
 have kG:js G:=hc js kx (λg y hg hq hn=>wh hg hq hn);exact A9 (wX hG).ok (Ba hG.ok kG)⟩
theorem U9{N:Nat}(hN:c.nds.length=N)(hO:sQ c.nds):J8 c N (λ_ f=>js f) (λ_ _=>True):=by
 refine⟨hN,hO,λn hn f hf hJ=>?_⟩;obtain⟨hv,ha⟩:=hO.v n;obtain⟨t1,t2⟩:=jG hv ha hf;obtain⟨k1,k2⟩:=AZ hf.ok hv ha hJ;exact⟨λ_ _=>trivial,λ_=>trivial,λ_=>trivial,λx hx=>AY (t1 x hx) (k1 x hx),λx hx=>AY (t2 x hx) (k2 x hx)⟩
end
