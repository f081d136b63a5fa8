import Derived.Test.YtciihepbeacppaaGreatM30
namespace Go.Proofs.YtciihepbeacppaaGreat
open Go.RowKit List
set_option linter.unusedVariables false
structure CsC(C:CF->Prop):Prop where
 ok:∀g,C g->aj g/\ju g
 st:∀g,C g->∀i∈dd g,∀a,a<24->Kr g a=true->∀x∈eO g a i,C (aQ x)
section
variable {w:Nat} {F V f:CF} {val:Nat->Nat} {L:List (Pr × List Pr)}
theorem uj(hk:aj f){a:Nat}:Kr f a=true↔dJ f a/\a≠f.cl.getD 0 0/\cE f.ow a=none:=by
 unfold Kr;rw[Bool.and_eq_true,Bool.and_eq_true,decide_eq_true_iff,eC hk];constructor
 .rintro⟨⟨h1,h2⟩,h3⟩;refine⟨h1,by simpa using h2,?_⟩;cases hb:cE f.ow a with
  |none=>rfl
  |some j=>rw[hb]at h3;simp at h3
 .rintro⟨h1,h2,h3⟩;exact⟨⟨h1,by simpa using h2⟩,by rw[h3];rfl⟩
theorem dJ.lt(hk:aj f){a:Nat}(h:dJ f a):a<24:=h (λa=>a<24) (λi _ _=>hk.get i) (λp hp _=>(hk.ow p hp).2)
theorem Gp(hf:aj f)(kf:ju f){i c:Nat}(hi:i<f.ow.length)(hc:c<24)(h0:c≠f.cl.getD 0 0)(hb:cE f.ow c=none){g:CF}(hg:g∈eO f c i):aj g/\ju (aQ g)/\((g=fZ f c i/\aV f c (owA f i).l=false)\/(g=dC f c i/\(owA f i).k=4)):=by
 have hm:owA f i∈f.ow:=aY hi;unfold eO at hg;rcases mem_append.1 hg with hg|hg
 .split at hg
  .simp at hg
  .rename_i hd;have hd:aV f c (owA f i).l=false:=(by simpa using hd);rw[mem_singleton.1 hg];have bn:=hf.m1 hd;refine⟨bn,⟨(kf.k.jo (a:=(owA f i).l) (b:=c)).td,qc bn,fI.td bn (kf.n.jo hf.c5 ?_)⟩,zq0 ⟨rfl,hd⟩⟩;cases Cr:aV f (owA f i).l c with
   |false=>rfl
   |true=>rw[iE Cr]at hd;cases hd
 .split at hg
  .rename_i hk;rw[mem_singleton.1 hg];have bn:aj (dC f c i):=hf.m2 hc hb;have hs:(dC f c i).ow.Perm (⟨4,(owA f i).l,c⟩::⟨4,c,(owA f i).r⟩::iS f.ow i):=by
    show(f.ow.set i (⟨(owA f i).k,(owA f i).l,c⟩:Pr)++[(⟨4,c,(owA f i).r⟩:Pr)]).Perm _;rw[hk];exact((perm_append_comm (l₂:=[(⟨4,c,(owA f i).r⟩:Pr)])).trans ((iY hi (⟨4,(owA f i).l,c⟩:Pr)).cons _)).trans (List.Perm.swap _ _ _)
   have gX:∀p∈(dC f c i).ow,p=⟨4,(owA f i).l,c⟩\/p=⟨4,c,(owA f i).r⟩\/p∈f.ow:=λp hp=>by
    rcases mem_cons.1 (hs.subset hp) with h|h
    .exact zq0 h
    .rcases mem_cons.1 h with h|h
     .exact zq1 (zq0 h)
     .exact zq1 (zq1 (nN h))
   have SG:Kd (dC f c i):=λp hp=>by
    rcases gX p hp with rfl|rfl|h
    .exact zq1 rfl
    .exact zq1 rfl
    .exact kf.k p h
   have Dp:fI (dC f c i):=⟨kf.n.ap,λp hp=>by
    have e:(dC f c i).cl.getD 0 0=f.cl.getD 0 0:=rfl;rw[e];rcases gX p hp with rfl|rfl|h
    .exact kf.n.ow (owA f i) hm
    .exact h0
    .exact kf.n.ow p h⟩
   exact⟨bn,⟨SG.td,qc bn,Dp.td bn⟩,zq1 ⟨rfl,hk⟩⟩
  .simp at hg
theorem Zm{C:CF->Prop}(hC:CsC C)(hw:w<4)(hF:aj F)(kF:ju F):∀(n:Nat) {g:CF},F.ow.length<=JB g+n->C g->tC (λi=>i) w F g->∃g',C g'/\tC (λi=>i) w (rs F) (rs g'):=by
 intro n;induction n with
 |zero =>
  intro g hn hg hE;obtain⟨val,h⟩:=hE;obtain⟨hV,kV⟩:=hC.ok g hg;obtain⟨cs,s1,s2⟩:=h.sp;rw[nil_append]at s1;obtain⟨L,w1,w2,w3⟩:=qu s2;have hp:=s1.trans w3;refine⟨g,hg,Rc hF kF.n hV hw h w1 w2 hp (λe he hr=>?_)⟩;exfalso;have h1:=Wq w1;have h2:=hp.length_eq;have h3:L.length=g.ow.length:=by rw[<-w2,length_map]
  have h4:JB g<g.ow.length:=by
   have hm:e.1∈g.ow:=(by rw[<-w2];exact mem_map.2 ⟨e,he,rfl⟩);have h5:g.ow.countP (λp=>decide (p.l∈jz g))<g.ow.countP (λ_=>true):=Fi (λ_ _ _=>rfl) ⟨e.1,hm,decide_eq_false (λh9=>hr ((eC hV).1 h9)),rfl⟩;have h6:g.ow.countP (λ_=>true)<=g.ow.length:=countP_le_length;unfold JB;omega
  omega
 |succ n ih =>
  intro g hn hg hE;obtain⟨val,h⟩:=hE;obtain⟨hV,kV⟩:=hC.ok g hg;obtain⟨cs,s1,s2⟩:=h.sp;rw[nil_append]at s1;obtain⟨L,w1,w2,w3⟩:=qu s2;have hp:=s1.trans w3;rcases VM hF kF.n hV h.cl w1 w2 hp with hd|⟨a,a1,a2,a3,e,he,hr,y,hy,UV⟩
  .exact⟨g,hg,Rc hF kF.n hV hw h w1 w2 hp hd⟩
  .have hm:e.1∈g.ow:=(by rw[<-w2];exact mem_map.2 ⟨e,he,rfl⟩);obtain⟨i,hi,KX⟩:=mem_iff_getElem.1 hm;have KZ:g.ow.getD i ay=e.1:=(by rw[bY hi];exact KX);obtain⟨q1,q2,hq⟩:=append_of_mem hy;obtain⟨L',hL'⟩:=q9 he;have b1:F.ow.Perm ((q1++y::q2)++L'.flatMap (·.2)):=by
    rw[<-hq];have:=List.Perm.flatMap_right (λe:Pr × List Pr=>e.2) hL';rw[flatMap_cons]at this;exact hp.trans this
   have b4:g.ow.Perm (g.ow.getD i ay::L'.map (·.1)):=by
    rw[KZ,<-w2];exact hL'.map _
   have hW':Ts val L':=⟨λx hx=>w1.ch x (hL'.symm.subset (mem_cons_of_mem _ hx)),λx hx=>w1.k x (hL'.symm.subset (mem_cons_of_mem _ hx))⟩;obtain⟨V',KM,e1,-⟩:=h.midA hF kF.n hV rfl kV.l UV hi b1 (by rw[KZ,<-hq];exact w1.ch e he) (by rw[KZ,<-hq];exact w1.k e he) b4 (E2 hW');have jP:i∈dd g:=(fY hV).2 ⟨hi,by show ¬ dJ g (g.ow.getD i ay).l;rw[KZ];exact hr⟩;have hCn:=hC.st g hg i jP a (a1.lt hV) ((uj hV).2 ⟨a1,a2,a3⟩) V' KM;obtain⟨o1,o2,o3⟩:=Gp hV kV hi (a1.lt hV) a2 a3 KM;have au:JB g<JB V':=by
    rcases o3 with⟨rfl,hd⟩|⟨rfl,hk⟩
    .exact abz hV hi ((fY hV).1 jP).2 a1 hd
    .exact abA hV hi hk ((fY hV).1 jP).2 a1 (a1.lt hV) a3
   have m9:=abB o1;obtain⟨v2,h2⟩:=e1.tdV o1;exact ih (by omega) hCn ⟨v2,h2⟩
end
theorem Jt{a b:List Pr}(h:pi a b=true):a=b:=by
 unfold pi at h;rw[Bool.and_eq_true,decide_eq_true_iff,all_eq_true]at h;refine ext_getElem h.1 (λi h1 h2=>?_);have:=uK.1 (h.2 i (mem_range.2 h1));rw[bY h1,bY h2]at this;exact this
theorem abP{f g:CF}(hf:aj f)(hg:aj g)(h:Mz f g=true):f=g:=by
 unfold Mz at h;rw[Bool.and_eq_true,Bool.and_eq_true,decide_eq_true_iff]at h;obtain⟨⟨h1,h2⟩,h3⟩:=h;have h2:=Jt h2;have h3:=Jt h3;have h1:f.cl=g.cl:=by
  refine ext_getElem (by rw[hf.c5,hg.c5]) (λi a b=>?_);have e1:(ko f).getD i 0=(ko g).getD i 0:=by rw[h1]
  have hi:i<5:=by rw[<-hf.c5];exact a
  have k:∀f:CF,(ko f).getD i 0=f.cl.getD i 0:=λf=>by
   have:i=0\/i=1\/i=2\/i=3\/i=4:=(by omega);rcases this with rfl|rfl|rfl|rfl|rfl <;> rfl
  rw[k,k,getD_eq_getElem?_getD,getD_eq_getElem?_getD,getElem?_eq_getElem a,getElem?_eq_getElem b]at e1;exact e1
 cases f;cases g
 simp_all
def J1(g y:CF):Prop:=∃i∈dd g,∃a,a<24/\Kr g a=true/\∃x∈eO g a i,y=aQ x
structure EV(P:CF->Prop)(r r':List CF × Sr):Prop where
 pre:∃t,r'.1=r.1++t/\∀y∈t,P y
 fu:r.2.fu=true->r'.2.fu=true
theorem EV.refl(P:CF->Prop)(r:List CF × Sr):EV P r r:=⟨⟨[],by simp,by simp⟩,λh=>h⟩
theorem EV.trans{P:CF->Prop}{a b c:List CF × Sr}(h:EV P a b)(h':EV P b c):EV P a c:=by
 obtain⟨⟨t,h1,h2⟩,h3⟩:=h;obtain⟨⟨u,g1,g2⟩,g3⟩:=h';refine⟨⟨t++u,by rw[g1,h1,append_assoc],λy hy=>?_⟩,λx=>g3 (h3 x)⟩;rcases mem_append.1 hy with hy|hy
 .exact h2 y hy
 .exact g2 y hy
theorem EV.sub{P:CF->Prop}{a b:List CF × Sr}(h:EV P a b){x:CF}(hx:x∈a.1):x∈b.1:=by
 obtain⟨⟨t,h1,-⟩,-⟩:=h;rw[h1];exact mem_append_left _ hx
theorem uk{β:Type}{P:CF->Prop}{g:List CF × Sr->β->List CF × Sr}{K:List CF × Sr->Prop}{W:β->CF->Prop}:∀(l:List β),(∀b∈l,∀r,K r->EV P r (g r b)/\K (g r b)/\∀y,W b y->y∈(g r b).1)->∀{r:List CF × Sr},K r->EV P r (l.foldl g r)/\K (l.foldl g r)/\∀b∈l,∀y,W b y->y∈(l.foldl g r).1
 |[],_,r,h=>⟨EV.refl P r,h,λb hb=>by simp at hb⟩
 |b::l,hg,r,h=>by
  rw[foldl_cons];obtain⟨h1,h2,h3⟩:=hg b (by simp) r h;obtain⟨g1,g2,g3⟩:=uk l (λx hx=>hg x (by simp[hx])) h2;refine⟨h1.trans g1,g2,λx hx y hy=>?_⟩;rcases mem_cons.1 hx with rfl|hx
  .exact g1.sub (h3 y hy)
  .exact g3 x hx y hy
section
variable {c:Cd} {g:CF}
theorem Zp{r:List CF × Sr}{x:CF}{P:CF->Prop}(hr:bW r.1)(hx:aj x)(hP:P (aQ x)):EV P r (l8 c r x)/\bW (l8 c r x).1/\aQ x∈(l8 c r x).1:=by
 have bn:=(Ov (c:=c) hr hx).1;unfold l8 at bn ⊢;split
 .rename_i hn;rw[if_pos hn]at bn;refine⟨⟨⟨[aQ x],rfl,λy hy=>by rw[mem_singleton.1 hy];exact hP⟩,λh=>?_⟩,bn,by simp⟩;show(r.2.fu||_)=true;rw[h];rfl
 .rename_i hn;rw[if_neg hn]at bn;refine⟨EV.refl P r,bn,?_⟩;have hn:r.1.any (λg=>Mz (aQ x) g)=true:=by
   unfold XY at hn;simpa using hn
  obtain⟨y,hy,hs⟩:=any_eq_true.1 hn;rw[abP hx.td (hr y hy).ok hs];exact hy
theorem Ox(hg:Td g)(l:List Nat)(hl:∀i∈l,i∈dd g){r:List CF × Sr}(hr:bW r.1):EV (J1 g) r (l.foldl (eW c g) r)/\bW (l.foldl (eW c g) r).1/\∀i∈l,∀a,a<24->Kr g a=true->∀x∈eO g a i,aQ x∈(l.foldl (eW c g) r).1:=by
 obtain⟨h1,h2,h3⟩:=uk (P:=J1 g) (g:=eW c g) (K:=λr=>bW r.1) (W:=λi y=>∃a,a<24/\Kr g a=true/\∃x∈eO g a i,y=aQ x) l (λi hi r hr=>by
  obtain⟨k1,k2,k3⟩:=uk (P:=J1 g) (g:=oT c g i) (K:=λr=>bW r.1) (W:=λa y=>Kr g a=true/\∃x∈eO g a i,y=aQ x) (range 24) (λa ha r hr=>by
   have C8:=mem_range.1 ha;unfold oT;split
   .rename_i ha;obtain⟨-,-,hb⟩:=(uj hg.ok).1 ha;have fq:=Bo hg.ok (i:=i) C8 hb;obtain⟨m1,m2,m3⟩:=uk (P:=J1 g) (g:=l8 c) (K:=λr=>bW r.1) (W:=λx y=>y=aQ x) (eO g a i) (λx hx r hr=>by
     obtain⟨n1,n2,n3⟩:=Zp (c:=c) (P:=J1 g) hr (fq x hx) ⟨i,hl i hi,a,C8,ha,x,hx,rfl⟩;exact⟨n1,n2,λy hy=>by rw[hy];exact n3⟩) hr
    exact⟨m1,m2,λy ⟨_,x,hx,hy⟩=>m3 x hx y hy⟩
   .rename_i ha;exact⟨EV.refl _ _,hr,λy hy=>absurd hy.1 ha⟩) hr
  exact⟨k1,k2,λy ⟨a,ha,h4,h5⟩=>k3 a (mem_range.2 ha) y ⟨h4,h5⟩⟩) hr
 exact⟨h1,h2,λi hi a ha hf x hx=>h3 i hi _ ⟨a,ha,hf,x,hx,rfl⟩⟩
theorem Og(r:List CF × Sr)(res:List CF):ug c g r res=(res++[rs g],(dd g).foldl (eW c g) r):=by
 unfold ug rs;split
 .rename_i h;rw[h];rfl
 .rfl
theorem Ii{Q:CF->Prop}(hQ:∀g y,Td g->Q g->J1 g y->Q y):∀(n k:Nat) {res:List CF} {r:List CF × Sr},bW r.1->(∀x∈r.1,Q x)->∀y∈(iq c n k res r).1,y∈res\/∃G,Td G/\Q G/\y=rs G
 |0,k,res,r,_,_,y,hy=>zq0 hy
 |n+1,k,res,r,hr,hq,y,hy=>by
  unfold iq at hy;split at hy
  .rename_i h;have hm:r.1.getD k ⟨[],[],[]⟩∈r.1:=by
    rw[getD_eq_getElem?_getD,getElem?_eq_getElem h.1];exact getElem_mem h.1
   rw[Og]at hy;obtain⟨g1,g2,-⟩:=Ox (c:=c) (hr _ hm) (dd (r.1.getD k ⟨[],[],[]⟩)) (λ_ h=>h) hr;obtain⟨⟨t,t1,t2⟩,-⟩:=g1;rcases Ii hQ n (k+1) g2 (λx hx=>by
    rw[t1]at hx;rcases mem_append.1 hx with hx|hx
    .exact hq x hx
    .exact hQ _ x (hr _ hm) (hq _ hm) (t2 x hx)) y hy with h9|h9
   .rcases mem_append.1 h9 with h9|h9
    .exact zq0 h9
    .exact zq1 ⟨_,hr _ hm,hq _ hm,mem_singleton.1 h9⟩
   .exact zq1 h9
  .exact zq0 hy
theorem Oc{Q:CF->Prop}(hQ:∀g y,Td g->Q g->J1 g y->Q y):∀(n k:Nat) {res:List CF} {r:List CF × Sr},bW r.1->(∀x∈r.1,Q x)->(∀j,j<k->∀x,r.1[j]?=some x->rs x∈res/\∀y,J1 x y->y∈r.1)->(iq c n k res r).2.ok=true->(iq c n k res r).2.fu=false->∃C:List CF,(∀x∈r.1,x∈C)/\(∀x∈C,Td x/\Q x/\rs x∈(iq c n k res r).1/\∀y,J1 x y->y∈C)
 |0,k,res,r,_,_,_,ho,_=>by cases ho
 |n+1,k,res,r,hr,hq,hk,ho,hf=>by
  unfold iq at ho hf ⊢;split
  .rename_i h;rw[if_pos h]at ho hf;have hm:r.1.getD k ⟨[],[],[]⟩∈r.1:=by
    rw[getD_eq_getElem?_getD,getElem?_eq_getElem h.1];exact getElem_mem h.1
   rw[Og]at ho hf ⊢;obtain⟨g1,g2,g3⟩:=Ox (c:=c) (hr _ hm) (dd (r.1.getD k ⟨[],[],[]⟩)) (λ_ h=>h) hr;have PL:=λx (hx:x∈r.1)=>g1.sub hx;obtain⟨⟨t,t1,t2⟩,-⟩:=g1;obtain⟨C,c1,c2⟩:=Oc hQ n (k+1) (res:=res++[rs (r.1.getD k ⟨[],[],[]⟩)]) g2 (λx hx=>by
    rw[t1]at hx;rcases mem_append.1 hx with hx|hx
    .exact hq x hx
    .exact hQ _ x (hr _ hm) (hq _ hm) (t2 x hx)) (λj hj x hx=>by
     rw[t1,getElem?_append_left (by omega)]at hx;by_cases e:j=k
     .subst e;have ex:r.1.getD j ⟨[],[],[]⟩=x:=(by rw[getD_eq_getElem?_getD,hx];rfl);refine⟨by rw[ex];simp,λy ⟨i,hi,a,ha,h5,x',hx',hy⟩=>?_⟩;rw[<-ex]at hi h5 hx';rw[hy];exact g3 i hi a ha h5 x' hx'
     .obtain⟨h5,h6⟩:=hk j (by omega) x hx;exact⟨mem_append_left _ h5,λy hy=>PL _ (h6 y hy)⟩) ho hf
   exact⟨C,λx hx=>c1 x (PL x hx),c2⟩
  .rename_i h;rw[if_neg h]at hf;have dO:r.1.length<=k:=by
    apply Nat.le_of_not_lt;intro h9;exact h ⟨h9,hf⟩
   refine⟨r.1,λx hx=>hx,λx hx=>?_⟩;obtain⟨j,hj,rfl⟩:=mem_iff_getElem.1 hx;obtain⟨h5,h6⟩:=hk j (by omega) _ (getElem?_eq_getElem hj);exact⟨hr _ hx,hq _ hx,h5,h6⟩
end
def Wx(f G:CF):Prop:=∀Q:CF->Prop,Q f->(∀g y,Td g->Q g->J1 g y->Q y)->Q G
structure ArJ(c:Cd)(J:Nat->CF->Prop)(Fl:Nat->Nat->Prop)(a b:Nat)(f:CF):Prop where
 fl:c.lp=true->dd f≠[]->Fl a 2
 no:c.lp=false->J b (bI c b f)
 yes:c.lp=true->∀G,Td G->Wx f G->J b (bI c b (rs G))
structure StJ(c:Cd)(J:Nat->CF->Prop)(Fl:Nat->Nat->Prop)(n:Nat)(f:CF):Prop where
 en:(c.nds.getD n aI).op=0->dd f≠[]->Fl n 2
 nu:(cn (c.nds.getD n aI) f).nu=true->Fl n 3
 da:(cn (c.nds.getD n aI) f).da=true->Fl n 4
 nx:∀x∈(cn (c.nds.getD n aI) f).nx,ArJ c J Fl n (c.nds.getD n aI).nx x
 ot:∀x∈(cn (c.nds.getD n aI) f).ot,ArJ c J Fl n (c.nds.getD n aI).ot x
structure Ka(c:Cd)(N:Nat)(J:Nat->CF->Prop)(Fl:Nat->Nat->Prop):Prop where
 len:c.nds.length=N
 o:sS c.nds
 st:∀n,n<N->∀f,Td f->J n f->StJ c J Fl n f
structure ik(N:Nat)(J:Nat->CF->Prop)(Fl:Nat->Nat->Prop)(s:Sr):Prop where
 sh:kk N s
 kn:∀n,∀e∈br s n,J n e.f
 fl:∀n k,k=2\/k=3\/k=4->sY s n k=true->Fl n k
theorem Wx.refl(f:CF):Wx f f:=λ_ h _=>h
section
variable {c:Cd} {N n:Nat} {J:Nat->CF->Prop} {Fl:Nat->Nat->Prop} {f:CF} {s:Sr}
theorem I6(hn:n<N)(hs:ik N J Fl s)(hf:Td f)(hJ:J n (bI c n f)):ik N J Fl (bz c n f s):=by
 obtain⟨-,h2,-⟩:=oj (c:=c) hf hs.sh hn;have gw:n<s.kn.length:=by rw[hs.sh.kn];exact hn
 refine⟨h2,?_,λm k hk=>?_⟩
 .unfold bz;split
  .exact hs.kn
  .intro m e he;have hkA:br (sL c (pX n (bI c n f) (oZ c s (2*(br s n).length)))) m=if n=m then (br s n).filter (λe=>!Ei e.f (bI c n f))++[⟨bI c n f,false⟩] else br s m:=lz gw m
   rw[hkA]at he;by_cases e0:n=m
   .subst e0;rw[if_pos rfl]at he;rcases mem_append.1 he with he|he
    .exact hs.kn n e (mem_filter.1 he).1
    .rw[mem_singleton.1 he];exact hJ
   .rw[if_neg e0]at he;exact hs.kn m e he
 .have h9:sY (bz c n f s) m k=sY s m k:=by unfold bz;split <;> rfl
  rw[h9];exact hs.fl m k hk
theorem DC(hn:n<N):∀(l:List CF) {s:Sr},(∀x∈l,Td x/\J n (bI c n x))->ik N J Fl s->ik N J Fl (l.foldl (λs g=>bz c n g s) s)
 |[],_,_,h=>h
 |g::l,s,hl,h=>by
  rw[foldl_cons];exact DC hn l (λx hx=>hl x (by simp[hx])) (I6 hn h (hl g (by simp)).1 (hl g (by simp)).2)
theorem J0{k:Nat}(hn:n<N)(hk:k<5)(hs:ik N J Fl s)(hF:Fl n k):ik N J Fl (kQ n k s):=by
 obtain⟨-,h2⟩:=xJ hs.sh hn hk;refine⟨h2,hs.kn,λm j hj h=>?_⟩;rw[nU hs.sh hn hk]at h;split at h
 .rename_i h9;rw[<-h9.1,<-h9.2];exact hF
 .exact hs.fl m j hj h
theorem B5{b:Bool}{k:Nat}(hn:n<N)(hk:k<5)(hs:ik N J Fl s)(hF:b=true->Fl n k):ik N J Fl (wrI b n k s):=by
 unfold wrI;split
 .rename_i hb;exact J0 hn hk hs (hF hb)
 .exact hs
theorem Ij{fuel k:Nat}{res:List CF}{r:List CF × Sr}(hr:bW r.1)(hq:bW res)(hs:kk N r.2):kk N (iq c fuel k res r).2:=by
 obtain⟨-,k2,k3⟩:=kT (c:=c) fuel k (res:=res) (r:=r) hr hq;exact⟨by rw[k2];exact hs.kn,by rw[k3];exact hs.wr,λr hr=>by rw[k3]at hr;exact hs.rw r hr,λl hl=>by rw[k2]at hl;exact hs.td l hl⟩
theorem sD(hf:Td f):bW [f]:=λg hg=>by rw[mem_singleton.1 hg];exact hf
theorem By:bW []:=λg hg=>by simp at hg
theorem xd{G:CF}(h:Td G):Td (rs G):=by
 unfold rs;split
 .exact h
 .exact GT h.ok
theorem ub{fuel a b:Nat}(ha:a<N)(hb:b<N)(hf:Td f)(hs:ik N J Fl s)(hA:ArJ c J Fl a b f):ik N J Fl (dV c fuel a b f s):=by
 unfold dV;split
 .rename_i h;refine I6 hb hs hf ?_;cases hl:c.lp with
  |false=>exact hA.no hl
  |true =>
   rcases h with h|h
   .rw[hl]at h;cases h
   .have:=hA.yes hl f hf (Wx.refl f);unfold rs at this;rw[if_pos h]at this;exact this
 .rename_i h;have zn:c.lp=true:=by
   cases hl:c.lp with
   |true=>rfl
   |false=>exact absurd (zq0 hl) h
  have jP:dd f≠[]:=λh9=>h (zq1 h9);simp only;have h1:=J0 (k:=2) ha (by omega) hs (hA.fl zn jP);obtain⟨k1,k2,k3⟩:=kT (c:=c) fuel 0 (res:=[]) (r:=([f],kQ a 2 s)) (sD hf) By;have hS:=Ij (c:=c) (fuel:=fuel) (k:=0) (res:=[]) (r:=([f],kQ a 2 s)) (sD hf) By h1.sh;refine DC hb _ (λx hx=>⟨k1 x hx,?_⟩) ⟨hS,λm e he=>?_,λm k hk h=>?_⟩
  .rcases Ii (c:=c) (Q:=Wx f) (λg y hg hq hn=>λQ q1 q2=>q2 g y hg (hq Q q1 q2) hn) fuel 0 (sD hf) (λx hx=>by rw[mem_singleton.1 hx];exact Wx.refl f) x hx with h9|⟨G,g1,g2,rfl⟩
   .simp at h9
   .exact hA.yes zn G g1 g2
  .unfold br at he;rw[k2]at he;exact h1.kn m e he
  .unfold sY at h;rw[k3]at h;exact h1.fl m k hk h
theorem Ac{fuel a b:Nat}(ha:a<N):∀(l:List CF) {s:Sr},(l≠[]->b<N)->bW l->(∀x∈l,ArJ c J Fl a b x)->ik N J Fl s->ik N J Fl (l.foldl (λs g=>dV c fuel a b g s) s)
 |[],_,_,_,_,h=>h
 |g::l,s,hb,ht,hl,h=>by
  rw[foldl_cons];have hbN:=hb (by simp);exact Ac ha l (λ_=>hbN) (λx hx=>ht x (by simp[hx])) (λx hx=>hl x (by simp[hx])) (ub ha hbN (ht g (by simp)) h (hl g (by simp)))
theorem Wb{fuel:Nat}(hH:Ka c N J Fl)(hn:n<N)(hf:Td f)(hJ:J n f)(hs:ik N J Fl s):ik N J Fl (po c fuel n f s):=by
 obtain⟨hv,ha⟩:=hH.o.v n;obtain⟨t1,t2⟩:=jI hv ha hf;have jQ:n<c.nds.length:=by rw[hH.len];exact hn
 have cf:(cn (c.nds.getD n aI) f).nx≠[]->(c.nds.getD n aI).nx<N:=λh=>by rw[<-hH.len];exact hH.o.nx n jQ (rU h)
 have yk:(cn (c.nds.getD n aI) f).ot≠[]->(c.nds.getD n aI).ot<N:=λh=>by rw[<-hH.len];exact hH.o.ot n jQ (rV h)
 have aP:=hH.st n hn f hf hJ;unfold po;simp only;have a1:=B5 (b:=decide ((c.nds.getD n aI).op=0)&&!decide (dd f=[])) (k:=2) hn (by omega) hs (λh=>by
  rw[Bool.and_eq_true,decide_eq_true_iff]at h;exact aP.en h.1 (by simpa using h.2))
 have a2:=B5 (b:=(cn (c.nds.getD n aI) f).nu) (k:=3) hn (by omega) a1 aP.nu;have a3:=B5 (b:=(cn (c.nds.getD n aI) f).da) (k:=4) hn (by omega) a2 aP.da;refine Ac hn _ yk t2 aP.ot (Ac hn _ cf t1 aP.nx ⟨(Az _ a3.sh).2.1,a3.kn,a3.fl⟩)
theorem JY{fuel:Nat}(hH:Ka c N J Fl)(hn:n<N):∀(l:List CF) {s:Sr},(∀x∈l,Td x/\J n x)->ik N J Fl s->ik N J Fl (nO c fuel n l s)
 |[],_,_,h=>h
 |f::l,s,hl,h=>by
  unfold nO;split
  .exact h
  .obtain⟨h1,h2⟩:=hl f (by simp);exact JY hH hn l (λx hx=>hl x (by simp[hx])) (Wb hH hn h1 h2 h)
theorem Wo{fuel:Nat}(hH:Ka c N J Fl)(hn:n<N)(h:ik N J Fl s):ik N J Fl (sQ c fuel n s):=by
 have gw:n<s.kn.length:=by rw[h.sh.kn];exact hn
 obtain⟨s0,tQ⟩:∃s0:Sr,s0={ s with kn:=s.kn.set n ((br s n).map (λe:ii=>(⟨e.f,true⟩:ii))) }:=⟨_,rfl⟩;have hkA:∀m,br s0 m=if n=m then (br s n).map (λe=>⟨e.f,true⟩) else br s m:=λm=>by rw[tQ];exact lz gw m
 have OY:kk N s0:=by
  rw[tQ];refine⟨by show(s.kn.set n _).length=N;rw[length_set];exact h.sh.kn,h.sh.wr,h.sh.rw,λl hl e he=>?_⟩;rcases mem_or_eq_of_mem_set (show l∈s.kn.set n _ from hl) with h1|rfl
  .exact h.sh.td l h1 e he
  .obtain⟨x,hx,rfl⟩:=mem_map.1 he;exact h.sh.td.at n x hx
 have h0:ik N J Fl s0:=by
  refine⟨OY,λm e he=>?_,by rw[tQ];exact h.fl⟩;rw[hkA]at he;by_cases e0:n=m
  .subst e0;rw[if_pos rfl]at he;obtain⟨x,hx,rfl⟩:=mem_map.1 he;exact h.kn n x hx
  .rw[if_neg e0]at he;exact h.kn m e he
 have e1:sQ c fuel n s=nO c fuel n (mI (br s n)) s0:=by rw[tQ];rfl
 rw[e1];refine JY hH hn _ (λx hx=>?_) h0;obtain⟨e,he,rfl⟩:=mem_map.1 hx;have he:=(mem_filter.1 he).1;exact⟨h.sh.td.at n e he,h.kn n e he⟩
theorem uN{fuel:Nat}(hH:Ka c N J Fl):∀(k:Nat) {s:Sr},ik N J Fl s->ik N J Fl (qg c fuel k s)
 |0,_,h=>⟨⟨h.sh.kn,h.sh.wr,h.sh.rw,h.sh.td⟩,h.kn,h.fl⟩
 |k+1,s,h=>by
  unfold qg;split
  .exact h
  .rename_i n hp;have hn:n<N:=by
    unfold EP at hp;obtain⟨h1,-⟩:=findIdx?_eq_some_iff_getElem.1 hp;rw[<-h.sh.kn];exact h1
   split
   .exact h
   .exact uN hH k (Wo hH hn h)
end
def Nf(s:Sr):Prop:=s.ok=true/\s.fu=false
theorem Nf.of{a b:Sr}(h:Nf b)(hl:mS a b)(hm:b.ok=true->a.ok=true):Nf a:=by
 refine⟨hm h.1,?_⟩;cases hf:a.fu with
 |false=>rfl
 |true=>have:=hl.fu hf;rw[h.2]at this;cases this
structure R5(c:Cd)(s:Sr)(a b:Nat)(f:CF):Prop where
 fl:c.lp=true->dd f≠[]->sY s a 2=true
 cs:∃C:List CF,f∈C/\∀x∈C,Td x/\(ju f->ju x)/\(c.lp=true->∀y,J1 x y->y∈C)/\∀P,SY P->P (bI c b (if c.lp=true then rs x else x))->CE s b P
structure Ww(c:Cd)(s:Sr)(n:Nat)(f:CF):Prop where
 nu:(cn (c.nds.getD n aI) f).nu=true->sY s n 3=true
 da:(cn (c.nds.getD n aI) f).da=true->sY s n 4=true
 fu:(cn (c.nds.getD n aI) f).fu=false
 en:(c.nds.getD n aI).op=0->dd f≠[]->sY s n 2=true
 nx:∀g∈(cn (c.nds.getD n aI) f).nx,R5 c s n (c.nds.getD n aI).nx g
 ot:∀g∈(cn (c.nds.getD n aI) f).ot,R5 c s n (c.nds.getD n aI).ot g
section
variable {c:Cd} {N n:Nat} {f:CF} {s:Sr}
theorem R5.mono{s':Sr}{a b:Nat}(h:R5 c s a b f)(hl:mS s s'):R5 c s' a b f:=by
 obtain⟨h1,C,h2,h3⟩:=h;refine⟨λx y=>hl.fl _ _ (h1 x y),C,h2,λx hx=>?_⟩;obtain⟨k1,k2,k3,k4⟩:=h3 x hx;exact⟨k1,k2,k3,λP hc hp=>hl.kn _ _ hc (k4 P hc hp)⟩
theorem Ww.mono{s':Sr}(h:Ww c s n f)(hl:mS s s'):Ww c s' n f:=⟨λx=>hl.fl _ _ (h.nu x),λx=>hl.fl _ _ (h.da x),h.fu,λx y=>hl.fl _ _ (h.en x y),λg hg=>(h.nx g hg).mono hl,λg hg=>(h.ot g hg).mono hl⟩
theorem DB:∀(l:List CF) {s:Sr},bW l->kk N s->n<N->∀g∈l,∀P,SY P->P (bI c n g)->CE (l.foldl (λs g=>bz c n g s) s) n P
 |[],s,_,_,_,g,hg=>by simp at hg
 |g::l,s,hl,h,hn,x,hx=>by
  intro P hP hp;rw[foldl_cons];obtain⟨-,h2,h3⟩:=oj (c:=c) (hl g (by simp)) h hn;obtain⟨h4,-⟩:=uy (c:=c) (n:=n) l (λx hx=>hl x (by simp[hx])) h2 hn;rcases mem_cons.1 hx with rfl|hx
  .exact h4.kn _ _ hP (h3 P hP hp)
  .exact DB l (λx hx=>hl x (by simp[hx])) h2 hn x hx P hP hp
theorem wn{g y:CF}(hg:Td g)(kg:ju g)(h:J1 g y):ju y:=by
 obtain⟨i,hi,a,ha,hf,x,hx,rfl⟩:=h;obtain⟨-,f2,f3⟩:=(uj hg.ok).1 hf;exact(Gp hg.ok kg ((fY hg.ok).1 hi).1 ha f2 f3 hx).2.1
theorem M7{fuel a b:Nat}(hf:Td f)(hs:kk N s)(ha:a<N)(hb:b<N)(hN:Nf (dV c fuel a b f s)):R5 c (dV c fuel a b f s) a b f:=by
 unfold dV at hN ⊢;split
 .rename_i h;obtain⟨-,-,h3⟩:=oj (c:=c) hf hs hb;refine⟨λhl jP=>?_,[f],by simp,λx hx=>?_⟩
  .rcases h with h|h
   .rw[hl]at h;cases h
   .exact absurd h jP
  .rw[mem_singleton.1 hx];refine⟨hf,λh=>h,λhl y hy=>?_,λP hc hp=>h3 P hc ?_⟩
   .obtain⟨i,hi,-⟩:=hy;rcases h with h|h
    .rw[hl]at h;cases h
    .rw[h]at hi;simp at hi
   .cases hl:c.lp with
    |false=>rw[hl,if_neg (by simp)]at hp;exact hp
    |true =>
     rw[hl,if_pos rfl]at hp;rcases h with h|h
     .rw[hl]at h;cases h
     .unfold rs at hp;rw[if_pos h]at hp;exact hp
 .rename_i h;rw[if_neg h]at hN;have zn:c.lp=true:=by
   cases hl:c.lp with
   |true=>rfl
   |false=>exact absurd (zq0 hl) h
  simp only at hN ⊢;obtain⟨g1,g2⟩:=xJ hs ha (k:=2) (by omega);obtain⟨k1,k2,k3⟩:=kT (c:=c) fuel 0 (res:=[]) (r:=([f],kQ a 2 s)) (sD hf) By;have hS:=Ij (c:=c) (fuel:=fuel) (k:=0) (res:=[]) (r:=([f],kQ a 2 s)) (sD hf) By g2;obtain⟨q1,-⟩:=uy (c:=c) (n:=b) (iq c fuel 0 [] ([f],kQ a 2 s)).1 k1 hS hb;have hNf:Nf (iq c fuel 0 [] ([f],kQ a 2 s)).2:=hN.of q1 (jy _);refine⟨λ_ _=>q1.fl _ _ ?_,?_⟩
  .unfold sY;rw[k3];have:=nU hs ha (k:=2) (by omega) a 2;rw[if_pos ⟨rfl,rfl⟩]at this;exact this
  .obtain⟨C,c1,c2⟩:=Oc (c:=c) (Q:=λx=>ju f->ju x) (λg y hg hq hn h=>wn hg (hq h) hn) fuel 0 (res:=[]) (r:=([f],kQ a 2 s)) (sD hf) (λx hx h=>by rw[mem_singleton.1 hx];exact h) (λj hj=>by omega) hNf.1 hNf.2;refine⟨C,c1 f (by simp),λx hx=>?_⟩;obtain⟨d1,d2,d3,d4⟩:=c2 x hx;refine⟨d1,d2,λ_=>d4,λP hc hp=>?_⟩;rw[if_pos zn]at hp;exact DB _ k1 hS hb _ d3 P hc hp
theorem E5{fuel a b:Nat}(ha:a<N):∀(l:List CF) {s:Sr},(l≠[]->b<N)->bW l->kk N s->Nf (l.foldl (λs g=>dV c fuel a b g s) s)->∀g∈l,R5 c (l.foldl (λs g=>dV c fuel a b g s) s) a b g
 |[],s,_,_,_,_,g,hg=>by simp at hg
 |g::l,s,hb,hl,h,hN,x,hx=>by
  rw[foldl_cons]at hN ⊢;have hbN:=hb (by simp);obtain⟨h1,h2,h3⟩:=Af (c:=c) (fuel:=fuel) (hl g (by simp)) h ha hbN;obtain⟨h4,h5,-⟩:=pI (c:=c) (fuel:=fuel) ha l (λ_=>hbN) (λx hx=>hl x (by simp[hx])) h2;rcases mem_cons.1 hx with rfl|hx
  .exact(M7 (hl x (by simp)) h ha hbN (hN.of h4 (eT _))).mono h4
  .exact E5 ha l (λ_=>hbN) (λx hx=>hl x (by simp[hx])) h2 hN x hx
theorem GU{b:Bool}{k:Nat}(hs:kk N s)(hn:n<N)(hk:k<5)(hb:b=true):sY (wrI b n k s) n k=true:=by
 unfold wrI;rw[if_pos hb,nU hs hn hk,if_pos ⟨rfl,rfl⟩]
theorem ab3{fuel:Nat}(hN:c.nds.length=N)(hO:sS c.nds)(hn:n<N)(hf:Td f)(hs:kk N s)(hF:Nf (po c fuel n f s)):Ww c (po c fuel n f s) n f:=by
 obtain⟨hv,ha⟩:=hO.v n;obtain⟨t1,t2⟩:=jI hv ha hf;have jQ:n<c.nds.length:=by rw[hN];exact hn
 have cf:(cn (c.nds.getD n aI) f).nx≠[]->(c.nds.getD n aI).nx<N:=λh=>by rw[<-hN];exact hO.nx n jQ (rU h)
 have yk:(cn (c.nds.getD n aI) f).ot≠[]->(c.nds.getD n aI).ot<N:=λh=>by rw[<-hN];exact hO.ot n jQ (rV h)
 unfold po at hF ⊢;simp only at hF ⊢;obtain⟨a1,a2,-⟩:=jt (b:=decide ((c.nds.getD n aI).op=0)&&!decide (dd f=[])) (k:=2) hs hn (by omega);obtain⟨b1,b2,-⟩:=jt (b:=(cn (c.nds.getD n aI) f).nu) (k:=3) a2 hn (by omega);obtain⟨d1,d2,-⟩:=jt (b:=(cn (c.nds.getD n aI) f).da) (k:=4) b2 hn (by omega);obtain⟨e1,e2,-⟩:=Az (cn (c.nds.getD n aI) f).fu d2;obtain⟨g1,g2,-⟩:=pI (c:=c) (fuel:=fuel) (b:=(c.nds.getD n aI).nx) hn (cn (c.nds.getD n aI) f).nx cf t1 e2;obtain⟨k1,k2,-⟩:=pI (c:=c) (fuel:=fuel) (b:=(c.nds.getD n aI).ot) hn (cn (c.nds.getD n aI) f).ot yk t2 g2;have gg:=hF.of k1 (eT _);have pq:=gg.of g1 (eT _);have hl:=g1.trans k1;refine⟨λh=>?_,λh=>?_,?_,λh0 jP=>?_,λg hg=>(E5 hn _ cf t1 e2 gg g hg).mono k1,λg hg=>E5 hn _ yk t2 g2 hF g hg⟩
 .exact hl.fl _ _ (e1.fl _ _ (d1.fl _ _ (GU a2 hn (by omega) h)))
 .exact hl.fl _ _ (e1.fl _ _ (GU b2 hn (by omega) h))
 .have h1:(_||(cn (c.nds.getD n aI) f).fu)=false:=pq.2;rw[Bool.or_eq_false_iff]at h1;exact h1.2
 .exact hl.fl _ _ (e1.fl _ _ (d1.fl _ _ (b1.fl _ _ (GU hs hn (by omega) (by rw[decide_eq_true h0,Bool.true_and];simpa using jP)))))
def MV(c:Cd)(s:Sr)(n0:Nat)(R:List CF):Prop:=∀n,∀e∈br s n,e.d=true->Ww c s n e.f\/(n=n0/\e.f∈R)
theorem MV.old{s':Sr}{n0:Nat}{R:List CF}(h:MV c s n0 R)(ho:jC s s')(hl:mS s s'):MV c s' n0 R:=λn e he hd=>by
 rcases h n e (ho n e he hd) hd with h1|h1
 .exact zq0 (h1.mono hl)
 .exact zq1 h1
theorem RN{fuel:Nat}(hN:c.nds.length=N)(hO:sS c.nds)(hn:n<N):∀(l:List CF) {s:Sr},bW l->kk N s->Nf (nO c fuel n l s)->MV c s n l->MV c (nO c fuel n l s) n []
 |[],s,_,_,_,h=>h
 |f::r,s,hl,h,hF,hJ=>by
  unfold nO at hF ⊢;split
  .rename_i dY;rw[if_pos dY]at hF;rw[hF.2]at dY;cases dY
  .rename_i dY;rw[if_neg dY]at hF;obtain⟨h1,h2,-⟩:=Rw (fuel:=fuel) hN hO hn (hl f (by simp)) h;obtain⟨h4,h5,-⟩:=GR (fuel:=fuel) hN hO hn r (λx hx=>hl x (by simp[hx])) h2;have gg:=hF.of h4 (nP _);refine RN hN hO hn r (λx hx=>hl x (by simp[hx])) h2 hF ?_;intro m e he hd;rcases hJ.old (JP hN hO hn (hl f (by simp)) h) h1 m e he hd with g|⟨g1,g2⟩
   .exact zq0 g
   .rcases mem_cons.1 g2 with g2|g2
    .left;rw[g1,g2];exact ab3 hN hO hn (hl f (by simp)) h gg
    .exact zq1 ⟨g1,g2⟩
theorem MV.nil{n0 n1:Nat}(h:MV c s n0 []):MV c s n1 []:=λn e he hd=>by
 rcases h n e he hd with g|⟨-,g⟩
 .exact zq0 g
 .simp at g
theorem acb{fuel:Nat}(hN:c.nds.length=N)(hO:sS c.nds)(hn:n<N)(h:kk N s)(hF:Nf (sQ c fuel n s))(hJ:MV c s n []):MV c (sQ c fuel n s) n []:=by
 have gw:n<s.kn.length:=by rw[h.kn];exact hn
 obtain⟨s0,tQ⟩:∃s0:Sr,s0={ s with kn:=s.kn.set n ((br s n).map (λe:ii=>(⟨e.f,true⟩:ii))) }:=⟨_,rfl⟩;have hkA:∀m,br s0 m=if n=m then (br s n).map (λe=>⟨e.f,true⟩) else br s m:=λm=>by rw[tQ];exact lz gw m
 have hL:mS s s0:=by
  refine⟨λh=>by rw[tQ];exact h,λm k h=>by rw[tQ];exact h,λm P _ hk=>?_⟩;obtain⟨e,he,hf⟩:=hk;unfold CE;rw[hkA];by_cases e0:n=m
  .subst e0;rw[if_pos rfl];exact⟨⟨e.f,true⟩,mem_map.2 ⟨e,he,rfl⟩,hf⟩
  .rw[if_neg e0];exact⟨e,he,hf⟩
 have OY:kk N s0:=by
  rw[tQ];refine⟨by show(s.kn.set n _).length=N;rw[length_set];exact h.kn,h.wr,h.rw,λl hl e he=>?_⟩;rcases mem_or_eq_of_mem_set (show l∈s.kn.set n _ from hl) with h1|rfl
  .exact h.td l h1 e he
  .obtain⟨x,hx,rfl⟩:=mem_map.1 he;exact h.td.at n x hx
 have lR:bW (mI (br s n)):=λg hg=>by
  obtain⟨e,he,rfl⟩:=mem_map.1 hg;exact h.td.at n e (mem_filter.1 he).1
 have e1:sQ c fuel n s=nO c fuel n (mI (br s n)) s0:=by rw[tQ];rfl
 rw[e1]at hF ⊢;refine RN hN hO hn _ lR OY hF ?_;intro m e he hd;rw[hkA]at he;by_cases e0:n=m
 .subst e0;rw[if_pos rfl]at he;obtain⟨x,hx,rfl⟩:=mem_map.1 he;cases hxd:x.d with
  |true =>
   rcases hJ n x hx hxd with g|⟨-,g⟩
   .exact zq0 (g.mono hL)
   .simp at g
  |false=>exact zq1 ⟨rfl,mem_map.2 ⟨x,mem_filter.2 ⟨hx,by simp[hxd]⟩,rfl⟩⟩
 .rw[if_neg e0]at he;rcases hJ m e he hd with g|⟨-,g⟩
  .exact zq0 (g.mono hL)
  .simp at g
theorem Re{fuel:Nat}(hN:c.nds.length=N)(hO:sS c.nds):∀(k:Nat) {s:Sr},kk N s->Nf (qg c fuel k s)->MV c s 0 []->∀n,∀e∈br (qg c fuel k s) n,Ww c (qg c fuel k s) n e.f
 |0,s,h,hF,_=>by have:=hF.1;cases this
 |k+1,s,h,hF,hJ=>by
  unfold qg at hF ⊢;split
  .rename_i hp;intro n e he;have hd:e.d=true:=by
    unfold EP at hp;rw[findIdx?_eq_none_iff]at hp;unfold br at he;obtain⟨y,hy,hey⟩:∃y∈s.kn,e∈y:=by
     rw[getD_eq_getElem?_getD]at he;cases hg:s.kn[n]? with
     |none=>rw[hg]at he;simp at he
     |some y=>rw[hg]at he;exact⟨y,mem_of_getElem? hg,he⟩
    have:=hp y hy;rw[any_eq_false]at this;have:=this e hey;simpa using this
   rcases hJ n e he hd with g|⟨-,g⟩
   .exact g
   .simp at g
  .rename_i n hp;rw[hp]at hF;have hn:n<N:=by
    unfold EP at hp;obtain⟨h1,-⟩:=findIdx?_eq_some_iff_getElem.1 hp;rw[<-h.kn];exact h1
   split
   .rename_i dY;simp only at hF;rw[if_pos dY]at hF;rw[hF.2]at dY;cases dY
   .rename_i dY;simp only at hF;rw[if_neg dY]at hF;obtain⟨h1,h2,-⟩:=RS (fuel:=fuel) hN hO hn h;obtain⟨h4,h5,-⟩:=BT (fuel:=fuel) hN hO k h2;exact Re hN hO k h2 hF (acb hN hO hn h (hF.of h4 (nJ _)) hJ.nil).nil
end
abbrev rL(F V:CF):Prop:=tC (λi=>i) 0 F V
theorem Q9{w:Nat}(hw:w<4):RnV (λi=>i) w:=⟨rfl,λ_ h=>h,hw⟩
section
variable {F V U f G:CF} {w:Nat}
theorem tC.any{w':Nat}(h:tC (λi=>i) w F V):tC (λi=>i) w' F V:=by
 obtain⟨val,h⟩:=h;exact⟨val,h.cl,h.ap,h.sp,λx hx=>by simp at hx⟩
theorem tC.trans(h:rL F V)(hF:aj F)(nF:fI F)(hV:aj V)(h':rL V U):rL F U:=by
 obtain⟨val,h⟩:=h;obtain⟨v2,h'⟩:=h';exact⟨_,h.transL hF.lf nF.ow rfl hV.lf h'⟩
theorem pP(hV:aj V)(hw:Ei F V=true):rL F V:=Fp hV hw
theorem TG(hF:aj F)(nF:fI F):SY (rL F):=⟨λhf hg hw h=>h.trans hF nF hf (pP hg hw)⟩
theorem tC.tV(hV:aj V)(h:rL F V):rL F (aQ V):=by
 obtain⟨val,h⟩:=h;exact h.tdV hV
theorem tC.tF(hF:aj F)(h:rL F V):rL (aQ F) V:=by
 obtain⟨val,h⟩:=h;exact⟨_,h.tdF' (λ_ h=>h) (by omega) hF⟩
theorem tC.refl(hF:aj F)(kF:ju F):rL F F:=by
 refine⟨λc=>c,λ_ _=>rfl,λp hp _ _=>?_,⟨F.ow,by simp,?_⟩,λx hx=>by simp at hx⟩
 .exact b7.2 ⟨kF.n.ap p hp,zq0 ⟨p,hp,zq0 ⟨rfl,rfl⟩⟩⟩
 .have:∀l:List Pr,mt (λc=>c) l l:=by
   intro l;induction l with
   |nil=>rfl
   |cons p l ih=>exact⟨[p],l,List.Perm.refl _,⟨rfl,rfl⟩,λh=>⟨p,rfl,h⟩,ih⟩
  exact this F.ow
theorem tC.foV(hV:aj V)(h:rL F V):rL F (aQ (Av V)):=by
 obtain⟨val,h⟩:=h;exact(show rL F (Av V) from ⟨val,h.foV V.ow.length⟩).tV (dq _ hV).1
theorem tC.fo(hF:aj F)(hV:aj V)(hH:Sm V)(h:rL F V):rL (aQ (Av F)) (aQ (Av V)):=by
 obtain⟨val,h⟩:=h;exact(h.fold (λ_ h=>h) (by omega) hF hV hH).emn (Q9 (by omega)) (dq _ hF).1 (dq _ hV).1
theorem Qa(hF:aj F)(hV:aj V)(h:rL F V)(hl:dd V=[]):dd F=[]:=by
 obtain⟨val,h⟩:=h;obtain⟨cs,s1,s2⟩:=h.sp;rw[nil_append]at s1;obtain⟨L,w1,w2,w3⟩:=qu s2;have hp:=s1.trans w3;rw[eq_nil_iff_forall_not_mem];intro i hi;obtain⟨i1,i2⟩:=(fY hF).1 hi;apply i2;obtain⟨e,he,hx⟩:=mem_flatMap.1 (hp.subset (show owA F i∈F.ow from aY i1));refine GE h.cl w1 w2 hp he ?_ _ hx;apply Classical.byContradiction;intro hn;have hm:e.1∈V.ow:=by rw[<-w2];exact mem_map.2 ⟨e,he,rfl⟩
 obtain⟨j,hj,hje⟩:=mem_iff_getElem.1 hm;have:j∈dd V:=(fY hV).2 ⟨hj,by rw[show owA V j=V.ow[j] from bY hj,hje];exact hn⟩;rw[hl]at this;simp at this
theorem P9(hf:aj f)(h:∀p∈f.ow,dJ f p.l):dd f=[]:=by
 rw[eq_nil_iff_forall_not_mem];intro i hi;obtain⟨i1,i2⟩:=(fY hf).1 hi;exact i2 (h _ (aY i1))
theorem ahe(hf:aj f)(h:dd f=[]):∀p∈f.ow,dJ f p.l:=by
 intro p hp;obtain⟨i,hi,rfl⟩:=mem_iff_getElem.1 hp;apply Classical.byContradiction;intro hn;have:i∈dd f:=(fY hf).2 ⟨hi,by rw[show owA f i=f.ow[i] from bY hi];exact hn⟩;rw[h]at this;simp at this
theorem Jb(hf:aj f)(h:dd f=[]):dd (aQ f)=[]:=by
 refine P9 hf.td (λp hp=>?_);obtain⟨x,hx,rfl⟩:=mem_map.1 (show p∈f.ow.map (jm (dg (cK f))) from dH.1 (show p∈mn (wX (cK f)).ow from hp));exact QZ hf (ahe hf h x hx)
theorem Qb(hf:aj f):dd (rs f)=[]:=by
 unfold rs;split
 .assumption
 .rw[B4];refine Jb (zt hf) (P9 (zt hf) (λp hp=>?_));obtain⟨p1,p2⟩:=(wo hf).1 hp;have:=p2 (λc=>dJ f c/\dJ (Gl f) c) (λi i1 i5=>⟨dJ.root i1 i5,dJ.root (f:=Gl f) i1 i5⟩) (λq hq h=>⟨dJ.on hq h.1,dJ.on ((wo hf).2 ⟨hq,h.1⟩) h.2⟩);exact this.2
theorem X4(h:dd f=[]):rs f=f:=by unfold rs;rw[if_pos h]
theorem P2(hf:aj f)(h:ju f):ju (aQ f):=⟨h.k.td,qc hf,h.n.td hf⟩
theorem Bd(hf:aj f)(h:ju f):ju (rs f):=by
 unfold rs;split
 .exact h
 .rw[B4];have hs:∀p∈(Gl f).ow,p∈f.ow:=λp hp=>((wo hf).1 hp).1;exact⟨(show Kd (Gl f) from λp hp=>h.k p (hs p hp)).td,qc (zt hf),(show fI (Gl f) from ⟨h.n.ap,λp hp=>h.n.ow p (hs p hp)⟩).td (zt hf)⟩
theorem NV{y x:CF}(hV:aj V)(kV:ju V)(hy:Td y)(ky:ju y)(h:rL y V)(hx:J1 y x):ju x/\rL x V:=by
 refine⟨wn hy ky hx,?_⟩;obtain⟨i,hi,a,ha,hf,z,hz,rfl⟩:=hx;obtain⟨-,f2,f3⟩:=(uj hy.ok).1 hf;have ur:=((fY hy.ok).1 hi).1;obtain⟨o1,o2,o3⟩:=Gp hy.ok ky ur ha f2 f3 hz;refine tC.tF o1 ?_;obtain⟨val,h⟩:=h;have eK:=h.apa kV.l;rcases o3 with⟨rfl,hd⟩|⟨rfl,hk⟩
 .have hd':aV y (owA y i).l a=false:=by
   cases Cr:aV y (owA y i).l a with
   |false=>rfl
   |true=>rw[iE Cr]at hd;cases hd
  exact⟨_,(h.joF1 (λ_ h=>h) (by omega) hy.ok.c5 eK hd').1⟩
 .exact⟨_,(h.me2F hy.ok eK ur hk).1⟩
end
structure SZ(c:Cd)(S:Sr)(a b:Nat)(y F:CF):Prop where
 fl:c.lp=true->dd F≠[]->sY S a 2=true
 no:c.lp=false->CE S b (rL F)
 yes:c.lp=true->∀G,Td G->Wx F G->ju G/\CE S b (λz=>rL (rs G) z/\(c.hd.getD b false=true->rL (aQ (Av (rs G))) z))
theorem qv{c:Cd}{S:Sr}{a b:Nat}{y F:CF}(jQ:c.lp=false->∀n,c.hd.getD n false=false)(h:R5 c S a b y)(hy:Td y)(ky:ju y)(hF:Td F)(kF:ju F)(hE:rL F y):SZ c S a b y F:=by
 obtain⟨h1,C,h2,h3⟩:=h;refine⟨λhl jP=>h1 hl (λe=>jP (Qa hF.ok hy.ok hE e)),λhl=>?_,λhl G hG hc=>?_⟩
 .obtain⟨-,-,-,k4⟩:=h3 y h2;refine k4 _ (TG hF.ok kF.n) ?_;unfold bI;rw[jQ hl,if_neg (by simp),if_neg (by rw[hl];simp)];exact hE
 .obtain⟨kG,eG⟩:=hc (λx=>ju x/\rL x y) ⟨kF,hE⟩ (λg x hg hq hn=>NV hy.ok ky hg hq.1 hq.2 hn);refine⟨kG,?_⟩;obtain⟨g',c1,c2⟩:=Zm (w:=0) (C:=λx=>x∈C) ⟨λg hg=>⟨(h3 g hg).1.ok,(h3 g hg).2.1 ky⟩,λg hg i hi a ha hf x hx=>(h3 g hg).2.2.1 hl _ ⟨i,hi,a,ha,hf,x,hx,rfl⟩⟩ (by omega) hG.ok kG G.ow.length (by omega) h2 eG;obtain⟨k1,k2,-,k4⟩:=h3 g' c1;have hrG:=xd hG;have krG:=Bd hG.ok kG;have ut:=xd k1;have fq:aj (aQ (Av (rs G))):=(dq _ hrG.ok).1.td;refine k4 _ ⟨λhf hg hw h=>⟨h.1.trans hrG.ok krG.n hf (pP hg hw),λhh=>(h.2 hh).trans fq (Gk hrG.ok krG).n hf (pP hg hw)⟩⟩ ?_;rw[if_pos hl];unfold bI;split
  .exact⟨c2.foV ut.ok,λ_=>c2.fo hrG.ok ut.ok (PA (Qb k1.ok))⟩
  .rename_i hh;exact⟨c2,λh9=>absurd h9 hh⟩
section
variable {r:Nat->Nat} {w N n:Nat} {c c':Cd} {S s:Sr} {F V:CF}
theorem Bc(hf:aj F)(h:ju F):ju (bI c n F):=by
 unfold bI;split
 .exact Gk hf h
 .exact h
end
structure NdX(nd nd':Nd):Prop where
 op:nd'.op=nd.op
 ef:∀f,cn nd' f=cn nd f
structure Pla(c c':Cd)(N':Nat)(S:Sr)(u:Nat->Nat)(G:Nat->Prop):Prop where
 len':c'.nds.length=N'
 o:sS c.nds
 o':sS c'.nds
 lp:c'.lp=c.lp
 nl:c.lp=false->∀n,c.hd.getD n false=false
 nl':c'.lp=false->∀n,c'.hd.getD n false=false
 gd:∀m,m<N'->G m->NdX (c.nds.getD (u m) aI) (c'.nds.getD m aI)/\((c'.nds.getD m aI).op≠0->u (c'.nds.getD m aI).nx=(c.nds.getD (u m) aI).nx/\G (c'.nds.getD m aI).nx)/\((c'.nds.getD m aI).op=7\/(c'.nds.getD m aI).op=8\/(c'.nds.getD m aI).op=9->u (c'.nds.getD m aI).ot=(c.nds.getD (u m) aI).ot/\G (c'.nds.getD m aI).ot)
 hd:∀m,G m->c'.hd.getD m false=c.hd.getD (u m) false
 hn:∀m,¬ G m->c'.hd.getD m false=false
 sk:∀m,m<N'->¬ G m->(c'.nds.getD m aI).op=6/\u (c'.nds.getD m aI).nx=u m/\G (c'.nds.getD m aI).nx
 cl:∀n,∀e∈br S n,Ww c S n e.f
 td:qo S
 kl:EnN ju S
structure Jm(c:Cd)(S:Sr)(u:Nat->Nat)(G:Nat->Prop)(m:Nat)(f:CF):Prop where
 k:ju f
 kn:CE S (u m) (λz=>rL f z/\(¬ G m->c.hd.getD (u m) false=true->rL (aQ (Av f)) z))
 lo:¬ G m->c.lp=true->dd f=[]
def Flm(S:Sr)(u:Nat->Nat)(G:Nat->Prop)(m k:Nat):Prop:=G m/\sY S (u m) k=true
section
variable {c c':Cd} {N' n m:Nat} {S s:Sr} {u:Nat->Nat} {G:Nat->Prop} {f F V:CF}
theorem qz{nd:Nd}(h:nd.op=6):cn nd f=⟨[aQ f],[],false,false,false⟩:=by
 unfold cn;rw[h];rfl
theorem amK(a b:Nat):∃w,w<4/\a≠w/\b≠w:=by
 by_cases h0:a≠0/\b≠0
 .exact⟨0,by omega,h0⟩
 .by_cases h1:a≠1/\b≠1
  .exact⟨1,by omega,h1⟩
  .exact⟨2,by omega,by omega,by omega⟩
theorem aa8{nd:Nd}(hv:nd.v<4)(ha:nd.ai<4){w:Nat}(h1:nd.v≠w)(h2:nd.ai≠w):NdR (λi=>i) w nd nd :=
 ⟨rfl,λ_=>⟨rfl,λi _ e=>e,hv,hv,h1⟩,λ_=>rfl,λ_=>⟨rfl,λi _ e=>e,ha,ha,h2⟩⟩
theorem vx(hP:Pla c c' N' S u G){a b:Nat}(hf:Td f){y:CF}(ha:G a\/c.lp=false\/dd f=[])(kf:ju f)(h:SZ c S (u a) (u b) y f):ArJ c' (Jm c S u G) (Flm S u G) a b f:=by
 refine⟨λhl jP=>⟨?_,h.fl (by rw[<-hP.lp];exact hl) jP⟩,λhl=>?_,λhl x hx hc=>?_⟩
 .rw[hP.lp]at hl;rcases ha with ha|ha|ha
  .exact ha
  .rw[hl]at ha;cases ha
  .exact absurd ha jP
 .have e:bI c' b f=f:=by unfold bI;rw[hP.nl' hl,if_neg (by simp)]
  rw[e];rw[hP.lp]at hl;obtain⟨z,hz,h1⟩:=h.no hl;exact⟨kf,⟨z,hz,h1,λ_ h9=>by rw[hP.nl hl]at h9;cases h9⟩,λ_ h9=>by rw[hl]at h9;cases h9⟩
 .rw[hP.lp]at hl;obtain⟨kx,z,hz,h1,h2⟩:=h.yes hl x hx hc;have hr:=xd hx;have kr:=Bd hx.ok kx;by_cases hG:G b
  .refine⟨Bc hr.ok kr,⟨z,hz,?_,λh9=>absurd hG h9⟩,λh9=>absurd hG h9⟩;unfold bI;rw[hP.hd b hG];split
   .rename_i hh;exact h2 hh
   .exact h1
  .have e:bI c' b (rs x)=rs x:=(by unfold bI;rw[hP.hn b hG,if_neg (by simp)]);rw[e];exact⟨kr,⟨z,hz,h1,λ_=>h2⟩,λ_ _=>Qb hx.ok⟩
theorem Jr(hP:Pla c c' N' S u G):Ka c' N' (Jm c S u G) (Flm S u G):=by
 refine⟨hP.len',hP.o',λn hn f hf hJ=>?_⟩;obtain⟨hv',IB⟩:=hP.o'.v n;obtain⟨t1,t2⟩:=jI hv' IB hf;obtain⟨z,hz,hE,hE2⟩:=hJ.kn;have dU:=hP.cl _ z hz;have ss:=hP.td.at _ z hz;have gK:=hP.kl _ z hz;by_cases hG:G n
 .obtain⟨dG,v7,Mu⟩:=hP.gd n hn hG;obtain⟨hv,ha⟩:=hP.o.v (u n);obtain⟨w,w1,w2,w3⟩:=amK (c.nds.getD (u n) aI).v (c.nds.getD (u n) aI).ai;obtain⟨q1,q2,q3,q4⟩:=TO (Q9 w1) hf.ok hJ.k ss.ok gK (aa8 hv ha w2 w3) hv ha hv ha hE.any dU.fu;rw[<-dG.ef f]at q1 q2 q3 q4;obtain⟨k1,k2⟩:=Bb hf.ok hv' IB hJ.k;obtain⟨l1,l2⟩:=Bb ss.ok hv ha gK;obtain⟨d1,d2⟩:=jI hv ha ss;refine⟨λh0 jP=>⟨hG,dU.en (by rw[<-dG.op];exact h0) (λe=>jP (Qa hf.ok ss.ok hE e))⟩,λh=>⟨hG,dU.nu (q1 h)⟩,λh=>⟨hG,dU.da (q2 h)⟩,λx hx=>?_,λx hx=>?_⟩
  .obtain⟨y,hy,XO⟩:=q3 x hx;obtain⟨e1,e2⟩:=v7 (rU (ne_nil_of_mem hx));refine vx hP (t1 x hx) (zq0 hG) (k1 x hx) (y:=y) ?_;rw[e1];exact qv hP.nl (dU.nx y hy) (d1 y hy) (l1 y hy) (t1 x hx) (k1 x hx) XO.any
  .obtain⟨y,hy,XO⟩:=q4 x hx;obtain⟨e1,e2⟩:=Mu (rV (ne_nil_of_mem hx));refine vx hP (t2 x hx) (zq0 hG) (k2 x hx) (y:=y) ?_;rw[e1];exact qv hP.nl (dU.ot y hy) (d2 y hy) (l2 y hy) (t2 x hx) (k2 x hx) XO.any
 .obtain⟨o6,e1,e2⟩:=hP.sk n hn hG;have jP:=hJ.lo hG;have htf:Td (aQ f):=hf.ok.tidy;have ktf:=P2 hf.ok hJ.k;refine⟨λh0=>absurd (o6.symm.trans h0) (by decide),?_,?_,λx hx=>?_,?_⟩
  .rw[qz o6];exact λh=>by cases h
  .rw[qz o6];exact λh=>by cases h
  .rw[qz o6]at hx;have hx:x=aQ f:=mem_singleton.1 hx;subst hx;refine vx hP (y:=f) htf ?_ ktf ?_
   .cases hl:c.lp with
    |false=>exact zq1 (zq0 rfl)
    |true=>exact zq1 (zq1 (Jb hf.ok (jP hl)))
   .rw[e1];refine⟨λhl h9=>absurd (Jb hf.ok (jP hl)) h9,λhl=>⟨z,hz,hE.tF hf.ok⟩,λhl x hx hc=>?_⟩;have AH:=Jb hf.ok (jP hl);have ex:x=aQ f:=hc (λx=>x=aQ f) rfl (λg y _ hg hn=>by
     obtain⟨i,hi,-⟩:=hn;rw[hg,AH]at hi;simp at hi)
    rw[ex,X4 AH];refine⟨ktf,z,hz,hE.tF hf.ok,λhh=>?_⟩;have h1:rL (aQ f) f:=(tC.refl hf.ok hJ.k).tF hf.ok;have h2:=h1.fo htf.ok hf.ok (PA (jP hl));exact h2.trans (dq _ htf.ok).1.td (Gk htf.ok ktf).n (dq _ hf.ok).1.td (hE2 hG hh)
  .rw[qz o6];exact λx hx=>by simp at hx
theorem Ba{a b:Nat}{x:CF}(hx:Td x)(kx:ju x):ArJ c (λ_ f=>ju f) (λ_ _=>True) a b x:=⟨λ_ _=>trivial,λ_=>Bc hx.ok kx,λ_ G hG hc=>by
 have kG:ju G:=hc ju kx (λg y hg hq hn=>wn hg hq hn);exact Bc (xd hG).ok (Bd hG.ok kG)⟩
theorem Vb{N:Nat}(hN:c.nds.length=N)(hO:sS c.nds):Ka c N (λ_ f=>ju f) (λ_ _=>True):=by
 refine⟨hN,hO,λn hn f hf hJ=>?_⟩;obtain⟨hv,ha⟩:=hO.v n;obtain⟨t1,t2⟩:=jI hv ha hf;obtain⟨k1,k2⟩:=Bb hf.ok hv ha hJ;exact⟨λ_ _=>trivial,λ_=>trivial,λ_=>trivial,λx hx=>Ba (t1 x hx) (k1 x hx),λx hx=>Ba (t2 x hx) (k2 x hx)⟩
end
