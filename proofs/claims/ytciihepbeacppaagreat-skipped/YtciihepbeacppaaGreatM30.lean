import Derived.Test.YtciihepbeacppaaGreatM29
namespace Go.Proofs.YtciihepbeacppaaGreat
open Go.RowKit List
set_option linter.unusedVariables false
section
variable {r:Nat->Nat} {w:Nat} {F V U f:CF} {val v2:Nat->Nat} {X:List Pr}
theorem JA:∀(l:List Pr) {s:List Nat},(l.foldl mM s).length=s.length->∀p∈l,p.l∈s->p.r∈s
 |[],_,_,p,hp,_=>by simp at hp
 |q::l,s,h,p,hp,hl=>by
  rw[foldl_cons]at h;have h1:=BJ s q;have h2:=BH l (s:=mM s q);have hs:¬ (q.l∈s/\q.r ∉ s):=λhc=>by
   have:(mM s q).length=s.length+1:=(by unfold mM;rw[if_pos hc];simp);omega
  have e:mM s q=s:=by unfold mM;rw[if_neg hs]
  rw[e]at h;rcases mem_cons.1 hp with rfl|hp
  .exact Classical.byContradiction λhn=>hs ⟨hl,hn⟩
  .exact JA l h p hp hl
theorem JB(hk:∀p∈f.ow,p.r<24):∀(n:Nat) {s:List Nat},ep s->25<=s.length+n->(∀c∈s,c∈LI f n s)/\∀p∈f.ow,p.l∈LI f n s->p.r∈LI f n s
 |0,s,h,hn=>by have:=h.len;omega
 |n+1,s,h,hn=>by
  unfold LI;split
  .rename_i he;exact⟨λc hc=>hc,λp hp hl=>JA f.ow he p hp hl⟩
  .rename_i he;have h1:s.length<=(wS f s).length:=BH f.ow;obtain⟨a1,a2⟩:=JB hk n (GA f.ow h hk).1 (by have:(f.ow.foldl mM s).length=(wS f s).length:=rfl;omega);refine⟨λc hc=>a1 c ?_,a2⟩;obtain⟨t,ht⟩:=BI f.ow s;rw[ht];exact mem_append_left _ hc
theorem Fc{B:Nat->Prop}:∀{q:List Pr} {a e:Nat},(∀z∈q,B z.l->B z.r)->lY q a e->B a->(∀z∈q,B z.l)/\B e
 |[],_,_,_,h,_=>h.elim
 |[x],a,e,h2,h,ha=>by
  obtain⟨rfl,rfl⟩:=h;exact⟨λz hz=>by rw[mem_singleton.1 hz];exact ha,h2 x (by simp) ha⟩
 |x::y::t,a,e,h2,h,ha=>by
  obtain⟨rfl,h⟩:=h;obtain⟨h3,h4⟩:=Fc (λz hz=>h2 z (mem_cons_of_mem _ hz)) h (h2 x (by simp) ha);exact⟨λz hz=>by rcases mem_cons.1 hz with rfl|hz;exact ha;exact h3 z hz,h4⟩
theorem cX.difL(h:cX r w F val X V)(hF:lO F.ow)(hN:∀p∈F.ow,p.l≠F.cl.getD 0 0)(h0:r 0=0)(hV:lO V.ow){a b:Nat}(ha:a∈bL V)(hb:b∈bL V)(hd:aV V a b=true):aV F (val a) (val b)=true:=by
 have h9:cX r w F val X { V with ap:=V.ap.filter (λp=>decide (p.l∈bL V)&&decide (p.r∈bL V)) }:=⟨h.cl,λp hp l1 l2=>h.ap p (mem_filter.1 hp).1 l1 l2,h.sp,h.nm⟩;refine h9.dif hF hN h0 hV (λp hp=>by have:=(mem_filter.1 hp).2;rw[Bool.and_eq_true]at this;exact⟨of_decide_eq_true this.1,of_decide_eq_true this.2⟩) ?_;obtain⟨h1,h2⟩:=bZ.1 hd;rw[bZ];refine⟨h1,?_⟩;rcases h2 with⟨p,hp,e⟩|h2
 .refine zq0 ⟨p,mem_filter.2 ⟨hp,?_⟩,e⟩;rw[Bool.and_eq_true];rcases e with⟨rfl,rfl⟩|⟨rfl,rfl⟩
  .exact⟨decide_eq_true ha,decide_eq_true hb⟩
  .exact⟨decide_eq_true hb,decide_eq_true ha⟩
 .right;rw[fQ]at h2 ⊢;exact h2
theorem cX.transL(h:cX r w F val X V)(hF:lO F.ow)(hN:∀p∈F.ow,p.l≠F.cl.getD 0 0)(h0:r 0=0)(hV:lO V.ow){w':Nat}(h':cX (λi=>i) w' V v2 [] U):cX r w F (λc=>val (v2 c)) X U:=by
 obtain⟨cs,s1,s2⟩:=h.sp;obtain⟨ds,t1,t2⟩:=h'.sp;exact⟨λi hi=>by rw[h'.cl i hi];exact h.cl i hi,λp hp l1 l2=>h.difL hF hN h0 hV (h'.live (λ_ h=>h) l1) (h'.live (λ_ h=>h) l2) (h'.ap p hp l1 l2),⟨cs,s1,yK t2 (cN t1 s2)⟩,h.nm⟩
end
section
variable {r:Nat->Nat} {w:Nat} {F V:CF} {val:Nat->Nat} {X cs:List Pr}
theorem cX.joV(Ud:V.cl.length=5)(h:cX r w F val X V)(ha:yB F val V){a b:Nat}(e:val a=val b):cX r w F val X (mL V a b):=by
 have hs:∀c,val (cM a b c)=val c:=λc=>by
  unfold cM;split
  .rename_i hc;rw[hc,e]
  .rfl
 refine⟨λi hi=>?_,λp hp _ _=>?_,?_,h.nm⟩
 .rw[gL Ud hi,hs];exact h.cl i hi
 .obtain⟨q,hq,rfl⟩:=mem_map.1 (show p∈V.ap.map (mj a b) from hp);show aV F (val (cM a b q.l)) (val (cM a b q.r))=true;rw[hs,hs];exact ha q hq
 .obtain⟨cs,s1,s2⟩:=h.sp;refine⟨cs,s1,?_⟩;have:=pG (val:=val) (v':=val) (g:=mj a b) (ph:=id) (G:=id) (λx=>⟨rfl,rfl,Iff.rfl⟩) (l:=V.ow) (λp hp=>⟨λh=>h,hs _,hs _⟩) s2;rw[map_id]at this;exact this
theorem cX.joF1(hr:∀i,i<5->r i<5)(hw:w<4)(h5:F.cl.length=5)(h:cX r w F val X V)(ha:yB F val V){x y:Nat}(hn:aV F x y=false):cX r w (mL F x y) (λc=>cM x y (val c)) (X.map (mj x y)) V/\yB (mL F x y) (λc=>cM x y (val c)) V:=by
 have eJ:yB (mL F x y) (λc=>cM x y (val c)) V:=λp hp=>NM h5 hn (ha p hp);refine⟨⟨λi hi=>?_,λp hp _ _=>eJ p hp,?_,λz hz=>?_⟩,eJ⟩
 .show cM x y (val (V.cl.getD i 0))=_;rw[h.cl i hi,gL h5 (hr i hi)]
 .obtain⟨cs,s1,s2⟩:=h.sp;refine⟨cs.map (mj x y),?_,?_⟩
  .show(F.ow.map (mj x y)).Perm _;rw[<-map_append];exact s1.map _
  .have:=pG (val:=val) (v':=λc=>cM x y (val c)) (g:=id) (ph:=cM x y) (G:=mj x y) (λz=>⟨rfl,rfl,Iff.rfl⟩) (l:=V.ow) (λp hp=>⟨λh=>h,rfl,rfl⟩) s2;rw[map_id]at this;exact this
 .obtain⟨y',hy,rfl⟩:=mem_map.1 hz;obtain⟨e1,e2⟩:=h.nm y' hy;rw[gL h5 (by omega),gL h5 (by omega)];exact⟨by show cM _ _ y'.l=_;rw[e1],by show cM _ _ y'.r=_;rw[e2]⟩
theorem Ah:∀{q1 q2:List Pr} {x:Pr} {a e d:Nat},lY (q1++x::q2) a e->lY (q1++⟨4,x.l,d⟩::⟨4,d,x.r⟩::q2) a e
 |[],[],x,a,e,d,h=>⟨h.1,rfl,h.2⟩
 |[],y::q2,x,a,e,d,h=>⟨h.1,rfl,h.2⟩
 |[p],q2,x,a,e,d,h=>by
  have h:p.l=a/\lY (x::q2) p.r e:=h;exact⟨h.1,Ah (q1:=[]) h.2⟩
 |p::p'::q1,q2,x,a,e,d,h=>by
  have h:p.l=a/\lY ((p'::q1)++x::q2) p.r e:=h;exact⟨h.1,Ah (q1:=p'::q1) h.2⟩
theorem rN:∀{l cs:List Pr} {x:Pr},mr val l cs->x∈cs->∃i,i<l.length/\∃q1 q2 cs',cs.Perm ((q1++x::q2)++cs')/\lY (q1++x::q2) (val (l.getD i ay).l) (val (l.getD i ay).r)/\((l.getD i ay).k≠4->∃y,q1++x::q2=[y]/\y.k≠4)/\∃R,l.Perm (l.getD i ay::R)/\mr val R cs'
 |[],cs,x,h,hx=>by
  have h:cs=[]:=h;rw[h]at hx;simp at hx
 |p::l,cs,x,h,hx=>by
  obtain⟨q,c,h1,h2,h3,h4⟩:=h;rcases mem_append.1 (h1.subset hx) with hx|hx
  .obtain⟨q1,q2,rfl⟩:=append_of_mem hx;exact⟨0,by simp,q1,q2,c,h1,h2,h3,l,List.Perm.refl _,h4⟩
  .obtain⟨i,hi,q1,q2,c',a1,a2,a3,R,a4,a5⟩:=rN h4 hx;refine⟨i+1,by simp;omega,q1,q2,q++c',?_,a2,a3,p::R,?_,q,c',List.Perm.refl _,h2,h3,a5⟩
   .exact h1.trans ((a1.append_left q).trans (perm_append_comm_assoc q (q1++x::q2) c'))
   .exact(a4.cons p).trans (List.Perm.swap _ _ _)
theorem cX.me2F(hF:aj F)(h:cX r w F val [] V)(ha:yB F val V){j d:Nat}(hj:j<F.ow.length)(hk:(owA F j).k=4):cX r w (dB F d j) val [] V/\yB (dB F d j) val V:=by
 obtain⟨x,hx⟩:∃x,x=owA F j:=⟨_,rfl⟩;have hx':F.ow.getD j ay=x:=hx.symm;have hp:=cU hj;rw[hx']at hp;have hs:(dB F d j).ow.Perm (⟨4,x.l,d⟩::⟨4,d,x.r⟩::iQ F.ow j):=by
  show(F.ow.set j (⟨(owA F j).k,(owA F j).l,d⟩:Pr)++[(⟨4,d,(owA F j).r⟩:Pr)]).Perm _;rw[hk,<-hx];exact((perm_append_comm (l₂:=[(⟨4,d,x.r⟩:Pr)])).trans ((iW hj (⟨4,x.l,d⟩:Pr)).cons _)).trans (List.Perm.swap _ _ _)
 have hd:∀a b,aV F a b=true->aV (dB F d j) a b=true:=λa b=>jF (F:=F) (F':=dB F d j) (λp hp=>hp) rfl (λp Mt=>by
  rcases mem_cons.1 (hp.subset Mt) with rfl|Mt
  .exact⟨_,hs.symm.subset mem_cons_self,rfl⟩
  .exact⟨p,hs.symm.subset (mem_cons_of_mem _ (mem_cons_of_mem _ Mt)),rfl⟩)
 have eJ:yB (dB F d j) val V:=λp hp=>hd _ _ (ha p hp);obtain⟨cs,s1,s2⟩:=h.sp;rw[nil_append]at s1;have hxc:x∈cs:=s1.subset (hp.symm.subset (by simp));obtain⟨i,hi,q1,q2,cs',b1,b2,b3,R,b4,b5⟩:=rN s2 hxc;have OT:(V.ow.getD i ay).k=4:=by
  apply Classical.byContradiction;intro aH;obtain⟨y,hy,hyk⟩:=b3 aH;have hyx:x=y:=by
   have:x∈[y]:=(by rw[<-hy];simp);exact mem_singleton.1 this
  rw[<-hyx,hx]at hyk;exact hyk hk
 have hR:(iQ F.ow j).Perm (q1++q2++cs'):=by
  have h9:(x::iQ F.ow j).Perm (x::(q1++q2++cs')):=hp.symm.trans (s1.trans (b1.trans (by
   rw[append_assoc,cons_append,append_assoc];exact perm_middle)))
  exact h9.cons_inv
 refine⟨⟨h.cl,λp hp _ _=>eJ p hp,⟨_,(by rw[nil_append]),cN b4.symm ⟨q1++⟨4,x.l,d⟩::⟨4,d,x.r⟩::q2,cs',?_,Ah b2,λaH=>absurd OT aH,b5⟩⟩,h.nm⟩,eJ⟩;refine hs.trans (((hR.cons _).cons _).trans ?_);rw[append_assoc,append_assoc];have e1:((⟨4,x.l,d⟩:Pr)::⟨4,d,x.r⟩::(q1++(q2++cs'))).Perm (q1++(⟨4,x.l,d⟩::⟨4,d,x.r⟩::(q2++cs'))):=(perm_append_comm_assoc [(⟨4,x.l,d⟩:Pr),⟨4,d,x.r⟩] q1 (q2++cs'));exact e1
theorem cX.midA(hF:aj F)(nF:fH F)(hV:aj V)(h0:r 0=0)(h:cX r w F val [] V)(hL:Hd V){c:Nat}{x:Pr}(hxc:x.l=val c){i:Nat}(hi:i<V.ow.length){q1 q2 cs' R:List Pr}(b1:F.ow.Perm ((q1++x::q2)++cs'))(b2:lY (q1++x::q2) (val (V.ow.getD i ay).l) (val (V.ow.getD i ay).r))(b3:(V.ow.getD i ay).k≠4->∃y,q1++x::q2=[y]/\y.k≠4)(b4:V.ow.Perm (V.ow.getD i ay::R))(b5:mr val R cs'):
  ∃V'∈eM V c i,cX r w F val [] V'/\(V'=fY V c i\/V'=dB V c i):=by
 have ha:=h.apa hL;obtain⟨P,hP⟩:∃P,P=V.ow.getD i ay:=⟨_,rfl⟩;rw[<-hP]at b2 b3 b4;have hoP:owA V i=P:=hP.symm;cases q1 with
 |nil =>
  have e:val P.l=val c:=by
   rw[nil_append]at b2;obtain⟨y,t,hy,hyl⟩:=lZ b2;injection hy with US EJ;rw[<-hxc,US,hyl]
  have hd:aV V c P.l=false:=by
   cases Cn:aV V c P.l with
   |false=>rfl
   |true =>
    have:=h.dif hF.lf nF.ow h0 hV.lf hL Cn;exact absurd e.symm (bZ.1 this).1
  refine⟨fY V c i,?_,?_,zq0 rfl⟩
  .unfold eM;rw[hoP,if_neg (by rw[hd];simp)];simp
  .unfold fY;rw[hoP];exact h.joV hV.c5 ha e
 |cons y q1 =>
  have OT:P.k=4:=by
   apply Classical.byContradiction;intro aH;obtain⟨z,hz,-⟩:=b3 aH;have:=congrArg List.length hz;simp at this
  refine⟨dB V c i,?_,?_,zq1 rfl⟩
  .unfold eM;rw[hoP,if_pos OT];simp
  .have hcut:∀{q1:List Pr} {y:Pr} {a:Nat},lY (y::q1++x::q2) a (val P.r)->lY (y::q1) a x.l/\lY (x::q2) x.l (val P.r):=by
    intro q1;induction q1 with
    |nil =>
     intro y a hc;have hc:y.l=a/\lY (x::q2) y.r (val P.r):=hc;obtain⟨x',t,tp,pU⟩:=lZ hc.2;injection tp with tp _;rw[<-tp]at pU;exact⟨⟨hc.1,pU.symm⟩,by rw[pU];exact hc.2⟩
    |cons y' q1 ih =>
     intro y a hc;have hc:y.l=a/\lY (y'::q1++x::q2) y.r (val P.r):=hc;obtain⟨g1,g2⟩:=ih hc.2;exact⟨⟨hc.1,g1⟩,g2⟩
   obtain⟨g1,g2⟩:=hcut b2;rw[hxc]at g1 g2;have hs:(dB V c i).ow.Perm (⟨4,P.l,c⟩::⟨4,c,P.r⟩::R):=by
    show(V.ow.set i (⟨(owA V i).k,(owA V i).l,c⟩:Pr)++[(⟨4,c,(owA V i).r⟩:Pr)]).Perm _;rw[hoP,OT];have hR:(iQ V.ow i).Perm R:=by
     have h9:=cU hi;rw[<-hP]at h9;exact(h9.symm.trans b4).cons_inv
    exact(((perm_append_comm (l₂:=[(⟨4,c,P.r⟩:Pr)])).trans ((iW hi (⟨4,P.l,c⟩:Pr)).cons _)).trans (List.Perm.swap _ _ _)).trans ((hR.cons _).cons _)
   refine⟨h.cl,λp hp _ _=>ha p hp,⟨(y::q1++x::q2)++cs',by rw[nil_append];exact b1,cN hs.symm ⟨y::q1,(x::q2)++cs',?_,g1,λaH=>absurd rfl aH,x::q2,cs',List.Perm.refl _,g2,λaH=>absurd rfl aH,b5⟩⟩,h.nm⟩;rw[append_assoc]
theorem cX.mid(hF:aj F)(nF:fH F)(hV:aj V)(h0:r 0=0)(h:cX r w F val [] V)(hL:Hd V){c:Nat}{x:Pr}(hx:x∈F.ow)(hxc:x.l=val c):
  ∃i,i<V.ow.length/\∃V'∈eM V c i,cX r w F val [] V'/\(V'=fY V c i\/V'=dB V c i):=by
 obtain⟨cs,s1,s2⟩:=h.sp;rw[nil_append]at s1;obtain⟨i,hi,q1,q2,cs',b1,b2,b3,R,b4,b5⟩:=rN s2 (s1.subset hx);exact⟨i,hi,h.midA hF nF hV h0 hL hxc hi (s1.trans b1) b2 b3 b4 b5⟩
end
theorem CT(v:Nat):∀(gs:List CF) (r:List CF × Bool),gs.foldl (λr g=>Cf r g (g.cl.getD (1+v) 0)) r=(r.1++gs.flatMap (λg=>(gU g (g.cl.getD (1+v) 0)).1),r.2||gs.any (λg=>(gU g (g.cl.getD (1+v) 0)).2))
 |[],r=>by simp
 |g::gs,r=>by
  rw[foldl_cons,CT v gs];simp[Cf,append_assoc,Bool.or_assoc]
theorem DM(f:CF)(v:Nat):∀(is:List Nat) (r:List CF × Bool),is.foldl (λr i=>uB f v i r) r=(r.1++is.flatMap (λi=>(eM f (f.cl.getD (1+v) 0) i).flatMap (λg=>(gU g (g.cl.getD (1+v) 0)).1)),r.2||is.any (λi=>(eM f (f.cl.getD (1+v) 0) i).any (λg=>(gU g (g.cl.getD (1+v) 0)).2)))
 |[],r=>by simp
 |i::is,r=>by
  rw[foldl_cons,DM f v is];unfold uB;rw[CT];simp[append_assoc,Bool.or_assoc]
section
variable {r:Nat->Nat} {w:Nat} {F V f:CF} {val:Nat->Nat} {v v' i c:Nat}
theorem rf(h1:f.cl.getD (1+v) 0≠f.cl.getD 0 0)(h2:cD f.ow (f.cl.getD (1+v) 0)=none):
  (∀x,x∈(cZ f v).1↔∃i,i<f.ow.length/\∃g∈eM f (f.cl.getD (1+v) 0) i,x∈(gU g (g.cl.getD (1+v) 0)).1)/\(cZ f v).2.1=!aV f (f.cl.getD (1+v) 0) (f.cl.getD 0 0)/\(cZ f v).2.2.1=true /\
  ((cZ f v).2.2.2=false->∀i,i<f.ow.length->∀g∈eM f (f.cl.getD (1+v) 0) i,(gU g (g.cl.getD (1+v) 0)).2=false):=by
 have e:cZ f v=(((range f.ow.length).foldl (λr i=>uB f v i r) ([],false)).1,!aV f (f.cl.getD (1+v) 0) (f.cl.getD 0 0),true,((range f.ow.length).foldl (λr i=>uB f v i r) ([],false)).2):=by
  unfold cZ;rw[if_neg h1,if_neg (by rw[h2];simp)]
 rw[e,DM];refine⟨λx=>?_,rfl,rfl,λhf i hi g hg=>?_⟩
 .simp only[nil_append,mem_flatMap,mem_range]
 .have hf:(false||(range f.ow.length).any (λi=>(eM f (f.cl.getD (1+v) 0) i).any (λg=>(gU g (g.cl.getD (1+v) 0)).2)))=false:=hf;rw[Bool.false_or,any_eq_false]at hf;have h3:=hf i (by simpa using hi);rw[Bool.not_eq_true,any_eq_false]at h3;have:=h3 g hg;simpa using this
theorem Qh(hf:aj f)(kf:Kd f)(hL:Hd f)(hi:i<f.ow.length)(hv:v<4)(hc:c=f.cl.getD (1+v) 0)(hb:cD f.ow c=none){g:CF}(hg:g∈eM f c i):
  aj g/\Kd g/\Hd g/\(∃j,cD g.ow (g.cl.getD (1+v) 0)=some j)/\(fH f->c≠f.cl.getD 0 0->fH g):=by
 have hm:owA f i∈f.ow:=aY hi;have aH:(owA f i).l≠c:=λe=>by
  obtain⟨j,hj,-⟩:=pL hf.lf hm;rw[e,hb]at hj;cases hj
 have nV:∀{g:CF} {d:Nat} {x:Pr},lO g.ow->x∈g.ow->x.l=d->∃j,cD g.ow d=some j:=λhl hx e=>by
  obtain⟨j,hj,-⟩:=pL hl hx;exact⟨j,by rw[<-e];exact hj⟩
 unfold eM at hg;rcases mem_append.1 hg with hg|hg
 .split at hg
  .simp at hg
  .rename_i hd;have hd:aV f c (owA f i).l=false:=(by simpa using hd);rw[mem_singleton.1 hg];have dT:(fY f c i).cl.getD (1+v) 0=(owA f i).l:=by
    unfold fY;rw[gL hf.c5 (by omega),<-hc];unfold cM;rw[if_pos rfl]
   have it:∀{d:Nat},d∈bL f->cM (owA f i).l c d∈bL (fY f c i):=fun {d} h=>by
    rcases tt h with⟨k,hk,rfl⟩|⟨p,hp,h⟩
    .have:=qa (f:=fY f c i) hk;unfold fY at this ⊢;rw[gL hf.c5 hk]at this;exact this
    .have hq:mj (owA f i).l c p∈(fY f c i).ow:=mem_map.2 ⟨p,hp,rfl⟩;rcases h with rfl|rfl
     .exact(dd hq).1
     .exact(dd hq).2
   refine⟨hf.m1 hd,kf.jo,λp hp=>?_,?_,λhn h0=>?_⟩
   .obtain⟨q,hq,rfl⟩:=mem_map.1 (show p∈f.ap.map (mj (owA f i).l c) from hp);exact⟨it (hL q hq).1,it (hL q hq).2⟩
   .rw[dT];refine nV (hf.m1 hd).lf (x:=mj (owA f i).l c (owA f i)) (mem_map.2 ⟨_,hm,rfl⟩) ?_;show cM (owA f i).l c (owA f i).l=_;unfold cM;rw[if_neg aH]
   .refine hn.jo hf.c5 ?_;cases Cn:aV f (owA f i).l c with
    |false=>rfl
    |true=>rw[iC Cn]at hd;cases hd
 .split at hg
  .rename_i hk;rw[mem_singleton.1 hg];have hs:(dB f c i).ow.Perm (⟨4,(owA f i).l,c⟩::⟨4,c,(owA f i).r⟩::iQ f.ow i):=by
    show(f.ow.set i (⟨(owA f i).k,(owA f i).l,c⟩:Pr)++[(⟨4,c,(owA f i).r⟩:Pr)]).Perm _;rw[hk];exact((perm_append_comm (l₂:=[(⟨4,c,(owA f i).r⟩:Pr)])).trans ((iW hi (⟨4,(owA f i).l,c⟩:Pr)).cons _)).trans (List.Perm.swap _ _ _)
   have gW:∀p∈(dB f c i).ow,p=⟨4,(owA f i).l,c⟩\/p=⟨4,c,(owA f i).r⟩\/p∈f.ow:=λp hp=>by
    rcases mem_cons.1 (hs.subset hp) with h|h
    .exact zq0 h
    .rcases mem_cons.1 h with h|h
     .exact zq1 (zq0 h)
     .exact zq1 (zq1 (nM h))
   have m1:(⟨4,(owA f i).l,c⟩:Pr)∈(dB f c i).ow:=hs.symm.subset (by simp);have m2:(⟨4,c,(owA f i).r⟩:Pr)∈(dB f c i).ow:=hs.symm.subset (by simp);have fj:aj (dB f c i):=hf.m2 (by rw[hc];exact hf.get _) hb;refine⟨fj,λp hp=>?_,λp hp=>?_,?_,λhn h0=>⟨hn.ap,λp hp=>?_⟩⟩
   .rcases gW p hp with rfl|rfl|h
    .exact zq1 rfl
    .exact zq1 rfl
    .exact kf p h
   .have hp:p∈f.ap:=hp;have hmv:∀{d:Nat},d∈bL f->d∈bL (dB f c i):=fun {d} h=>Bi (f:=f) (g:=dB f c i) rfl (λq hq=>by
     rcases mem_cons.1 ((cU hi).subset hq) with h|h
     .rw[h];exact⟨(dd m1).1,(dd m2).2⟩
     .exact dd (hs.symm.subset (mem_cons_of_mem _ (mem_cons_of_mem _ h)))) h
    exact⟨hmv (hL p hp).1,hmv (hL p hp).2⟩
   .have e:(dB f c i).cl.getD (1+v) 0=c:=hc.symm;rw[e];exact nV fj.lf m2 rfl
   .have e:(dB f c i).cl.getD 0 0=f.cl.getD 0 0:=rfl;rw[e];rcases gW p hp with rfl|rfl|h
    .exact hn.ow (owA f i) hm
    .exact h0
    .exact hn.ow p h
  .simp at hg
end
section
variable {r:Nat->Nat} {w:Nat} {F V:CF} {val:Nat->Nat} {v v':Nat}
def OpR(r:Nat->Nat)(w v v':Nat)(F' V':CF):Prop:=∃val' u cr Vr c,Sl r w F' val' [] V' c u cr Vr/\yB F' val' V'/\c=V'.cl.getD (1+v) 0/\val' c=F'.cl.getD (1+v') 0/\fH F'
theorem cX.opM(hr:RnV r w)(hF:aj F)(kF:Kd F)(nF:fH F)(hV:aj V)(kV:Kd V)(hL:Hd V)(h:cX r w F val [] V)(hv:WQ r w v v')(h1:V.cl.getD (1+v) 0≠V.cl.getD 0 0)(h2:cD V.ow (V.cl.getD (1+v) 0)=none)(c3:(cZ V v).2.2.2=false){j:Nat}(hb:cD F.ow (F.cl.getD (1+v') 0)=some j):
  ∀F'∈(gU F (F.cl.getD (1+v') 0)).1,∃V'∈(cZ V v).1,OpR r w v v' F' V':=by
 intro F' lj;obtain⟨t1,-,-,t4⟩:=rf h1 h2;have Mi:val (V.cl.getD (1+v) 0)=F.cl.getD (1+v') 0:=by rw[h.cl _ (by have:=hv.hv;omega),<-hv.e]
 obtain⟨hj,fT⟩:=pJ hb;obtain⟨i,hi,V1,hV1,e1,-⟩:=h.mid hF nF hV hr.h0 hL (c:=V.cl.getD (1+v) 0) (aY hj) (by rw[Mi];exact fT);obtain⟨o1,o2,o3,⟨k,o4⟩,-⟩:=Qh hV kV hL hi hv.hv rfl h2 hV1;have AB:val (V1.cl.getD (1+v) 0)=F.cl.getD (1+v') 0:=by rw[e1.cl _ (by have:=hv.hv;omega),<-hv.e]
 obtain⟨-,ho⟩:=e1.opn hF kF o1 o2 o3 o4 (t4 c3 i hi V1 hV1);rw[AB]at ho;obtain⟨V',KK,val',u,cr,Vr,p1,p2,p3,p4⟩:=ho F' lj;exact⟨V',(t1 V').2 ⟨i,hi,V1,hV1,KK⟩,val',u,cr,Vr,_,p1,p1.em.apa (Ok o3 KK),by rw[p4],by rw[p2,p3],nF.fi lj⟩
theorem cX.opA(hr:RnV r w)(hF:aj F)(kF:Kd F)(nF:fH F)(lF:Hd F)(hV:aj V)(kV:Kd V)(hL:Hd V)(h:cX r w F val [] V)(hv:WQ r w v v')(c3:(cZ V v).2.2.2=false):
  ((cZ F v').2.1=true->(cZ V v).2.1=true)/\((cZ F v').2.2.1=true->(cZ V v).2.2.1=true)/\∀F'∈(cZ F v').1,∃V'∈(cZ V v).1,OpR r w v v' F' V':=by
 have Mi:val (V.cl.getD (1+v) 0)=F.cl.getD (1+v') 0:=by rw[h.cl _ (by have:=hv.hv;omega),<-hv.e]
 have c0:val (V.cl.getD 0 0)=F.cl.getD 0 0:=by rw[h.cl 0 (by omega),hr.h0]
 by_cases e1:V.cl.getD (1+v) 0=V.cl.getD 0 0
 .have eF:F.cl.getD (1+v') 0=F.cl.getD 0 0:=by rw[<-Mi,e1,c0]
  have oV:cZ V v=([],true,false,false):=by unfold cZ;rw[if_pos e1]
  have oF:cZ F v'=([],true,false,false):=by unfold cZ;rw[if_pos eF]
  rw[oV,oF];exact⟨λh=>h,λh=>h,λF' lj=>by simp at lj⟩
 .cases e2:cD V.ow (V.cl.getD (1+v) 0) with
  |some i =>
   have oV:cZ V v=((gU V (V.cl.getD (1+v) 0)).1,false,false,(gU V (V.cl.getD (1+v) 0)).2):=(by unfold cZ;rw[if_neg e1,if_pos (by rw[e2];rfl)]);obtain⟨q1,q2,q3⟩:=h.op hF kF nF hV kV hL hv (by rw[oV]) (by rw[oV]) c3;refine⟨λh=>(by rw[q1]at h;cases h),λh=>(by rw[q2]at h;cases h),λF' lj=>?_⟩;obtain⟨V',KK,val',u,cr,Vr,c,p1,p2,p3,p4,p5,-⟩:=q3 F' lj;exact⟨V',KK,val',u,cr,Vr,c,p1,p2,p3,p4,p5⟩
  |none =>
   obtain⟨t1,t2,t3,t4⟩:=rf e1 e2;refine⟨λhn=>?_,λ_=>t3,?_⟩
   .rw[t2];cases hd:aV V (V.cl.getD (1+v) 0) (V.cl.getD 0 0) with
    |false=>rfl
    |true =>
     have hdF:=h.dif hF.lf nF.ow hr.h0 hV.lf hL hd;rw[Mi,c0]at hdF;exfalso;have aH:=(bZ.1 hdF).1;by_cases e3:(cD F.ow (F.cl.getD (1+v') 0)).isSome=true
     .unfold cZ at hn;rw[if_neg aH,if_pos e3]at hn;cases hn
     .unfold cZ at hn;rw[if_neg aH,if_neg e3]at hn;have hn:(!aV F (F.cl.getD (1+v') 0) (F.cl.getD 0 0))=true:=hn;rw[hdF]at hn;cases hn
   .by_cases eF:F.cl.getD (1+v') 0=F.cl.getD 0 0
    .have oF:cZ F v'=([],true,false,false):=(by unfold cZ;rw[if_pos eF]);rw[oF];exact λF' lj=>by simp at lj
    .cases e3:cD F.ow (F.cl.getD (1+v') 0) with
     |some j =>
      have oF:cZ F v'=((gU F (F.cl.getD (1+v') 0)).1,false,false,(gU F (F.cl.getD (1+v') 0)).2):=(by unfold cZ;rw[if_neg eF,if_pos (by rw[e3];rfl)]);rw[oF];exact h.opM hr hF kF nF hV kV hL hv e1 e2 c3 e3
     |none =>
      obtain⟨u1,-,-,-⟩:=rf eF e3;intro F' lj;obtain⟨j,hj,F1,gf,lj⟩:=(u1 F').1 lj;obtain⟨o1,o2,o3,⟨k,o4⟩,o5⟩:=Qh hF kF lF hj hv.hv' rfl e3 gf;have nF1:=o5 nF eF;have key:∃val1,cX r w F1 val1 [] V:=by
       unfold eM at gf;rcases mem_append.1 gf with gf|gf
       .split at gf
        .simp at gf
        .rename_i hd;have hd:aV F (F.cl.getD (1+v') 0) (owA F j).l=false:=(by simpa using hd);have hd':aV F (owA F j).l (F.cl.getD (1+v') 0)=false:=by
          cases Cn:aV F (owA F j).l (F.cl.getD (1+v') 0) with
          |false=>rfl
          |true=>rw[iC Cn]at hd;cases hd
         rw[mem_singleton.1 gf];exact⟨_,(h.joF1 hr.lt hr.w hF.c5 (h.apa hL) hd').1⟩
       .split at gf
        .rename_i hk;rw[mem_singleton.1 gf];exact⟨_,(h.me2F hF (h.apa hL) hj hk).1⟩
        .simp at gf
      obtain⟨val1,h1⟩:=key;exact h1.opM hr o1 o2 nF1 hV kV hL hv e1 e2 c3 o4 F' lj
end
section
variable {r:Nat->Nat} {w:Nat} {F V:CF} {nd nd':Nd}
def Cz(r:Nat->Nat)(w:Nat)(F V:CF):Prop:=∃val,cX r w F val [] V
theorem cX.emn{val:Nat->Nat}(hr:RnV r w)(hF:aj F)(hV:aj V)(h:cX r w F val [] V):Cz r w (aQ F) (aQ V):=by
 obtain⟨v2,h2⟩:=h.tdV hV;exact⟨_,h2.tdF' hr.lt hr.w hF⟩
theorem TM(hr:RnV r w)(hF:aj F)(kF:js F)(hV:aj V)(kV:js V)(hN:NdR r w nd nd')(hv:nd.v<4)(ha:nd.ai<4)(hv':nd'.v<4)(Iz:nd'.ai<4)(h:Cz r w F V)(cfu:(cj nd V).fu=false):
  ((cj nd' F).nu=true->(cj nd V).nu=true)/\((cj nd' F).da=true->(cj nd V).da=true)/\(∀x∈(cj nd' F).nx,∃y∈(cj nd V).nx,Cz r w x y)/\∀x∈(cj nd' F).ot,∃y∈(cj nd V).ot,Cz r w x y:=by
 obtain⟨val,h⟩:=h;have eJ:yB F val V:=h.apa kV.l;have c0:val (V.cl.getD 0 0)=F.cl.getD 0 0:=by rw[h.cl 0 (by omega),hr.h0]
 have IB:∀{F V:CF} {val:Nat->Nat} {X:List Pr},cX r w F val X V->(nd.op=1\/nd.op=3\/nd.op=8\/nd.op=9)->val (clT V nd.ak nd.ai)=clT F nd'.ak nd'.ai:=λh9 ho=>by
  rw[hN.ak ho];exact h9.clT hr.h0 (λhk=>⟨(hN.ai (zq1 ⟨ho,hk⟩)).e,ha⟩)
 have qO:Cz r w (aQ F) (aQ V):=h.emn hr hF hV;have opn:∀{v v':Nat} {G G':CF->CF},WQ r w v v'->(cZ V v).2.2.2=false ->
   (∀{F V:CF} {val:Nat->Nat} {u c:Nat} {cr Vr:List Pr} {j j':Nat},aj F->aj V->fH F->Sl r w F val [] V c u cr Vr->yB F val V->c=V.cl.getD (1+v) 0->val c=F.cl.getD (1+v') 0->cD V.ow c=some j->cD F.ow (val c)=some j'->aj (G' F)/\aj (G V)/\cX r w (G' F) val [] (G V)) ->
   ((cZ F v').2.1=true->(cZ V v).2.1=true)/\((cZ F v').2.2.1=true->(cZ V v).2.2.1=true)/\∀x∈(cZ F v').1.map (λx=>aQ (G' x)),∃y∈(cZ V v).1.map (λx=>aQ (G x)),Cz r w x y:=by
  intro v v' G G' PP g3 hG;obtain⟨q1,q2,q3⟩:=h.opA hr hF kF.k kF.n kF.l hV kV.k kV.l PP g3;refine⟨q1,q2,λx hx=>?_⟩;obtain⟨F',lj,rfl⟩:=mem_map.1 hx;obtain⟨V',KK,val',u,cr,Vr,c,o1,o2,o3,o4,o5⟩:=q3 F' lj;have kF':=jV (N:=F.ap.length) PP.hv' hF (zq4 _) _ lj;have kV':=jV (N:=V.ap.length) PP.hv hV (zq4 _) _ KK;obtain⟨j,hj⟩:=Option.isSome_iff_exists.1 kV'.bg;obtain⟨j',Xy⟩:=Option.isSome_iff_exists.1 kF'.bg;rw[<-o3]at hj;rw[<-o4]at Xy;obtain⟨a1,a2,a3⟩:=hG kF'.ok kV'.ok o5 o1 o2 o3 o4 hj Xy;exact⟨_,mem_map.2 ⟨V',KK,rfl⟩,a3.emn hr a1 a2⟩
 have oT:(nd.op=8\/nd.op=9)->(∀x∈(mt F nd').1,∃y∈(mt V nd).1,Cz r w x y)/\∀x∈(mt F nd').2,∃y∈(mt V nd).2,Cz r w x y:=λho=>by
  have PP:=hN.v (by rcases ho with h|h <;> simp[h]);have ea:val (V.cl.getD (1+nd.v) 0)=F.cl.getD (1+nd'.v) 0:=by rw[h.cl _ (by omega),<-PP.e]
  have eb:=IB h (by rcases ho with h|h <;> simp[h]);unfold mt;simp only;rw[<-ea,<-eb];refine⟨λx hx=>?_,λx hx=>?_⟩
  .split at hx
   .simp at hx
   .rename_i hd;have hd:aV F (val (V.cl.getD (1+nd.v) 0)) (val (clT V nd.ak nd.ai))=false:=(by simpa using hd);have hd':aV V (V.cl.getD (1+nd.v) 0) (clT V nd.ak nd.ai)=false:=by
     cases e:aV V (V.cl.getD (1+nd.v) 0) (clT V nd.ak nd.ai) with
     |false=>rfl
     |true=>rw[h.dif hF.lf kF.n.ow hr.h0 hV.lf kV.l e]at hd;cases hd
    rw[if_neg (by rw[hd'];simp)];rw[mem_singleton.1 hx];refine⟨_,mem_singleton.2 rfl,(h.jo hr.lt hr.w hF.c5 hV.c5 eJ hd).emn hr ?_ (hV.jo (hV.get _) (im hd'))⟩;exact hF.jo (by rw[ea];exact hF.get _) (im hd)
  .split at hx
   .simp at hx
   .rename_i aH;rw[if_neg (λe=>aH (by rw[e]))];rw[mem_singleton.1 hx];refine⟨_,mem_singleton.2 rfl,(h.pa eJ aH).emn hr ?_ (hV.pa (hV.get _) (hV.cT _ _))⟩;exact hF.pa (by rw[ea];exact hF.get _) (by rw[eb];exact hF.cT _ _)
 unfold cj at cfu ⊢;rw[hN.op];by_cases o0:nd.op=0
 .rw[if_pos o0,if_pos o0];exact⟨λh=>h,λh=>h,by simp[wJ],by simp[wJ]⟩
 rw[if_neg o0]at cfu ⊢;rw[if_neg o0];by_cases o1:nd.op=1
 .rw[if_pos o1,if_pos o1];have ec:=IB h (zq0 o1);refine⟨λh=>h,λh=>h,λx hx=>⟨_,mem_singleton.2 rfl,?_⟩,by simp⟩;rw[mem_singleton.1 hx,<-ec];exact(h.setC hF.c5 hV.c5 eJ (hN.v (zq0 o1)) _).1.emn hr (hF.sC _ (by rw[ec];exact hF.cT _ _)) (hV.sC _ (hV.cT _ _))
 rw[if_neg o1]at cfu ⊢;rw[if_neg o1];by_cases o2:nd.op=2
 .rw[if_pos o2]at cfu ⊢;rw[if_pos o2];have PP:=hN.v (zq1 (zq0 o2));obtain⟨q1,q2,q3⟩:=opn (G:=λg=>fq g nd) (G':=λg=>fq g nd') (hN.ai (zq0 o2)) cfu (by
   intro F V val u c cr Vr j j' hF hV nF ho eJ hc KP hj Xy;obtain⟨i,a1,-,a3,-⟩:=nB hV.lf ho.vo;obtain⟨i',b1,-,b3,-⟩:=nB hF.lf ho.fo';have e1:fq V nd=setC V (1+nd.v) u:=(by unfold fq;rw[<-hc,pI a1];show setC V _ (V.ow.getD i ay).r=_;rw[a3]);have e2:fq F nd'=setC F (1+nd'.v) (val u):=(by unfold fq;rw[<-KP,pI b1];show setC F _ (F.ow.getD i' ay).r=_;rw[b3]);refine⟨by unfold fq;exact hF.sC _ (hF.oA _).2,by unfold fq;exact hV.sC _ (hV.oA _).2,?_⟩;show cX r w (fq F nd') val [] (fq V nd);rw[e1,e2];exact(ho.em.setC hF.c5 hV.c5 eJ PP u).1)
  exact⟨q1,q2,q3,by simp[bQ]⟩
 rw[if_neg o2]at cfu ⊢;rw[if_neg o2];by_cases o3:nd.op=3
 .rw[if_pos o3]at cfu ⊢;rw[if_pos o3];obtain⟨q1,q2,q3⟩:=opn (G:=λg=>nk g nd) (G':=λg=>nk g nd') (hN.v (by simp[o3])) cfu (by
   intro F V val u c cr Vr j j' hF hV nF ho eJ hc KP hj Xy;obtain⟨i,a1,-,a3,-⟩:=nB hV.lf ho.vo;obtain⟨i',b1,-,b3,-⟩:=nB hF.lf ho.fo';have ec:=IB ho.em (zq1 (zq0 o3));have e1:nk V nd=setO V i ⟨3,c,clT V nd.ak nd.ai⟩:=(by unfold nk;simp only;rw[<-hc,pI a1];show setO V i ⟨(V.ow.getD i ay).k,(V.ow.getD i ay).l,_⟩=_;rw[a3]);have e2:nk F nd'=setO F i' ⟨3,val c,val (clT V nd.ak nd.ai)⟩:=(by unfold nk;simp only;rw[<-KP,pI b1,<-ec];show setO F i' ⟨(F.ow.getD i' ay).k,(F.ow.getD i' ay).l,_⟩=_;rw[b3]);refine⟨by unfold nk;exact hF.sO (λ_=>rfl) (hF.cT _ _) (hF.oA _).1,by unfold nk;exact hV.sO (λ_=>rfl) (hV.cT _ _) (hV.oA _).1,?_⟩;show cX r w (nk F nd') val [] (nk V nd);rw[e1,e2];exact ho.li hF hV eJ a1 b1)
  exact⟨q1,q2,q3,by simp[bQ]⟩
 rw[if_neg o3]at cfu ⊢;rw[if_neg o3];by_cases o4:nd.op=4
 .rw[if_pos o4]at cfu ⊢;rw[if_pos o4];by_cases hn:24<=aw V
  .rw[if_pos hn]at cfu;cases cfu
  .rw[if_neg hn];by_cases hn':24<=aw F
   .rw[if_pos hn'];exact⟨λh=>h,λh=>h,by simp,by simp⟩
   .rw[if_neg hn'];refine⟨λh=>h,λh=>h,λx hx=>⟨_,mem_singleton.2 rfl,?_⟩,by simp⟩;rw[mem_singleton.1 hx];obtain⟨val',hc⟩:=h.cr hr.h0 hF.c5 hV.c5 eJ (hN.v (by simp[o4]));exact hc.emn hr (rQ hF (by omega)) (rQ hV (by omega))
 rw[if_neg o4]at cfu ⊢;rw[if_neg o4];by_cases o5:nd.op=5
 .rw[if_pos o5]at cfu ⊢;rw[if_pos o5];obtain⟨q1,q2,q3⟩:=opn (G:=λg=>l8 g nd.v) (G':=λg=>l8 g nd'.v) (hN.v (by simp[o5])) cfu (by
   intro F V val u c cr Vr j j' hF hV nF ho eJ hc KP hj Xy;refine⟨(rY (N:=F.ap.length) ⟨hF,zq4 _,by rw[<-KP,Xy];rfl⟩).1,(rY (N:=V.ap.length) ⟨hV,zq4 _,by rw[<-hc,hj];rfl⟩).1,ho.fr hr.h0 hF hV nF eJ hc KP⟩)
  exact⟨q1,q2,q3,by simp[bQ]⟩
 rw[if_neg o5,if_neg o5];by_cases o7:nd.op=7
 .rw[if_pos o7,if_pos o7];exact⟨λh=>h,λh=>h,λx hx=>⟨_,mem_singleton.2 rfl,by rw[mem_singleton.1 hx];exact qO⟩,λx hx=>⟨_,mem_singleton.2 rfl,by rw[mem_singleton.1 hx];exact qO⟩⟩
 rw[if_neg o7,if_neg o7];by_cases o8:nd.op=8
 .rw[if_pos o8,if_pos o8];exact⟨λh=>h,λh=>h,oT (zq0 o8)⟩
 rw[if_neg o8,if_neg o8];by_cases o9:nd.op=9
 .rw[if_pos o9,if_pos o9];exact⟨λh=>h,λh=>h,(oT (zq1 o9)).2,(oT (zq1 o9)).1⟩
 rw[if_neg o9,if_neg o9];exact⟨λh=>h,λh=>h,λx hx=>⟨_,mem_singleton.2 rfl,by rw[mem_singleton.1 hx];exact qO⟩,by simp⟩
end
section
variable {f g:CF}
theorem ahi(hk:aj f)(h:js f){w:Nat}(hw:w<4):∀y∈(cZ f w).1,Kd y/\fH y:=by
 intro y hy;by_cases e0:f.cl.getD (1+w) 0=f.cl.getD 0 0
 .unfold cZ at hy;rw[if_pos e0]at hy;simp at hy
 .cases eb:cD f.ow (f.cl.getD (1+w) 0) with
  |some i =>
   unfold cZ at hy;rw[if_neg e0,if_pos (by rw[eb];rfl)]at hy;exact⟨(vH hy).2.2.2 h.k,h.n.fi hy⟩
  |none =>
   obtain⟨i,hi,x,hx,hy⟩:=((rf e0 eb).1 y).1 hy;obtain⟨-,o2,-,-,o5⟩:=Qh hk h.k h.l hi hw rfl eb hx;exact⟨(vH hy).2.2.2 o2,(o5 h.n e0).fi hy⟩
theorem AZ{nd:Nd}(hk:aj f)(hv:nd.v<4)(ha:nd.ai<4)(h:js f):(∀x∈(cj nd f).nx,js x)/\∀x∈(cj nd f).ot,js x:=by
 have hR:∀x,aj x->Kd x->fH x->js (aQ x):=λx h1 h2 h3=>⟨h2.td,qb h1,h3.td h1⟩;have opn:∀{w:Nat} {G:CF->CF},w<4->(∀x,aj x->Kd x->fH x->∀j,cD x.ow (x.cl.getD (1+w) 0)=some j->aj (G x)/\Kd (G x)/\fH (G x))->∀x∈(cZ f w).1.map (λx=>aQ (G x)),js x:=by
  intro w G hw hG x hx;obtain⟨y,hy,rfl⟩:=mem_map.1 hx;have EJ:=jV (N:=f.ap.length) hw hk (zq4 _) _ hy;obtain⟨n1,n2⟩:=ahi hk h hw y hy;obtain⟨j,hj⟩:=Option.isSome_iff_exists.1 EJ.bg;obtain⟨k1,k2,k3⟩:=hG y EJ.ok n1 n2 j hj;exact hR _ k1 k2 k3
 have sn:=hR f hk h.k h.n;have oT:(∀x∈(mt f nd).1,js x)/\∀x∈(mt f nd).2,js x:=by
  unfold mt;simp only;refine⟨λx hx=>?_,λx hx=>?_⟩
  .split at hx
   .simp at hx
   .rename_i hd;have hd:aV f (f.cl.getD (1+nd.v) 0) (clT f nd.ak nd.ai)=false:=(by simpa using hd);rw[mem_singleton.1 hx];exact hR _ (hk.jo (hk.get _) (im hd)) h.k.jo (h.n.jo hk.c5 hd)
  .split at hx
   .simp at hx
   .rename_i aH;rw[mem_singleton.1 hx];exact hR _ (hk.pa (hk.get _) (hk.cT _ _)) h.k (h.n.par aH)
 unfold cj;by_cases o0:nd.op=0
 .rw[if_pos o0];exact⟨by simp[wJ],by simp[wJ]⟩
 rw[if_neg o0];by_cases o1:nd.op=1
 .rw[if_pos o1];exact⟨λx hx=>by rw[mem_singleton.1 hx];exact hR _ (hk.sC _ (hk.cT _ _)) h.k (h.n.setC hk.c5 hv),by simp⟩
 rw[if_neg o1];by_cases o2:nd.op=2
 .rw[if_pos o2];exact⟨opn ha (λx k1 k2 k3 j _=>⟨by unfold fq;exact k1.sC _ (k1.oA _).2,k2,by unfold fq;exact k3.setC k1.c5 hv⟩),by simp[bQ]⟩
 rw[if_neg o2];by_cases o3:nd.op=3
 .rw[if_pos o3];exact⟨opn hv (λx k1 k2 k3 j hj=>⟨by unfold nk;exact k1.sO (λ_=>rfl) (k1.cT _ _) (k1.oA _).1,by unfold nk;simp only;rw[pI hj];exact k2.setO (k2 (x.ow.getD j ay) (aY (pJ hj).1)),by unfold nk;simp only;rw[pI hj];exact k3.setO (pJ hj).1 rfl⟩),by simp[bQ]⟩
 rw[if_neg o3];by_cases o4:nd.op=4
 .rw[if_pos o4];split
  .exact⟨by simp,by simp⟩
  .rename_i hn;exact⟨λx hx=>by rw[mem_singleton.1 hx];exact hR _ (rQ hk (by omega)) h.k.cr (h.n.cr hk.c5 hv),by simp⟩
 rw[if_neg o4];by_cases o5:nd.op=5
 .rw[if_pos o5];exact⟨opn hv (λx k1 k2 k3 j hj=>⟨(rY (N:=x.ap.length) ⟨k1,zq4 _,by rw[hj];rfl⟩).1,k2.fr hj,k3.fr k1 hj⟩),by simp[bQ]⟩
 rw[if_neg o5];by_cases o7:nd.op=7
 .rw[if_pos o7];exact⟨λx hx=>by rw[mem_singleton.1 hx];exact sn,λx hx=>by rw[mem_singleton.1 hx];exact sn⟩
 rw[if_neg o7];by_cases o8:nd.op=8
 .rw[if_pos o8];exact oT
 rw[if_neg o8];by_cases o9:nd.op=9
 .rw[if_pos o9];exact⟨oT.2,oT.1⟩
 rw[if_neg o9];exact⟨λx hx=>by rw[mem_singleton.1 hx];exact sn,by simp⟩
end
def dI(f:CF)(c:Nat):Prop:=∀B:Nat->Prop,(∀i,1<=i->i<5->B (f.cl.getD i 0))->(∀p∈f.ow,B p.l->B p.r)->B c
section
variable {w:Nat} {F V f:CF} {val:Nat->Nat} {cs:List Pr}
theorem dI.root{i:Nat}(h1:1<=i)(h5:i<5):dI f (f.cl.getD i 0):=λ_ h _=>h i h1 h5
theorem dI.on{p:Pr}(hp:p∈f.ow)(h:dI f p.l):dI f p.r:=λB h1 h2=>h2 p hp (h B h1 h2)
theorem ez(hk:aj f){c:Nat}:c∈jx f↔dI f c:=by
 have h4:∀c∈[f.cl.getD 1 0,f.cl.getD 2 0,f.cl.getD 3 0,f.cl.getD 4 0],c<24:=λc hc=>by
  simp only[mem_cons,not_mem_nil,or_false]at hc;rcases hc with rfl|rfl|rfl|rfl <;> exact hk.get _
 obtain⟨m1,m2,-⟩:=Bm [f.cl.getD 1 0,f.cl.getD 2 0,f.cl.getD 3 0,f.cl.getD 4 0] h4 ep.nil;obtain⟨a1,a2⟩:=JB (f:=f) (λp hp=>(hk.ow p hp).2) 25 (s:=QT f) m1 (by omega);refine⟨λh B h1 h2=>?_,λh=>h (λc=>c∈jx f) (λi i1 i5=>?_) a2⟩
 .have h0:∀c∈QT f,B c:=by
   intro c hc;rcases Bo _ hc with hc|hc
   .simp at hc
   .simp only[mem_cons,not_mem_nil,or_false]at hc;rcases hc with rfl|rfl|rfl|rfl
    .exact h1 1 (by omega) (by omega)
    .exact h1 2 (by omega) (by omega)
    .exact h1 3 (by omega) (by omega)
    .exact h1 4 (by omega) (by omega)
  exact GB h2 25 h0 _ h
 .have:i=1\/i=2\/i=3\/i=4:=by omega
  rcases this with rfl|rfl|rfl|rfl
  .exact a1 _ (m2 _ (by simp))
  .exact a1 _ (m2 _ (by simp))
  .exact a1 _ (m2 _ (by simp))
  .exact a1 _ (m2 _ (by simp))
theorem fX(hk:aj f){i:Nat}:i∈dc f↔i<f.ow.length/\¬ dI f (owA f i).l:=by
 unfold dc;rw[mem_filter,mem_range,<-ez hk];simp
structure Tp(val:Nat->Nat)(L:List (Pr × List Pr)):Prop where
 ch:∀e∈L,lY e.2 (val e.1.l) (val e.1.r)
 k:∀e∈L,e.1.k≠4->∃x,e.2=[x]/\x.k≠4
theorem qu:∀{l cs:List Pr},mr val l cs->∃L,Tp val L/\L.map (·.1)=l/\cs.Perm (L.flatMap (·.2))
 |[],cs,h=>⟨[],⟨by simp,by simp⟩,rfl,by have h:cs=[]:=h;rw[h];simp⟩
 |p::l,cs,h=>by
  obtain⟨q,c,h1,h2,h3,h4⟩:=h;obtain⟨L,w1,w2,w3⟩:=qu h4;refine⟨(p,q)::L,⟨λe he=>?_,λe he=>?_⟩,by simp[w2],?_⟩
  .rcases mem_cons.1 he with rfl|he
   .exact h2
   .exact w1.ch e he
  .rcases mem_cons.1 he with rfl|he
   .exact h3
   .exact w1.k e he
  .rw[flatMap_cons];exact h1.trans (w3.append_left q)
theorem E0:∀{L:List (Pr × List Pr)},Tp val L->mr val (L.map (·.1)) (L.flatMap (·.2))
 |[],_=>rfl
 |e::L,h=>by
  refine⟨e.2,L.flatMap (·.2),by rw[flatMap_cons],h.ch e (by simp),h.k e (by simp),E0 ⟨λx hx=>h.ch x (by simp[hx]),λx hx=>h.k x (by simp[hx])⟩⟩
theorem vy:∀{q:List Pr} {a e:Nat} {y:Pr},lY q a e->y∈q->y.r=e\/∃z∈q,z.l=y.r
 |[],_,_,_,h,_=>h.elim
 |[x],a,e,y,h,hy=>by
  rw[mem_singleton.1 hy];exact zq0 h.2
 |x::x'::t,a,e,y,h,hy=>by
  have h:x.l=a/\lY (x'::t) x.r e:=h;rcases mem_cons.1 hy with rfl|hy
  .obtain⟨z,u,hz,hzl⟩:=lZ h.2;injection hz with hz _;exact zq1 ⟨x',by simp,by rw[hz];exact hzl⟩
  .rcases vy h.2 hy with h9|⟨z,hz,h9⟩
   .exact zq0 h9
   .exact zq1 ⟨z,by simp[mem_cons.1 hz],h9⟩
theorem BX{L:List (Pr × List Pr)}(hn:lO (L.flatMap (·.2))){e e':Pr × List Pr}(he:e∈L)(Mk:e'∈L){x y:Pr}(hx:x∈e.2)(hy:y∈e'.2)(XM:x.l=y.l):e=e':=by
 induction L with
 |nil=>simp at he
 |cons d L ih =>
  unfold lO at hn;rw[flatMap_cons,map_append]at hn;obtain⟨n1,n2,n3⟩:=nodup_append.1 hn;rcases mem_cons.1 he with h1|h1 <;> rcases mem_cons.1 Mk with h2|h2
  .rw[h1,h2]
  .rw[h1]at hx;exact absurd XM (n3 x.l (mem_map_of_mem (f:=(·.l)) hx) y.l (mem_map_of_mem (f:=(·.l)) (mem_flatMap.2 ⟨e',h2,hy⟩)))
  .rw[h2]at hy;exact absurd XM.symm (n3 y.l (mem_map_of_mem (f:=(·.l)) hy) x.l (mem_map_of_mem (f:=(·.l)) (mem_flatMap.2 ⟨e,h1,hx⟩)))
  .exact ih n2 h1 h2
end
section
variable {w:Nat} {F V:CF} {val:Nat->Nat} {L:List (Pr × List Pr)}
theorem acd(hF:aj F)(hp:F.ow.Perm (L.flatMap (·.2))):lO (L.flatMap (·.2)):=uE hF.lf hp
theorem QV(hc:∀i,i<5->val (V.cl.getD i 0)=F.cl.getD i 0)(hW:Tp val L)(hl:L.map (·.1)=V.ow)(hp:F.ow.Perm (L.flatMap (·.2))){a:Nat}(h:dI V a):dI F (val a):=by
 refine h (λa=>dI F (val a)) (λi i1 i5=>?_) (λp Cs hr=>?_)
 .show dI F (val _);rw[hc i i5];exact dI.root i1 i5
 .rw[<-hl]at Cs;obtain⟨e,he,rfl⟩:=mem_map.1 Cs;exact(Fc (B:=dI F) (λz hz=>dI.on (hp.symm.subset (mem_flatMap.2 ⟨e,he,hz⟩))) (hW.ch e he) hr).2
theorem GC(hc:∀i,i<5->val (V.cl.getD i 0)=F.cl.getD i 0)(hW:Tp val L)(hl:L.map (·.1)=V.ow)(hp:F.ow.Perm (L.flatMap (·.2))){e:Pr × List Pr}(he:e∈L)(h:dI V e.1.l):∀x∈e.2,dI F x.l :=
 (Fc (B:=dI F) (λz hz=>dI.on (hp.symm.subset (mem_flatMap.2 ⟨e,he,hz⟩))) (hW.ch e he) (QV hc hW hl hp h)).1
theorem VK(hF:aj F)(nF:fH F)(hV:aj V)(hc:∀i,i<5->val (V.cl.getD i 0)=F.cl.getD i 0)(hW:Tp val L)(hl:L.map (·.1)=V.ow)(hp:F.ow.Perm (L.flatMap (·.2))):
  (∀e∈L,¬ dI V e.1.l->∀x∈e.2,¬ dI F x.l)\/∃a,dI V a/\a≠V.cl.getD 0 0/\cD V.ow a=none/\∃e∈L,¬ dI V e.1.l/\∃y∈e.2,y.l=val a:=by
 by_cases hd:∃a,dI V a/\a≠V.cl.getD 0 0/\cD V.ow a=none/\∃e∈L,¬ dI V e.1.l/\∃y∈e.2,y.l=val a
 .exact zq1 hd
 left;have AE:=acd hF hp;have key:∀{a:Nat} {e:Pr × List Pr} {y:Pr},dI V a->e∈L->y∈e.2->y.l=val a->dI V e.1.l:=by
  intro a e y ha he hy UT;apply Classical.byContradiction;intro hn;by_cases h0:a=V.cl.getD 0 0
  .exact nF.ow y (hp.symm.subset (mem_flatMap.2 ⟨e,he,hy⟩)) (by rw[UT,h0,hc 0 (by omega)])
  .cases hb:cD V.ow a with
   |none=>exact hd ⟨a,ha,h0,hb,e,he,hn,y,hy,UT⟩
   |some i =>
    obtain⟨hi,um⟩:=pJ hb;have hm:V.ow.getD i ay∈V.ow:=aY hi;rw[<-hl]at hm;obtain⟨e',Mk,e1⟩:=mem_map.1 hm;obtain⟨x,t,hx,SL⟩:=lZ (hW.ch e' Mk);have e2:e'.1.l=a:=(by rw[e1,hl];exact um);have:=BX AE he Mk hy (y:=x) (by rw[hx];simp) (by rw[UT,SL,e2]);rw[this,e2]at hn;exact hn ha
 intro e he hn x hx hr;have hB:dI F x.l->∀e∈L,x∈e.2->dI V e.1.l:=by
  intro hr;have hb:=hr (λd=>(∃a,dI V a/\val a=d)\/∃e∈L,dI V e.1.l/\∃y∈e.2,y.r=d) (λi i1 i5=>zq0 ⟨_,dI.root i1 i5,hc i i5⟩) (λp Cs kZ=>by
   obtain⟨e,he,th⟩:=mem_flatMap.1 (hp.subset Cs);refine zq1 ⟨e,he,?_,p,th,rfl⟩;rcases kZ with⟨a,ha,ko⟩|⟨e',Mk,uq,y,hy,hyr⟩
   .exact key ha he th ko.symm
   .rcases vy (hW.ch e' Mk) hy with h9|⟨z,hz,h9⟩
    .have hre:dI V e'.1.r:=dI.on (by rw[<-hl];exact mem_map.2 ⟨e',Mk,rfl⟩) uq;exact key hre he th (by rw[<-h9,hyr])
    .have:=BX AE he Mk th hz (by rw[h9,hyr]);rw[this];exact uq)
  intro e he tO;rcases hb with⟨a,ha,ko⟩|⟨e',Mk,uq,y,hy,hyr⟩
  .exact key ha he tO ko.symm
  .rcases vy (hW.ch e' Mk) hy with h9|⟨z,hz,h9⟩
   .have hre:dI V e'.1.r:=dI.on (by rw[<-hl];exact mem_map.2 ⟨e',Mk,rfl⟩) uq;exact key hre he tO (by rw[<-h9,hyr])
   .have:=BX AE he Mk tO hz (by rw[h9,hyr]);rw[this];exact uq
 exact hn (hB hr e he hx)
end
def Gj(f:CF):CF:={ f with ow:=f.ow.filter (λp=>decide (p.l∈jx f)) }
def qf(f:CF):CF:=if dc f=[] then f else RV f
theorem BZ(f:CF):RV f=aQ (Gj f):=rfl
section
variable {w:Nat} {F V f:CF} {val:Nat->Nat} {L:List (Pr × List Pr)}
theorem zq(h:aj f):aj (Gj f):=by
 have hs:(Gj f).ow.Sublist f.ow:=filter_sublist;exact aj.mk' h.c5 h.cl' (λp hp=>h.ow p (hs.subset hp)) h.ap (h.lf.sublist (hs.map _)) h.kd
theorem wj(hk:aj f){p:Pr}:p∈(Gj f).ow↔p∈f.ow/\dI f p.l:=by
 show p∈f.ow.filter _↔_;rw[mem_filter,decide_eq_true_iff,ez hk]
theorem Ik{p1:Pr->Bool}{p2:Pr->Bool}:∀{L:List (Pr × List Pr)},(∀e∈L,(p1 e.1=true->∀x∈e.2,p2 x=true)/\(p1 e.1=false->∀x∈e.2,p2 x=false))->(L.flatMap (·.2)).filter p2=(L.filter (λe=>p1 e.1)).flatMap (·.2)
 |[],_=>rfl
 |e::L,h=>by
  obtain⟨h1,h2⟩:=h e (by simp);rw[flatMap_cons,filter_append,Ik (λx hx=>h x (by simp[hx]))];cases hp:p1 e.1 with
  |true=>rw[filter_cons_of_pos (by exact hp),flatMap_cons,filter_eq_self.2 (h1 hp)]
  |false=>rw[filter_cons_of_neg (by rw[hp];simp),filter_eq_nil_iff.2 (λx hx=>by rw[h2 hp x hx];simp),nil_append]
theorem aaR(hF:aj F)(nF:fH F)(hV:aj V)(h:cX (λi=>i) w F val [] V)(hW:Tp val L)(hl:L.map (·.1)=V.ow)(hp:F.ow.Perm (L.flatMap (·.2)))(hg:∀e∈L,¬ dI V e.1.l->∀x∈e.2,¬ dI F x.l):cX (λi=>i) w (Gj F) val [] (Gj V):=by
 have hc:∀i,i<5->val (V.cl.getD i 0)=F.cl.getD i 0:=h.cl;have qK:∀{c:Nat},c∈bL (Gj V)->c∈bL V/\(dI V c\/c=V.cl.getD 0 0):=fun {c} h=>by
  rcases tt h with⟨i,hi,rfl⟩|⟨p,hp,h⟩
  .refine⟨qa (f:=V) hi,?_⟩;by_cases i0:i=0
   .rw[i0];exact zq1 rfl
   .exact zq0 (dI.root (f:=V) (by omega) hi)
  .obtain⟨p1,p2⟩:=(wj hV).1 hp;rcases h with rfl|rfl
   .exact⟨(dd p1).1,zq0 p2⟩
   .exact⟨(dd p1).2,zq0 (dI.on p1 p2)⟩
 have aL:∀{c:Nat},c∈bL (Gj V)->(∃p∈F.ow,p.l=val c)->∃p∈(Gj F).ow,p.l=val c:=fun {c} dT=>by
  rintro⟨p,Cs,kZ⟩;refine⟨p,(wj hF).2 ⟨Cs,?_⟩,kZ⟩;rcases(qK dT).2 with h9|h9
  .rw[kZ];exact QV hc hW hl hp h9
  .exfalso;exact nF.ow p Cs (by rw[kZ,h9,hc 0 (by omega)])
 refine⟨h.cl,λp UI l1 l2=>?_,?_,λx hx=>by simp at hx⟩
 .have hd:=h.ap p UI (qK l1).1 (qK l2).1;obtain⟨d1,d2⟩:=bZ.1 hd;rw[bZ];refine⟨d1,?_⟩;rcases d2 with⟨q,hq,e⟩|d2
  .exact zq0 ⟨q,hq,e⟩
  .right;rw[fQ]at d2 ⊢;rcases d2 with⟨a,b|b⟩|⟨a,b⟩
   .exact zq0 ⟨aL l1 a,zq0 (aL l2 b)⟩
   .exact zq0 ⟨aL l1 a,zq1 b⟩
   .exact zq1 ⟨aL l2 a,b⟩
 .have ju:∀e∈L,((λp:Pr=>decide (p.l∈jx V)) e.1=true->∀x∈e.2,(λp:Pr=>decide (p.l∈jx F)) x=true)/\((λp:Pr=>decide (p.l∈jx V)) e.1=false->∀x∈e.2,(λp:Pr=>decide (p.l∈jx F)) x=false):=λe he=>by
   refine⟨λh1 x hx=>?_,λh1 x hx=>?_⟩
   .have h1:=(ez hV).1 (of_decide_eq_true h1);exact decide_eq_true ((ez hF).2 (GC hc hW hl hp he h1 x hx))
   .have h1:¬ dI V e.1.l:=λh9=>(of_decide_eq_false h1) ((ez hV).2 h9);exact decide_eq_false (λh9=>hg e he h1 x hx ((ez hF).1 h9))
  have h1:=Ik (p1:=λp:Pr=>decide (p.l∈jx V)) (p2:=λp:Pr=>decide (p.l∈jx F)) ju;have h2:(Gj V).ow=(L.filter (λe=>decide (e.1.l∈jx V))).map (·.1):=by
   show V.ow.filter _=_;rw[<-hl,filter_map];rfl
  refine⟨(L.filter (λe=>decide (e.1.l∈jx V))).flatMap (·.2),?_,?_⟩
  .rw[nil_append,<-h1];exact hp.filter _
  .rw[h2];exact E0 ⟨λe he=>hW.ch e (mem_filter.1 he).1,λe he=>hW.k e (mem_filter.1 he).1⟩
theorem Ra(hF:aj F)(nF:fH F)(hV:aj V)(hw:w<4)(h:cX (λi=>i) w F val [] V)(hW:Tp val L)(hl:L.map (·.1)=V.ow)(hp:F.ow.Perm (L.flatMap (·.2)))(hg:∀e∈L,¬ dI V e.1.l->∀x∈e.2,¬ dI F x.l):Cz (λi=>i) w (qf F) (qf V):=by
 have hc:∀i,i<5->val (V.cl.getD i 0)=F.cl.getD i 0:=h.cl;have hV0:dc V=[]↔∀p∈V.ow,dI V p.l:=by
  rw[eq_nil_iff_forall_not_mem];refine⟨λh p Cs=>?_,λh i hi=>?_⟩
  .obtain⟨i,hi,rfl⟩:=mem_iff_getElem.1 Cs;apply Classical.byContradiction;intro hn;exact h i ((fX hV).2 ⟨hi,by rw[show owA V i=V.ow[i] from bX hi];exact hn⟩)
  .exact((fX hV).1 hi).2 (h _ (aY ((fX hV).1 hi).1))
 have FA:dc F=[]↔∀p∈F.ow,dI F p.l:=by
  rw[eq_nil_iff_forall_not_mem];refine⟨λh p Cs=>?_,λh i hi=>?_⟩
  .obtain⟨i,hi,rfl⟩:=mem_iff_getElem.1 Cs;apply Classical.byContradiction;intro hn;exact h i ((fX hF).2 ⟨hi,by rw[show owA F i=F.ow[i] from bX hi];exact hn⟩)
  .exact((fX hF).1 hi).2 (h _ (aY ((fX hF).1 hi).1))
 have KW:dc V=[]↔dc F=[]:=by
  rw[hV0,FA];refine⟨λh9 p Cs=>?_,λh9 p Cs=>?_⟩
  .obtain⟨e,he,th⟩:=mem_flatMap.1 (hp.subset Cs);exact GC hc hW hl hp he (h9 _ (by rw[<-hl];exact mem_map.2 ⟨e,he,rfl⟩)) p th
  .apply Classical.byContradiction;intro hn;rw[<-hl]at Cs;obtain⟨e,he,rfl⟩:=mem_map.1 Cs;obtain⟨x,t,hx,-⟩:=lZ (hW.ch e he);have tO:x∈e.2:=(by rw[hx];simp);exact hg e he hn x tO (h9 x (hp.symm.subset (mem_flatMap.2 ⟨e,he,tO⟩)))
 unfold qf;by_cases h0:dc V=[]
 .rw[if_pos h0,if_pos (KW.1 h0)];exact⟨val,h⟩
 .rw[if_neg h0,if_neg (λh9=>h0 (KW.2 h9)),BZ,BZ];exact(aaR hF nF hV h hW hl hp hg).emn ⟨rfl,λ_ h=>h,hw⟩ (zq hF) (zq hV)
end
def Jz(f:CF):Nat:=f.ow.countP (λp=>decide (p.l∈jx f))
theorem Al{α:Type}{p q:α->Bool}:∀{l:List α},(∀x∈l,p x=true->q x=true)->l.countP p<=l.countP q
 |[],_=>zq4 _
 |a::l,h=>by
  have h1:=Al (p:=p) (q:=q) (l:=l) (λx hx=>h x (by simp[hx]));rw[countP_cons,countP_cons];have h2:=h a (by simp);cases hp:p a with
  |true=>rw[h2 hp];simp;omega
  |false=>simp;omega
theorem Ff{α:Type}{p q:α->Bool}:∀{l:List α},(∀x∈l,p x=true->q x=true)->(∃x∈l,p x=false/\q x=true)->l.countP p<l.countP q
 |[],_,h=>by obtain⟨x,hx,-⟩:=h;simp at hx
 |a::l,h,hx=>by
  rw[countP_cons,countP_cons];obtain⟨x,hx,h1,h2⟩:=hx;rcases mem_cons.1 hx with rfl|hx
  .have h3:=Al (p:=p) (q:=q) (l:=l) (λx hx=>h x (by simp[hx]));rw[h1,h2];simp;omega
  .have h3:=Ff (p:=p) (q:=q) (l:=l) (λx hx=>h x (by simp[hx])) ⟨x,hx,h1,h2⟩;have h4:=h a (by simp);cases hp:p a with
   |true=>rw[h4 hp];simp;omega
   |false=>simp;omega
section
variable {w:Nat} {F V f:CF} {val:Nat->Nat} {L:List (Pr × List Pr)}
theorem QX(hf:aj f){c:Nat}(h:dI f c):dI (aQ f) ((df (cJ f)).idxOf c):=by
 refine h (λc=>dI (aQ f) ((df (cJ f)).idxOf c)) (λi i1 i5=>?_) (λp hp hr=>?_)
 .have e:(aQ f).cl.getD i 0=(df (cJ f)).idxOf (f.cl.getD i 0):=lg (cJ f) (λc=>(df (cJ f)).idxOf c) i5;show dI (aQ f) ((df (cJ f)).idxOf (f.cl.getD i 0));rw[<-e];exact dI.root i1 i5
 .have hm:jk (df (cJ f)) p∈(aQ f).ow:=dG.2 (show jk (df (cJ f)) p∈(cJ f).ow.map (jk (df (cJ f))) from mem_map.2 ⟨p,hp,rfl⟩);exact dI.on hm hr
theorem abz(hf:aj f):Jz f<=Jz (aQ f):=by
 have AE:lO (wU (cJ f)).ow:=(hf.fg.rn (λ_ hp=>iz hp)).lf;have hp:(aQ f).ow.Perm (f.ow.map (jk (df (cJ f)))):=rt AE;unfold Jz;rw[hp.countP_eq,countP_map];refine Al (λx hx h=>?_);have h1:=(ez hf).1 (of_decide_eq_true h);exact decide_eq_true ((ez hf.td).2 (QX hf h1))
theorem QW(hf:aj f){a b c:Nat}(h:dI f c):dI (mL f a b) (cM a b c):=by
 refine h (λc=>dI (mL f a b) (cM a b c)) (λi i1 i5=>?_) (λp hp hr=>?_)
 .show dI (mL f a b) (cM a b (f.cl.getD i 0));rw[<-gL hf.c5 i5];exact dI.root i1 i5
 .exact dI.on (p:=mj a b p) (mem_map.2 ⟨p,hp,rfl⟩) hr
theorem abx(hf:aj f){a i:Nat}(hi:i<f.ow.length)(hn:¬ dI f (owA f i).l)(ha:dI f a)(hd:aV f a (owA f i).l=false):Jz f<Jz (fY f a i):=by
 have hm:owA f i∈f.ow:=aY hi;have aH:(owA f i).l≠a:=λe=>hn (by rw[e];exact ha);have bm:=hf.m1 hd;unfold Jz;show _<(f.ow.map (mj (owA f i).l a)).countP _;rw[countP_map];refine Ff (λx hx h=>?_) ⟨owA f i,hm,decide_eq_false (λh=>hn ((ez hf).1 h)),?_⟩
 .have h1:=(ez hf).1 (of_decide_eq_true h);exact decide_eq_true ((ez bm).2 (QW hf h1))
 .refine decide_eq_true ((ez bm).2 ?_);have h1:dI (mL f (owA f i).l a) (cM (owA f i).l a a):=QW hf ha;have e1:cM (owA f i).l a a=(owA f i).l:=by unfold cM;rw[if_pos rfl]
  have e2:cM (owA f i).l a (owA f i).l=(owA f i).l:=by unfold cM;rw[if_neg aH]
  show dI (mL f (owA f i).l a) (cM (owA f i).l a (owA f i).l);rw[e2];rw[e1]at h1;exact h1
theorem aby(hf:aj f){a i:Nat}(hi:i<f.ow.length)(hk:(owA f i).k=4)(hn:¬ dI f (owA f i).l)(ha:dI f a)(C6:a<24)(hb:cD f.ow a=none):Jz f<Jz (dB f a i):=by
 have bm:=hf.m2 (i:=i) C6 hb;have hs:(dB f a i).ow.Perm (⟨4,(owA f i).l,a⟩::⟨4,a,(owA f i).r⟩::iQ f.ow i):=by
  show(f.ow.set i (⟨(owA f i).k,(owA f i).l,a⟩:Pr)++[(⟨4,a,(owA f i).r⟩:Pr)]).Perm _;rw[hk];exact((perm_append_comm (l₂:=[(⟨4,a,(owA f i).r⟩:Pr)])).trans ((iW hi (⟨4,(owA f i).l,a⟩:Pr)).cons _)).trans (List.Perm.swap _ _ _)
 have m1:(⟨4,(owA f i).l,a⟩:Pr)∈(dB f a i).ow:=hs.symm.subset (by simp);have m2:(⟨4,a,(owA f i).r⟩:Pr)∈(dB f a i).ow:=hs.symm.subset (by simp);have EH:∀{c:Nat},dI f c->dI (dB f a i) c:=fun {c} h=>h (dI (dB f a i)) (λj j1 j5=>dI.root (f:=dB f a i) j1 j5) (λp hp hr=>by
  rcases mem_cons.1 ((cU hi).subset hp) with h9|h9
  .rw[h9]at hr ⊢;have h8:=dI.on (p:=⟨4,a,(owA f i).r⟩) m2 (dI.on (p:=⟨4,(owA f i).l,a⟩) m1 hr);exact h8
  .exact dI.on (hs.symm.subset (mem_cons_of_mem _ (mem_cons_of_mem _ h9))) hr)
 unfold Jz;rw[hs.countP_eq,(cU hi).countP_eq,countP_cons,countP_cons,countP_cons];have h1:decide ((f.ow.getD i ay).l∈jx f)=false:=decide_eq_false (λh=>hn ((ez hf).1 h));have h2:decide (a∈jx (dB f a i))=true:=decide_eq_true ((ez bm).2 (EH ha));have h3:=Al (p:=λp:Pr=>decide (p.l∈jx f)) (q:=λp:Pr=>decide (p.l∈jx (dB f a i))) (l:=iQ f.ow i) (λx hx h=>decide_eq_true ((ez bm).2 (EH ((ez hf).1 (of_decide_eq_true h)))));simp only[h1,h2];simp;omega
theorem Wo(hW:Tp val L):L.length<=(L.flatMap (·.2)).length:=by
 induction L with
 |nil=>simp
 |cons e L ih =>
  rw[flatMap_cons,length_append,length_cons];have h1:=ih ⟨λx hx=>hW.ch x (by simp[hx]),λx hx=>hW.k x (by simp[hx])⟩;obtain⟨x,t,hx,-⟩:=lZ (hW.ch e (by simp));have h2:e.2.length=t.length+1:=by rw[hx];rfl
  omega
end
