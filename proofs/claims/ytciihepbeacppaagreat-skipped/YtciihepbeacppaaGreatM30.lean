import Derived.Test.YtciihepbeacppaaGreatM29
namespace Go.Proofs.YtciihepbeacppaaGreat
open Go.RowKit List
set_option linter.unusedVariables false
section
variable {r:Nat->Nat} {w:Nat} {F V U f:CF} {val v2:Nat->Nat} {X:List Pr}
theorem JC:∀(l:List Pr) {s:List Nat},(l.foldl mN s).length=s.length->∀p∈l,p.l∈s->p.r∈s
 |[],_,_,p,hp,_=>by simp at hp
 |q::l,s,h,p,hp,hl=>by
  rw[foldl_cons]at h;have h1:=BN s q;have h2:=BK l (s:=mN s q);have hs:¬ (q.l∈s/\q.r ∉ s):=λhc=>by
   have:(mN s q).length=s.length+1:=(by unfold mN;rw[if_pos hc];simp);omega
  have e:mN s q=s:=by unfold mN;rw[if_neg hs]
  rw[e]at h;rcases mem_cons.1 hp with rfl|hp
  .exact Classical.byContradiction λhn=>hs ⟨hl,hn⟩
  .exact JC l h p hp hl
theorem JD(hk:∀p∈f.ow,p.r<24):∀(n:Nat) {s:List Nat},er s->25<=s.length+n->(∀c∈s,c∈LK f n s)/\∀p∈f.ow,p.l∈LK f n s->p.r∈LK f n s
 |0,s,h,hn=>by have:=h.len;omega
 |n+1,s,h,hn=>by
  unfold LK;split
  .rename_i he;exact⟨λc hc=>hc,λp hp hl=>JC f.ow he p hp hl⟩
  .rename_i he;have h1:s.length<=(wV f s).length:=BK f.ow;obtain⟨a1,a2⟩:=JD hk n (GC f.ow h hk).1 (by have:(f.ow.foldl mN s).length=(wV f s).length:=rfl;omega);refine⟨λc hc=>a1 c ?_,a2⟩;obtain⟨t,ht⟩:=BM f.ow s;rw[ht];exact mem_append_left _ hc
theorem Ff{B:Nat->Prop}:∀{q:List Pr} {a e:Nat},(∀z∈q,B z.l->B z.r)->lZ q a e->B a->(∀z∈q,B z.l)/\B e
 |[],_,_,_,h,_=>h.elim
 |[x],a,e,h2,h,ha=>by
  obtain⟨rfl,rfl⟩:=h;exact⟨λz hz=>by rw[mem_singleton.1 hz];exact ha,h2 x (by simp) ha⟩
 |x::y::t,a,e,h2,h,ha=>by
  obtain⟨rfl,h⟩:=h;obtain⟨h3,h4⟩:=Ff (λz hz=>h2 z (mem_cons_of_mem _ hz)) h (h2 x (by simp) ha);exact⟨λz hz=>by rcases mem_cons.1 hz with rfl|hz;exact ha;exact h3 z hz,h4⟩
theorem cY.difL(h:cY r w F val X V)(hF:lP F.ow)(hN:∀p∈F.ow,p.l≠F.cl.getD 0 0)(h0:r 0=0)(hV:lP V.ow){a b:Nat}(ha:a∈bM V)(hb:b∈bM V)(hd:aV V a b=true):aV F (val a) (val b)=true:=by
 have h9:cY r w F val X { V with ap:=V.ap.filter (λp=>decide (p.l∈bM V)&&decide (p.r∈bM V)) }:=⟨h.cl,λp hp l1 l2=>h.ap p (mem_filter.1 hp).1 l1 l2,h.sp,h.nm⟩;refine h9.dif hF hN h0 hV (λp hp=>by have:=(mem_filter.1 hp).2;rw[Bool.and_eq_true]at this;exact⟨of_decide_eq_true this.1,of_decide_eq_true this.2⟩) ?_;obtain⟨h1,h2⟩:=b7.1 hd;rw[b7];refine⟨h1,?_⟩;rcases h2 with⟨p,hp,e⟩|h2
 .refine zq0 ⟨p,mem_filter.2 ⟨hp,?_⟩,e⟩;rw[Bool.and_eq_true];rcases e with⟨rfl,rfl⟩|⟨rfl,rfl⟩
  .exact⟨decide_eq_true ha,decide_eq_true hb⟩
  .exact⟨decide_eq_true hb,decide_eq_true ha⟩
 .right;rw[fR]at h2 ⊢;exact h2
theorem cY.transL(h:cY r w F val X V)(hF:lP F.ow)(hN:∀p∈F.ow,p.l≠F.cl.getD 0 0)(h0:r 0=0)(hV:lP V.ow){w':Nat}(h':cY (λi=>i) w' V v2 [] U):cY r w F (λc=>val (v2 c)) X U:=by
 obtain⟨cs,s1,s2⟩:=h.sp;obtain⟨ds,t1,t2⟩:=h'.sp;exact⟨λi hi=>by rw[h'.cl i hi];exact h.cl i hi,λp hp l1 l2=>h.difL hF hN h0 hV (h'.live (λ_ h=>h) l1) (h'.live (λ_ h=>h) l2) (h'.ap p hp l1 l2),⟨cs,s1,yN t2 (cO t1 s2)⟩,h.nm⟩
end
section
variable {r:Nat->Nat} {w:Nat} {F V:CF} {val:Nat->Nat} {X cs:List Pr}
theorem cY.joV(Uf:V.cl.length=5)(h:cY r w F val X V)(ha:yE F val V){a b:Nat}(e:val a=val b):cY r w F val X (mM V a b):=by
 have hs:∀c,val (cN a b c)=val c:=λc=>by
  unfold cN;split
  .rename_i hc;rw[hc,e]
  .rfl
 refine⟨λi hi=>?_,λp hp _ _=>?_,?_,h.nm⟩
 .rw[gM Uf hi,hs];exact h.cl i hi
 .obtain⟨q,hq,rfl⟩:=mem_map.1 (show p∈V.ap.map (mm a b) from hp);show aV F (val (cN a b q.l)) (val (cN a b q.r))=true;rw[hs,hs];exact ha q hq
 .obtain⟨cs,s1,s2⟩:=h.sp;refine⟨cs,s1,?_⟩;have:=pH (val:=val) (v':=val) (g:=mm a b) (ph:=id) (G:=id) (λx=>⟨rfl,rfl,Iff.rfl⟩) (l:=V.ow) (λp hp=>⟨λh=>h,hs _,hs _⟩) s2;rw[map_id]at this;exact this
theorem cY.joF1(hr:∀i,i<5->r i<5)(hw:w<4)(h5:F.cl.length=5)(h:cY r w F val X V)(ha:yE F val V){x y:Nat}(hn:aV F x y=false):cY r w (mM F x y) (λc=>cN x y (val c)) (X.map (mm x y)) V/\yE (mM F x y) (λc=>cN x y (val c)) V:=by
 have eK:yE (mM F x y) (λc=>cN x y (val c)) V:=λp hp=>NP h5 hn (ha p hp);refine⟨⟨λi hi=>?_,λp hp _ _=>eK p hp,?_,λz hz=>?_⟩,eK⟩
 .show cN x y (val (V.cl.getD i 0))=_;rw[h.cl i hi,gM h5 (hr i hi)]
 .obtain⟨cs,s1,s2⟩:=h.sp;refine⟨cs.map (mm x y),?_,?_⟩
  .show(F.ow.map (mm x y)).Perm _;rw[<-map_append];exact s1.map _
  .have:=pH (val:=val) (v':=λc=>cN x y (val c)) (g:=id) (ph:=cN x y) (G:=mm x y) (λz=>⟨rfl,rfl,Iff.rfl⟩) (l:=V.ow) (λp hp=>⟨λh=>h,rfl,rfl⟩) s2;rw[map_id]at this;exact this
 .obtain⟨y',hy,rfl⟩:=mem_map.1 hz;obtain⟨e1,e2⟩:=h.nm y' hy;rw[gM h5 (by omega),gM h5 (by omega)];exact⟨by show cN _ _ y'.l=_;rw[e1],by show cN _ _ y'.r=_;rw[e2]⟩
theorem Am:∀{q1 q2:List Pr} {x:Pr} {a e d:Nat},lZ (q1++x::q2) a e->lZ (q1++⟨4,x.l,d⟩::⟨4,d,x.r⟩::q2) a e
 |[],[],x,a,e,d,h=>⟨h.1,rfl,h.2⟩
 |[],y::q2,x,a,e,d,h=>⟨h.1,rfl,h.2⟩
 |[p],q2,x,a,e,d,h=>by
  have h:p.l=a/\lZ (x::q2) p.r e:=h;exact⟨h.1,Am (q1:=[]) h.2⟩
 |p::p'::q1,q2,x,a,e,d,h=>by
  have h:p.l=a/\lZ ((p'::q1)++x::q2) p.r e:=h;exact⟨h.1,Am (q1:=p'::q1) h.2⟩
theorem rP:∀{l cs:List Pr} {x:Pr},mt val l cs->x∈cs->∃i,i<l.length/\∃q1 q2 cs',cs.Perm ((q1++x::q2)++cs')/\lZ (q1++x::q2) (val (l.getD i ay).l) (val (l.getD i ay).r)/\((l.getD i ay).k≠4->∃y,q1++x::q2=[y]/\y.k≠4)/\∃R,l.Perm (l.getD i ay::R)/\mt val R cs'
 |[],cs,x,h,hx=>by
  have h:cs=[]:=h;rw[h]at hx;simp at hx
 |p::l,cs,x,h,hx=>by
  obtain⟨q,c,h1,h2,h3,h4⟩:=h;rcases mem_append.1 (h1.subset hx) with hx|hx
  .obtain⟨q1,q2,rfl⟩:=append_of_mem hx;exact⟨0,by simp,q1,q2,c,h1,h2,h3,l,List.Perm.refl _,h4⟩
  .obtain⟨i,hi,q1,q2,c',a1,a2,a3,R,a4,a5⟩:=rP h4 hx;refine⟨i+1,by simp;omega,q1,q2,q++c',?_,a2,a3,p::R,?_,q,c',List.Perm.refl _,h2,h3,a5⟩
   .exact h1.trans ((a1.append_left q).trans (perm_append_comm_assoc q (q1++x::q2) c'))
   .exact(a4.cons p).trans (List.Perm.swap _ _ _)
theorem cY.me2F(hF:aj F)(h:cY r w F val [] V)(ha:yE F val V){j d:Nat}(hj:j<F.ow.length)(hk:(owA F j).k=4):cY r w (dC F d j) val [] V/\yE (dC F d j) val V:=by
 obtain⟨x,hx⟩:∃x,x=owA F j:=⟨_,rfl⟩;have hx':F.ow.getD j ay=x:=hx.symm;have hp:=cV hj;rw[hx']at hp;have hs:(dC F d j).ow.Perm (⟨4,x.l,d⟩::⟨4,d,x.r⟩::iS F.ow j):=by
  show(F.ow.set j (⟨(owA F j).k,(owA F j).l,d⟩:Pr)++[(⟨4,d,(owA F j).r⟩:Pr)]).Perm _;rw[hk,<-hx];exact((perm_append_comm (l₂:=[(⟨4,d,x.r⟩:Pr)])).trans ((iY hj (⟨4,x.l,d⟩:Pr)).cons _)).trans (List.Perm.swap _ _ _)
 have hd:∀a b,aV F a b=true->aV (dC F d j) a b=true:=λa b=>jH (F:=F) (F':=dC F d j) (λp hp=>hp) rfl (λp Mv=>by
  rcases mem_cons.1 (hp.subset Mv) with rfl|Mv
  .exact⟨_,hs.symm.subset mem_cons_self,rfl⟩
  .exact⟨p,hs.symm.subset (mem_cons_of_mem _ (mem_cons_of_mem _ Mv)),rfl⟩)
 have eK:yE (dC F d j) val V:=λp hp=>hd _ _ (ha p hp);obtain⟨cs,s1,s2⟩:=h.sp;rw[nil_append]at s1;have hxc:x∈cs:=s1.subset (hp.symm.subset (by simp));obtain⟨i,hi,q1,q2,cs',b1,b2,b3,R,b4,b5⟩:=rP s2 hxc;have OV:(V.ow.getD i ay).k=4:=by
  apply Classical.byContradiction;intro aH;obtain⟨y,hy,hyk⟩:=b3 aH;have hyx:x=y:=by
   have:x∈[y]:=(by rw[<-hy];simp);exact mem_singleton.1 this
  rw[<-hyx,hx]at hyk;exact hyk hk
 have hR:(iS F.ow j).Perm (q1++q2++cs'):=by
  have h9:(x::iS F.ow j).Perm (x::(q1++q2++cs')):=hp.symm.trans (s1.trans (b1.trans (by
   rw[append_assoc,cons_append,append_assoc];exact perm_middle)))
  exact h9.cons_inv
 refine⟨⟨h.cl,λp hp _ _=>eK p hp,⟨_,(by rw[nil_append]),cO b4.symm ⟨q1++⟨4,x.l,d⟩::⟨4,d,x.r⟩::q2,cs',?_,Am b2,λaH=>absurd OV aH,b5⟩⟩,h.nm⟩,eK⟩;refine hs.trans (((hR.cons _).cons _).trans ?_);rw[append_assoc,append_assoc];have e1:((⟨4,x.l,d⟩:Pr)::⟨4,d,x.r⟩::(q1++(q2++cs'))).Perm (q1++(⟨4,x.l,d⟩::⟨4,d,x.r⟩::(q2++cs'))):=(perm_append_comm_assoc [(⟨4,x.l,d⟩:Pr),⟨4,d,x.r⟩] q1 (q2++cs'));exact e1
theorem cY.midA(hF:aj F)(nF:fI F)(hV:aj V)(h0:r 0=0)(h:cY r w F val [] V)(hL:Hf V){c:Nat}{x:Pr}(hxc:x.l=val c){i:Nat}(hi:i<V.ow.length){q1 q2 cs' R:List Pr}(b1:F.ow.Perm ((q1++x::q2)++cs'))(b2:lZ (q1++x::q2) (val (V.ow.getD i ay).l) (val (V.ow.getD i ay).r))(b3:(V.ow.getD i ay).k≠4->∃y,q1++x::q2=[y]/\y.k≠4)(b4:V.ow.Perm (V.ow.getD i ay::R))(b5:mt val R cs'):
  ∃V'∈eO V c i,cY r w F val [] V'/\(V'=fZ V c i\/V'=dC V c i):=by
 have ha:=h.apa hL;obtain⟨P,hP⟩:∃P,P=V.ow.getD i ay:=⟨_,rfl⟩;rw[<-hP]at b2 b3 b4;have hoP:owA V i=P:=hP.symm;cases q1 with
 |nil =>
  have e:val P.l=val c:=by
   rw[nil_append]at b2;obtain⟨y,t,hy,hyl⟩:=l5 b2;injection hy with UU EL;rw[<-hxc,UU,hyl]
  have hd:aV V c P.l=false:=by
   cases Cr:aV V c P.l with
   |false=>rfl
   |true =>
    have:=h.dif hF.lf nF.ow h0 hV.lf hL Cr;exact absurd e.symm (b7.1 this).1
  refine⟨fZ V c i,?_,?_,zq0 rfl⟩
  .unfold eO;rw[hoP,if_neg (by rw[hd];simp)];simp
  .unfold fZ;rw[hoP];exact h.joV hV.c5 ha e
 |cons y q1 =>
  have OV:P.k=4:=by
   apply Classical.byContradiction;intro aH;obtain⟨z,hz,-⟩:=b3 aH;have:=congrArg List.length hz;simp at this
  refine⟨dC V c i,?_,?_,zq1 rfl⟩
  .unfold eO;rw[hoP,if_pos OV];simp
  .have hcut:∀{q1:List Pr} {y:Pr} {a:Nat},lZ (y::q1++x::q2) a (val P.r)->lZ (y::q1) a x.l/\lZ (x::q2) x.l (val P.r):=by
    intro q1;induction q1 with
    |nil =>
     intro y a hc;have hc:y.l=a/\lZ (x::q2) y.r (val P.r):=hc;obtain⟨x',t,tr,pV⟩:=l5 hc.2;injection tr with tr _;rw[<-tr]at pV;exact⟨⟨hc.1,pV.symm⟩,by rw[pV];exact hc.2⟩
    |cons y' q1 ih =>
     intro y a hc;have hc:y.l=a/\lZ (y'::q1++x::q2) y.r (val P.r):=hc;obtain⟨g1,g2⟩:=ih hc.2;exact⟨⟨hc.1,g1⟩,g2⟩
   obtain⟨g1,g2⟩:=hcut b2;rw[hxc]at g1 g2;have hs:(dC V c i).ow.Perm (⟨4,P.l,c⟩::⟨4,c,P.r⟩::R):=by
    show(V.ow.set i (⟨(owA V i).k,(owA V i).l,c⟩:Pr)++[(⟨4,c,(owA V i).r⟩:Pr)]).Perm _;rw[hoP,OV];have hR:(iS V.ow i).Perm R:=by
     have h9:=cV hi;rw[<-hP]at h9;exact(h9.symm.trans b4).cons_inv
    exact(((perm_append_comm (l₂:=[(⟨4,c,P.r⟩:Pr)])).trans ((iY hi (⟨4,P.l,c⟩:Pr)).cons _)).trans (List.Perm.swap _ _ _)).trans ((hR.cons _).cons _)
   refine⟨h.cl,λp hp _ _=>ha p hp,⟨(y::q1++x::q2)++cs',by rw[nil_append];exact b1,cO hs.symm ⟨y::q1,(x::q2)++cs',?_,g1,λaH=>absurd rfl aH,x::q2,cs',List.Perm.refl _,g2,λaH=>absurd rfl aH,b5⟩⟩,h.nm⟩;rw[append_assoc]
theorem cY.mid(hF:aj F)(nF:fI F)(hV:aj V)(h0:r 0=0)(h:cY r w F val [] V)(hL:Hf V){c:Nat}{x:Pr}(hx:x∈F.ow)(hxc:x.l=val c):
  ∃i,i<V.ow.length/\∃V'∈eO V c i,cY r w F val [] V'/\(V'=fZ V c i\/V'=dC V c i):=by
 obtain⟨cs,s1,s2⟩:=h.sp;rw[nil_append]at s1;obtain⟨i,hi,q1,q2,cs',b1,b2,b3,R,b4,b5⟩:=rP s2 (s1.subset hx);exact⟨i,hi,h.midA hF nF hV h0 hL hxc hi (s1.trans b1) b2 b3 b4 b5⟩
end
theorem CV(v:Nat):∀(gs:List CF) (r:List CF × Bool),gs.foldl (λr g=>Ci r g (g.cl.getD (1+v) 0)) r=(r.1++gs.flatMap (λg=>(gV g (g.cl.getD (1+v) 0)).1),r.2||gs.any (λg=>(gV g (g.cl.getD (1+v) 0)).2))
 |[],r=>by simp
 |g::gs,r=>by
  rw[foldl_cons,CV v gs];simp[Ci,append_assoc,Bool.or_assoc]
theorem DO(f:CF)(v:Nat):∀(is:List Nat) (r:List CF × Bool),is.foldl (λr i=>uE f v i r) r=(r.1++is.flatMap (λi=>(eO f (f.cl.getD (1+v) 0) i).flatMap (λg=>(gV g (g.cl.getD (1+v) 0)).1)),r.2||is.any (λi=>(eO f (f.cl.getD (1+v) 0) i).any (λg=>(gV g (g.cl.getD (1+v) 0)).2)))
 |[],r=>by simp
 |i::is,r=>by
  rw[foldl_cons,DO f v is];unfold uE;rw[CV];simp[append_assoc,Bool.or_assoc]
section
variable {r:Nat->Nat} {w:Nat} {F V f:CF} {val:Nat->Nat} {v v' i c:Nat}
theorem rf(h1:f.cl.getD (1+v) 0≠f.cl.getD 0 0)(h2:cE f.ow (f.cl.getD (1+v) 0)=none):
  (∀x,x∈(c9 f v).1↔∃i,i<f.ow.length/\∃g∈eO f (f.cl.getD (1+v) 0) i,x∈(gV g (g.cl.getD (1+v) 0)).1)/\(c9 f v).2.1=!aV f (f.cl.getD (1+v) 0) (f.cl.getD 0 0)/\(c9 f v).2.2.1=true /\
  ((c9 f v).2.2.2=false->∀i,i<f.ow.length->∀g∈eO f (f.cl.getD (1+v) 0) i,(gV g (g.cl.getD (1+v) 0)).2=false):=by
 have e:c9 f v=(((range f.ow.length).foldl (λr i=>uE f v i r) ([],false)).1,!aV f (f.cl.getD (1+v) 0) (f.cl.getD 0 0),true,((range f.ow.length).foldl (λr i=>uE f v i r) ([],false)).2):=by
  unfold c9;rw[if_neg h1,if_neg (by rw[h2];simp)]
 rw[e,DO];refine⟨λx=>?_,rfl,rfl,λhf i hi g hg=>?_⟩
 .simp only[nil_append,mem_flatMap,mem_range]
 .have hf:(false||(range f.ow.length).any (λi=>(eO f (f.cl.getD (1+v) 0) i).any (λg=>(gV g (g.cl.getD (1+v) 0)).2)))=false:=hf;rw[Bool.false_or,any_eq_false]at hf;have h3:=hf i (by simpa using hi);rw[Bool.not_eq_true,any_eq_false]at h3;have:=h3 g hg;simpa using this
theorem Qj(hf:aj f)(kf:Kd f)(hL:Hf f)(hi:i<f.ow.length)(hv:v<4)(hc:c=f.cl.getD (1+v) 0)(hb:cE f.ow c=none){g:CF}(hg:g∈eO f c i):
  aj g/\Kd g/\Hf g/\(∃j,cE g.ow (g.cl.getD (1+v) 0)=some j)/\(fI f->c≠f.cl.getD 0 0->fI g):=by
 have hm:owA f i∈f.ow:=aY hi;have aH:(owA f i).l≠c:=λe=>by
  obtain⟨j,hj,-⟩:=pM hf.lf hm;rw[e,hb]at hj;cases hj
 have nX:∀{g:CF} {d:Nat} {x:Pr},lP g.ow->x∈g.ow->x.l=d->∃j,cE g.ow d=some j:=λhl hx e=>by
  obtain⟨j,hj,-⟩:=pM hl hx;exact⟨j,by rw[<-e];exact hj⟩
 unfold eO at hg;rcases mem_append.1 hg with hg|hg
 .split at hg
  .simp at hg
  .rename_i hd;have hd:aV f c (owA f i).l=false:=(by simpa using hd);rw[mem_singleton.1 hg];have dU:(fZ f c i).cl.getD (1+v) 0=(owA f i).l:=by
    unfold fZ;rw[gM hf.c5 (by omega),<-hc];unfold cN;rw[if_pos rfl]
   have iw:∀{d:Nat},d∈bM f->cN (owA f i).l c d∈bM (fZ f c i):=fun {d} h=>by
    rcases tz h with⟨k,hk,rfl⟩|⟨p,hp,h⟩
    .have:=qb (f:=fZ f c i) hk;unfold fZ at this ⊢;rw[gM hf.c5 hk]at this;exact this
    .have hq:mm (owA f i).l c p∈(fZ f c i).ow:=mem_map.2 ⟨p,hp,rfl⟩;rcases h with rfl|rfl
     .exact(de hq).1
     .exact(de hq).2
   refine⟨hf.m1 hd,kf.jo,λp hp=>?_,?_,λhn h0=>?_⟩
   .obtain⟨q,hq,rfl⟩:=mem_map.1 (show p∈f.ap.map (mm (owA f i).l c) from hp);exact⟨iw (hL q hq).1,iw (hL q hq).2⟩
   .rw[dU];refine nX (hf.m1 hd).lf (x:=mm (owA f i).l c (owA f i)) (mem_map.2 ⟨_,hm,rfl⟩) ?_;show cN (owA f i).l c (owA f i).l=_;unfold cN;rw[if_neg aH]
   .refine hn.jo hf.c5 ?_;cases Cr:aV f (owA f i).l c with
    |false=>rfl
    |true=>rw[iE Cr]at hd;cases hd
 .split at hg
  .rename_i hk;rw[mem_singleton.1 hg];have hs:(dC f c i).ow.Perm (⟨4,(owA f i).l,c⟩::⟨4,c,(owA f i).r⟩::iS f.ow i):=by
    show(f.ow.set i (⟨(owA f i).k,(owA f i).l,c⟩:Pr)++[(⟨4,c,(owA f i).r⟩:Pr)]).Perm _;rw[hk];exact((perm_append_comm (l₂:=[(⟨4,c,(owA f i).r⟩:Pr)])).trans ((iY hi (⟨4,(owA f i).l,c⟩:Pr)).cons _)).trans (List.Perm.swap _ _ _)
   have gX:∀p∈(dC f c i).ow,p=⟨4,(owA f i).l,c⟩\/p=⟨4,c,(owA f i).r⟩\/p∈f.ow:=λp hp=>by
    rcases mem_cons.1 (hs.subset hp) with h|h
    .exact zq0 h
    .rcases mem_cons.1 h with h|h
     .exact zq1 (zq0 h)
     .exact zq1 (zq1 (nN h))
   have m1:(⟨4,(owA f i).l,c⟩:Pr)∈(dC f c i).ow:=hs.symm.subset (by simp);have m2:(⟨4,c,(owA f i).r⟩:Pr)∈(dC f c i).ow:=hs.symm.subset (by simp);have fq:aj (dC f c i):=hf.m2 (by rw[hc];exact hf.get _) hb;refine⟨fq,λp hp=>?_,λp hp=>?_,?_,λhn h0=>⟨hn.ap,λp hp=>?_⟩⟩
   .rcases gX p hp with rfl|rfl|h
    .exact zq1 rfl
    .exact zq1 rfl
    .exact kf p h
   .have hp:p∈f.ap:=hp;have hmv:∀{d:Nat},d∈bM f->d∈bM (dC f c i):=fun {d} h=>Bm (f:=f) (g:=dC f c i) rfl (λq hq=>by
     rcases mem_cons.1 ((cV hi).subset hq) with h|h
     .rw[h];exact⟨(de m1).1,(de m2).2⟩
     .exact de (hs.symm.subset (mem_cons_of_mem _ (mem_cons_of_mem _ h)))) h
    exact⟨hmv (hL p hp).1,hmv (hL p hp).2⟩
   .have e:(dC f c i).cl.getD (1+v) 0=c:=hc.symm;rw[e];exact nX fq.lf m2 rfl
   .have e:(dC f c i).cl.getD 0 0=f.cl.getD 0 0:=rfl;rw[e];rcases gX p hp with rfl|rfl|h
    .exact hn.ow (owA f i) hm
    .exact h0
    .exact hn.ow p h
  .simp at hg
end
section
variable {r:Nat->Nat} {w:Nat} {F V:CF} {val:Nat->Nat} {v v':Nat}
def OpR(r:Nat->Nat)(w v v':Nat)(F' V':CF):Prop:=∃val' u cr Vr c,So r w F' val' [] V' c u cr Vr/\yE F' val' V'/\c=V'.cl.getD (1+v) 0/\val' c=F'.cl.getD (1+v') 0/\fI F'
theorem cY.opM(hr:RnV r w)(hF:aj F)(kF:Kd F)(nF:fI F)(hV:aj V)(kV:Kd V)(hL:Hf V)(h:cY r w F val [] V)(hv:WS r w v v')(h1:V.cl.getD (1+v) 0≠V.cl.getD 0 0)(h2:cE V.ow (V.cl.getD (1+v) 0)=none)(c3:(c9 V v).2.2.2=false){j:Nat}(hb:cE F.ow (F.cl.getD (1+v') 0)=some j):
  ∀F'∈(gV F (F.cl.getD (1+v') 0)).1,∃V'∈(c9 V v).1,OpR r w v v' F' V':=by
 intro F' lm;obtain⟨t1,-,-,t4⟩:=rf h1 h2;have Mk:val (V.cl.getD (1+v) 0)=F.cl.getD (1+v') 0:=by rw[h.cl _ (by have:=hv.hv;omega),<-hv.e]
 obtain⟨hj,fU⟩:=pK hb;obtain⟨i,hi,V1,hV1,e1,-⟩:=h.mid hF nF hV hr.h0 hL (c:=V.cl.getD (1+v) 0) (aY hj) (by rw[Mk];exact fU);obtain⟨o1,o2,o3,⟨k,o4⟩,-⟩:=Qj hV kV hL hi hv.hv rfl h2 hV1;have AE:val (V1.cl.getD (1+v) 0)=F.cl.getD (1+v') 0:=by rw[e1.cl _ (by have:=hv.hv;omega),<-hv.e]
 obtain⟨-,ho⟩:=e1.opn hF kF o1 o2 o3 o4 (t4 c3 i hi V1 hV1);rw[AE]at ho;obtain⟨V',KM,val',u,cr,Vr,p1,p2,p3,p4⟩:=ho F' lm;exact⟨V',(t1 V').2 ⟨i,hi,V1,hV1,KM⟩,val',u,cr,Vr,_,p1,p1.em.apa (Oq o3 KM),by rw[p4],by rw[p2,p3],nF.fi lm⟩
theorem cY.opA(hr:RnV r w)(hF:aj F)(kF:Kd F)(nF:fI F)(lF:Hf F)(hV:aj V)(kV:Kd V)(hL:Hf V)(h:cY r w F val [] V)(hv:WS r w v v')(c3:(c9 V v).2.2.2=false):
  ((c9 F v').2.1=true->(c9 V v).2.1=true)/\((c9 F v').2.2.1=true->(c9 V v).2.2.1=true)/\∀F'∈(c9 F v').1,∃V'∈(c9 V v).1,OpR r w v v' F' V':=by
 have Mk:val (V.cl.getD (1+v) 0)=F.cl.getD (1+v') 0:=by rw[h.cl _ (by have:=hv.hv;omega),<-hv.e]
 have c0:val (V.cl.getD 0 0)=F.cl.getD 0 0:=by rw[h.cl 0 (by omega),hr.h0]
 by_cases e1:V.cl.getD (1+v) 0=V.cl.getD 0 0
 .have eF:F.cl.getD (1+v') 0=F.cl.getD 0 0:=by rw[<-Mk,e1,c0]
  have oV:c9 V v=([],true,false,false):=by unfold c9;rw[if_pos e1]
  have oF:c9 F v'=([],true,false,false):=by unfold c9;rw[if_pos eF]
  rw[oV,oF];exact⟨λh=>h,λh=>h,λF' lm=>by simp at lm⟩
 .cases e2:cE V.ow (V.cl.getD (1+v) 0) with
  |some i =>
   have oV:c9 V v=((gV V (V.cl.getD (1+v) 0)).1,false,false,(gV V (V.cl.getD (1+v) 0)).2):=(by unfold c9;rw[if_neg e1,if_pos (by rw[e2];rfl)]);obtain⟨q1,q2,q3⟩:=h.op hF kF nF hV kV hL hv (by rw[oV]) (by rw[oV]) c3;refine⟨λh=>(by rw[q1]at h;cases h),λh=>(by rw[q2]at h;cases h),λF' lm=>?_⟩;obtain⟨V',KM,val',u,cr,Vr,c,p1,p2,p3,p4,p5,-⟩:=q3 F' lm;exact⟨V',KM,val',u,cr,Vr,c,p1,p2,p3,p4,p5⟩
  |none =>
   obtain⟨t1,t2,t3,t4⟩:=rf e1 e2;refine⟨λhn=>?_,λ_=>t3,?_⟩
   .rw[t2];cases hd:aV V (V.cl.getD (1+v) 0) (V.cl.getD 0 0) with
    |false=>rfl
    |true =>
     have hdF:=h.dif hF.lf nF.ow hr.h0 hV.lf hL hd;rw[Mk,c0]at hdF;exfalso;have aH:=(b7.1 hdF).1;by_cases e3:(cE F.ow (F.cl.getD (1+v') 0)).isSome=true
     .unfold c9 at hn;rw[if_neg aH,if_pos e3]at hn;cases hn
     .unfold c9 at hn;rw[if_neg aH,if_neg e3]at hn;have hn:(!aV F (F.cl.getD (1+v') 0) (F.cl.getD 0 0))=true:=hn;rw[hdF]at hn;cases hn
   .by_cases eF:F.cl.getD (1+v') 0=F.cl.getD 0 0
    .have oF:c9 F v'=([],true,false,false):=(by unfold c9;rw[if_pos eF]);rw[oF];exact λF' lm=>by simp at lm
    .cases e3:cE F.ow (F.cl.getD (1+v') 0) with
     |some j =>
      have oF:c9 F v'=((gV F (F.cl.getD (1+v') 0)).1,false,false,(gV F (F.cl.getD (1+v') 0)).2):=(by unfold c9;rw[if_neg eF,if_pos (by rw[e3];rfl)]);rw[oF];exact h.opM hr hF kF nF hV kV hL hv e1 e2 c3 e3
     |none =>
      obtain⟨u1,-,-,-⟩:=rf eF e3;intro F' lm;obtain⟨j,hj,F1,gg,lm⟩:=(u1 F').1 lm;obtain⟨o1,o2,o3,⟨k,o4⟩,o5⟩:=Qj hF kF lF hj hv.hv' rfl e3 gg;have nF1:=o5 nF eF;have key:∃val1,cY r w F1 val1 [] V:=by
       unfold eO at gg;rcases mem_append.1 gg with gg|gg
       .split at gg
        .simp at gg
        .rename_i hd;have hd:aV F (F.cl.getD (1+v') 0) (owA F j).l=false:=(by simpa using hd);have hd':aV F (owA F j).l (F.cl.getD (1+v') 0)=false:=by
          cases Cr:aV F (owA F j).l (F.cl.getD (1+v') 0) with
          |false=>rfl
          |true=>rw[iE Cr]at hd;cases hd
         rw[mem_singleton.1 gg];exact⟨_,(h.joF1 hr.lt hr.w hF.c5 (h.apa hL) hd').1⟩
       .split at gg
        .rename_i hk;rw[mem_singleton.1 gg];exact⟨_,(h.me2F hF (h.apa hL) hj hk).1⟩
        .simp at gg
      obtain⟨val1,h1⟩:=key;exact h1.opM hr o1 o2 nF1 hV kV hL hv e1 e2 c3 o4 F' lm
end
section
variable {r:Nat->Nat} {w:Nat} {F V:CF} {nd nd':Nd}
def tC(r:Nat->Nat)(w:Nat)(F V:CF):Prop:=∃val,cY r w F val [] V
theorem cY.emn{val:Nat->Nat}(hr:RnV r w)(hF:aj F)(hV:aj V)(h:cY r w F val [] V):tC r w (aQ F) (aQ V):=by
 obtain⟨v2,h2⟩:=h.tdV hV;exact⟨_,h2.tdF' hr.lt hr.w hF⟩
theorem TO(hr:RnV r w)(hF:aj F)(kF:ju F)(hV:aj V)(kV:ju V)(hN:NdR r w nd nd')(hv:nd.v<4)(ha:nd.ai<4)(hv':nd'.v<4)(IB:nd'.ai<4)(h:tC r w F V)(cfu:(cn nd V).fu=false):
  ((cn nd' F).nu=true->(cn nd V).nu=true)/\((cn nd' F).da=true->(cn nd V).da=true)/\(∀x∈(cn nd' F).nx,∃y∈(cn nd V).nx,tC r w x y)/\∀x∈(cn nd' F).ot,∃y∈(cn nd V).ot,tC r w x y:=by
 obtain⟨val,h⟩:=h;have eK:yE F val V:=h.apa kV.l;have c0:val (V.cl.getD 0 0)=F.cl.getD 0 0:=by rw[h.cl 0 (by omega),hr.h0]
 have ID:∀{F V:CF} {val:Nat->Nat} {X:List Pr},cY r w F val X V->(nd.op=1\/nd.op=3\/nd.op=8\/nd.op=9)->val (clT V nd.ak nd.ai)=clT F nd'.ak nd'.ai:=λh9 ho=>by
  rw[hN.ak ho];exact h9.clT hr.h0 (λhk=>⟨(hN.ai (zq1 ⟨ho,hk⟩)).e,ha⟩)
 have qO:tC r w (aQ F) (aQ V):=h.emn hr hF hV;have opn:∀{v v':Nat} {G G':CF->CF},WS r w v v'->(c9 V v).2.2.2=false ->
   (∀{F V:CF} {val:Nat->Nat} {u c:Nat} {cr Vr:List Pr} {j j':Nat},aj F->aj V->fI F->So r w F val [] V c u cr Vr->yE F val V->c=V.cl.getD (1+v) 0->val c=F.cl.getD (1+v') 0->cE V.ow c=some j->cE F.ow (val c)=some j'->aj (G' F)/\aj (G V)/\cY r w (G' F) val [] (G V)) ->
   ((c9 F v').2.1=true->(c9 V v).2.1=true)/\((c9 F v').2.2.1=true->(c9 V v).2.2.1=true)/\∀x∈(c9 F v').1.map (λx=>aQ (G' x)),∃y∈(c9 V v).1.map (λx=>aQ (G x)),tC r w x y:=by
  intro v v' G G' PR g3 hG;obtain⟨q1,q2,q3⟩:=h.opA hr hF kF.k kF.n kF.l hV kV.k kV.l PR g3;refine⟨q1,q2,λx hx=>?_⟩;obtain⟨F',lm,rfl⟩:=mem_map.1 hx;obtain⟨V',KM,val',u,cr,Vr,c,o1,o2,o3,o4,o5⟩:=q3 F' lm;have kF':=jX (N:=F.ap.length) PR.hv' hF (zq4 _) _ lm;have kV':=jX (N:=V.ap.length) PR.hv hV (zq4 _) _ KM;obtain⟨j,hj⟩:=Option.isSome_iff_exists.1 kV'.bg;obtain⟨j',XA⟩:=Option.isSome_iff_exists.1 kF'.bg;rw[<-o3]at hj;rw[<-o4]at XA;obtain⟨a1,a2,a3⟩:=hG kF'.ok kV'.ok o5 o1 o2 o3 o4 hj XA;exact⟨_,mem_map.2 ⟨V',KM,rfl⟩,a3.emn hr a1 a2⟩
 have oU:(nd.op=8\/nd.op=9)->(∀x∈(mu F nd').1,∃y∈(mu V nd).1,tC r w x y)/\∀x∈(mu F nd').2,∃y∈(mu V nd).2,tC r w x y:=λho=>by
  have PR:=hN.v (by rcases ho with h|h <;> simp[h]);have ea:val (V.cl.getD (1+nd.v) 0)=F.cl.getD (1+nd'.v) 0:=by rw[h.cl _ (by omega),<-PR.e]
  have eb:=ID h (by rcases ho with h|h <;> simp[h]);unfold mu;simp only;rw[<-ea,<-eb];refine⟨λx hx=>?_,λx hx=>?_⟩
  .split at hx
   .simp at hx
   .rename_i hd;have hd:aV F (val (V.cl.getD (1+nd.v) 0)) (val (clT V nd.ak nd.ai))=false:=(by simpa using hd);have hd':aV V (V.cl.getD (1+nd.v) 0) (clT V nd.ak nd.ai)=false:=by
     cases e:aV V (V.cl.getD (1+nd.v) 0) (clT V nd.ak nd.ai) with
     |false=>rfl
     |true=>rw[h.dif hF.lf kF.n.ow hr.h0 hV.lf kV.l e]at hd;cases hd
    rw[if_neg (by rw[hd'];simp)];rw[mem_singleton.1 hx];refine⟨_,mem_singleton.2 rfl,(h.jo hr.lt hr.w hF.c5 hV.c5 eK hd).emn hr ?_ (hV.jo (hV.get _) (io hd'))⟩;exact hF.jo (by rw[ea];exact hF.get _) (io hd)
  .split at hx
   .simp at hx
   .rename_i aH;rw[if_neg (λe=>aH (by rw[e]))];rw[mem_singleton.1 hx];refine⟨_,mem_singleton.2 rfl,(h.pa eK aH).emn hr ?_ (hV.pa (hV.get _) (hV.cT _ _))⟩;exact hF.pa (by rw[ea];exact hF.get _) (by rw[eb];exact hF.cT _ _)
 unfold cn at cfu ⊢;rw[hN.op];by_cases o0:nd.op=0
 .rw[if_pos o0,if_pos o0];exact⟨λh=>h,λh=>h,by simp[wN],by simp[wN]⟩
 rw[if_neg o0]at cfu ⊢;rw[if_neg o0];by_cases o1:nd.op=1
 .rw[if_pos o1,if_pos o1];have ec:=ID h (zq0 o1);refine⟨λh=>h,λh=>h,λx hx=>⟨_,mem_singleton.2 rfl,?_⟩,by simp⟩;rw[mem_singleton.1 hx,<-ec];exact(h.setC hF.c5 hV.c5 eK (hN.v (zq0 o1)) _).1.emn hr (hF.sC _ (by rw[ec];exact hF.cT _ _)) (hV.sC _ (hV.cT _ _))
 rw[if_neg o1]at cfu ⊢;rw[if_neg o1];by_cases o2:nd.op=2
 .rw[if_pos o2]at cfu ⊢;rw[if_pos o2];have PR:=hN.v (zq1 (zq0 o2));obtain⟨q1,q2,q3⟩:=opn (G:=λg=>fs g nd) (G':=λg=>fs g nd') (hN.ai (zq0 o2)) cfu (by
   intro F V val u c cr Vr j j' hF hV nF ho eK hc KR hj XA;obtain⟨i,a1,-,a3,-⟩:=nC hV.lf ho.vo;obtain⟨i',b1,-,b3,-⟩:=nC hF.lf ho.fo';have e1:fs V nd=setC V (1+nd.v) u:=(by unfold fs;rw[<-hc,pJ a1];show setC V _ (V.ow.getD i ay).r=_;rw[a3]);have e2:fs F nd'=setC F (1+nd'.v) (val u):=(by unfold fs;rw[<-KR,pJ b1];show setC F _ (F.ow.getD i' ay).r=_;rw[b3]);refine⟨by unfold fs;exact hF.sC _ (hF.oA _).2,by unfold fs;exact hV.sC _ (hV.oA _).2,?_⟩;show cY r w (fs F nd') val [] (fs V nd);rw[e1,e2];exact(ho.em.setC hF.c5 hV.c5 eK PR u).1)
  exact⟨q1,q2,q3,by simp[bR]⟩
 rw[if_neg o2]at cfu ⊢;rw[if_neg o2];by_cases o3:nd.op=3
 .rw[if_pos o3]at cfu ⊢;rw[if_pos o3];obtain⟨q1,q2,q3⟩:=opn (G:=λg=>ny g nd) (G':=λg=>ny g nd') (hN.v (by simp[o3])) cfu (by
   intro F V val u c cr Vr j j' hF hV nF ho eK hc KR hj XA;obtain⟨i,a1,-,a3,-⟩:=nC hV.lf ho.vo;obtain⟨i',b1,-,b3,-⟩:=nC hF.lf ho.fo';have ec:=ID ho.em (zq1 (zq0 o3));have e1:ny V nd=setO V i ⟨3,c,clT V nd.ak nd.ai⟩:=(by unfold ny;simp only;rw[<-hc,pJ a1];show setO V i ⟨(V.ow.getD i ay).k,(V.ow.getD i ay).l,_⟩=_;rw[a3]);have e2:ny F nd'=setO F i' ⟨3,val c,val (clT V nd.ak nd.ai)⟩:=(by unfold ny;simp only;rw[<-KR,pJ b1,<-ec];show setO F i' ⟨(F.ow.getD i' ay).k,(F.ow.getD i' ay).l,_⟩=_;rw[b3]);refine⟨by unfold ny;exact hF.sO (λ_=>rfl) (hF.cT _ _) (hF.oA _).1,by unfold ny;exact hV.sO (λ_=>rfl) (hV.cT _ _) (hV.oA _).1,?_⟩;show cY r w (ny F nd') val [] (ny V nd);rw[e1,e2];exact ho.li hF hV eK a1 b1)
  exact⟨q1,q2,q3,by simp[bR]⟩
 rw[if_neg o3]at cfu ⊢;rw[if_neg o3];by_cases o4:nd.op=4
 .rw[if_pos o4]at cfu ⊢;rw[if_pos o4];by_cases hn:24<=aw V
  .rw[if_pos hn]at cfu;cases cfu
  .rw[if_neg hn];by_cases hn':24<=aw F
   .rw[if_pos hn'];exact⟨λh=>h,λh=>h,by simp,by simp⟩
   .rw[if_neg hn'];refine⟨λh=>h,λh=>h,λx hx=>⟨_,mem_singleton.2 rfl,?_⟩,by simp⟩;rw[mem_singleton.1 hx];obtain⟨val',hc⟩:=h.cr hr.h0 hF.c5 hV.c5 eK (hN.v (by simp[o4]));exact hc.emn hr (rS hF (by omega)) (rS hV (by omega))
 rw[if_neg o4]at cfu ⊢;rw[if_neg o4];by_cases o5:nd.op=5
 .rw[if_pos o5]at cfu ⊢;rw[if_pos o5];obtain⟨q1,q2,q3⟩:=opn (G:=λg=>l9 g nd.v) (G':=λg=>l9 g nd'.v) (hN.v (by simp[o5])) cfu (by
   intro F V val u c cr Vr j j' hF hV nF ho eK hc KR hj XA;refine⟨(r7 (N:=F.ap.length) ⟨hF,zq4 _,by rw[<-KR,XA];rfl⟩).1,(r7 (N:=V.ap.length) ⟨hV,zq4 _,by rw[<-hc,hj];rfl⟩).1,ho.fr hr.h0 hF hV nF eK hc KR⟩)
  exact⟨q1,q2,q3,by simp[bR]⟩
 rw[if_neg o5,if_neg o5];by_cases o7:nd.op=7
 .rw[if_pos o7,if_pos o7];exact⟨λh=>h,λh=>h,λx hx=>⟨_,mem_singleton.2 rfl,by rw[mem_singleton.1 hx];exact qO⟩,λx hx=>⟨_,mem_singleton.2 rfl,by rw[mem_singleton.1 hx];exact qO⟩⟩
 rw[if_neg o7,if_neg o7];by_cases o8:nd.op=8
 .rw[if_pos o8,if_pos o8];exact⟨λh=>h,λh=>h,oU (zq0 o8)⟩
 rw[if_neg o8,if_neg o8];by_cases o9:nd.op=9
 .rw[if_pos o9,if_pos o9];exact⟨λh=>h,λh=>h,(oU (zq1 o9)).2,(oU (zq1 o9)).1⟩
 rw[if_neg o9,if_neg o9];exact⟨λh=>h,λh=>h,λx hx=>⟨_,mem_singleton.2 rfl,by rw[mem_singleton.1 hx];exact qO⟩,by simp⟩
end
section
variable {f g:CF}
theorem ahk(hk:aj f)(h:ju f){w:Nat}(hw:w<4):∀y∈(c9 f w).1,Kd y/\fI y:=by
 intro y hy;by_cases e0:f.cl.getD (1+w) 0=f.cl.getD 0 0
 .unfold c9 at hy;rw[if_pos e0]at hy;simp at hy
 .cases eb:cE f.ow (f.cl.getD (1+w) 0) with
  |some i =>
   unfold c9 at hy;rw[if_neg e0,if_pos (by rw[eb];rfl)]at hy;exact⟨(vK hy).2.2.2 h.k,h.n.fi hy⟩
  |none =>
   obtain⟨i,hi,x,hx,hy⟩:=((rf e0 eb).1 y).1 hy;obtain⟨-,o2,-,-,o5⟩:=Qj hk h.k h.l hi hw rfl eb hx;exact⟨(vK hy).2.2.2 o2,(o5 h.n e0).fi hy⟩
theorem Bb{nd:Nd}(hk:aj f)(hv:nd.v<4)(ha:nd.ai<4)(h:ju f):(∀x∈(cn nd f).nx,ju x)/\∀x∈(cn nd f).ot,ju x:=by
 have hR:∀x,aj x->Kd x->fI x->ju (aQ x):=λx h1 h2 h3=>⟨h2.td,qc h1,h3.td h1⟩;have opn:∀{w:Nat} {G:CF->CF},w<4->(∀x,aj x->Kd x->fI x->∀j,cE x.ow (x.cl.getD (1+w) 0)=some j->aj (G x)/\Kd (G x)/\fI (G x))->∀x∈(c9 f w).1.map (λx=>aQ (G x)),ju x:=by
  intro w G hw hG x hx;obtain⟨y,hy,rfl⟩:=mem_map.1 hx;have EL:=jX (N:=f.ap.length) hw hk (zq4 _) _ hy;obtain⟨n1,n2⟩:=ahk hk h hw y hy;obtain⟨j,hj⟩:=Option.isSome_iff_exists.1 EL.bg;obtain⟨k1,k2,k3⟩:=hG y EL.ok n1 n2 j hj;exact hR _ k1 k2 k3
 have ss:=hR f hk h.k h.n;have oU:(∀x∈(mu f nd).1,ju x)/\∀x∈(mu f nd).2,ju x:=by
  unfold mu;simp only;refine⟨λx hx=>?_,λx hx=>?_⟩
  .split at hx
   .simp at hx
   .rename_i hd;have hd:aV f (f.cl.getD (1+nd.v) 0) (clT f nd.ak nd.ai)=false:=(by simpa using hd);rw[mem_singleton.1 hx];exact hR _ (hk.jo (hk.get _) (io hd)) h.k.jo (h.n.jo hk.c5 hd)
  .split at hx
   .simp at hx
   .rename_i aH;rw[mem_singleton.1 hx];exact hR _ (hk.pa (hk.get _) (hk.cT _ _)) h.k (h.n.par aH)
 unfold cn;by_cases o0:nd.op=0
 .rw[if_pos o0];exact⟨by simp[wN],by simp[wN]⟩
 rw[if_neg o0];by_cases o1:nd.op=1
 .rw[if_pos o1];exact⟨λx hx=>by rw[mem_singleton.1 hx];exact hR _ (hk.sC _ (hk.cT _ _)) h.k (h.n.setC hk.c5 hv),by simp⟩
 rw[if_neg o1];by_cases o2:nd.op=2
 .rw[if_pos o2];exact⟨opn ha (λx k1 k2 k3 j _=>⟨by unfold fs;exact k1.sC _ (k1.oA _).2,k2,by unfold fs;exact k3.setC k1.c5 hv⟩),by simp[bR]⟩
 rw[if_neg o2];by_cases o3:nd.op=3
 .rw[if_pos o3];exact⟨opn hv (λx k1 k2 k3 j hj=>⟨by unfold ny;exact k1.sO (λ_=>rfl) (k1.cT _ _) (k1.oA _).1,by unfold ny;simp only;rw[pJ hj];exact k2.setO (k2 (x.ow.getD j ay) (aY (pK hj).1)),by unfold ny;simp only;rw[pJ hj];exact k3.setO (pK hj).1 rfl⟩),by simp[bR]⟩
 rw[if_neg o3];by_cases o4:nd.op=4
 .rw[if_pos o4];split
  .exact⟨by simp,by simp⟩
  .rename_i hn;exact⟨λx hx=>by rw[mem_singleton.1 hx];exact hR _ (rS hk (by omega)) h.k.cr (h.n.cr hk.c5 hv),by simp⟩
 rw[if_neg o4];by_cases o5:nd.op=5
 .rw[if_pos o5];exact⟨opn hv (λx k1 k2 k3 j hj=>⟨(r7 (N:=x.ap.length) ⟨k1,zq4 _,by rw[hj];rfl⟩).1,k2.fr hj,k3.fr k1 hj⟩),by simp[bR]⟩
 rw[if_neg o5];by_cases o7:nd.op=7
 .rw[if_pos o7];exact⟨λx hx=>by rw[mem_singleton.1 hx];exact ss,λx hx=>by rw[mem_singleton.1 hx];exact ss⟩
 rw[if_neg o7];by_cases o8:nd.op=8
 .rw[if_pos o8];exact oU
 rw[if_neg o8];by_cases o9:nd.op=9
 .rw[if_pos o9];exact⟨oU.2,oU.1⟩
 rw[if_neg o9];exact⟨λx hx=>by rw[mem_singleton.1 hx];exact ss,by simp⟩
end
def dJ(f:CF)(c:Nat):Prop:=∀B:Nat->Prop,(∀i,1<=i->i<5->B (f.cl.getD i 0))->(∀p∈f.ow,B p.l->B p.r)->B c
section
variable {w:Nat} {F V f:CF} {val:Nat->Nat} {cs:List Pr}
theorem dJ.root{i:Nat}(h1:1<=i)(h5:i<5):dJ f (f.cl.getD i 0):=λ_ h _=>h i h1 h5
theorem dJ.on{p:Pr}(hp:p∈f.ow)(h:dJ f p.l):dJ f p.r:=λB h1 h2=>h2 p hp (h B h1 h2)
theorem eC(hk:aj f){c:Nat}:c∈jz f↔dJ f c:=by
 have h4:∀c∈[f.cl.getD 1 0,f.cl.getD 2 0,f.cl.getD 3 0,f.cl.getD 4 0],c<24:=λc hc=>by
  simp only[mem_cons,not_mem_nil,or_false]at hc;rcases hc with rfl|rfl|rfl|rfl <;> exact hk.get _
 obtain⟨m1,m2,-⟩:=Bp [f.cl.getD 1 0,f.cl.getD 2 0,f.cl.getD 3 0,f.cl.getD 4 0] h4 er.nil;obtain⟨a1,a2⟩:=JD (f:=f) (λp hp=>(hk.ow p hp).2) 25 (s:=QV f) m1 (by omega);refine⟨λh B h1 h2=>?_,λh=>h (λc=>c∈jz f) (λi i1 i5=>?_) a2⟩
 .have h0:∀c∈QV f,B c:=by
   intro c hc;rcases Br _ hc with hc|hc
   .simp at hc
   .simp only[mem_cons,not_mem_nil,or_false]at hc;rcases hc with rfl|rfl|rfl|rfl
    .exact h1 1 (by omega) (by omega)
    .exact h1 2 (by omega) (by omega)
    .exact h1 3 (by omega) (by omega)
    .exact h1 4 (by omega) (by omega)
  exact GD h2 25 h0 _ h
 .have:i=1\/i=2\/i=3\/i=4:=by omega
  rcases this with rfl|rfl|rfl|rfl
  .exact a1 _ (m2 _ (by simp))
  .exact a1 _ (m2 _ (by simp))
  .exact a1 _ (m2 _ (by simp))
  .exact a1 _ (m2 _ (by simp))
theorem fY(hk:aj f){i:Nat}:i∈dd f↔i<f.ow.length/\¬ dJ f (owA f i).l:=by
 unfold dd;rw[mem_filter,mem_range,<-eC hk];simp
structure Ts(val:Nat->Nat)(L:List (Pr × List Pr)):Prop where
 ch:∀e∈L,lZ e.2 (val e.1.l) (val e.1.r)
 k:∀e∈L,e.1.k≠4->∃x,e.2=[x]/\x.k≠4
theorem qu:∀{l cs:List Pr},mt val l cs->∃L,Ts val L/\L.map (·.1)=l/\cs.Perm (L.flatMap (·.2))
 |[],cs,h=>⟨[],⟨by simp,by simp⟩,rfl,by have h:cs=[]:=h;rw[h];simp⟩
 |p::l,cs,h=>by
  obtain⟨q,c,h1,h2,h3,h4⟩:=h;obtain⟨L,w1,w2,w3⟩:=qu h4;refine⟨(p,q)::L,⟨λe he=>?_,λe he=>?_⟩,by simp[w2],?_⟩
  .rcases mem_cons.1 he with rfl|he
   .exact h2
   .exact w1.ch e he
  .rcases mem_cons.1 he with rfl|he
   .exact h3
   .exact w1.k e he
  .rw[flatMap_cons];exact h1.trans (w3.append_left q)
theorem E2:∀{L:List (Pr × List Pr)},Ts val L->mt val (L.map (·.1)) (L.flatMap (·.2))
 |[],_=>rfl
 |e::L,h=>by
  refine⟨e.2,L.flatMap (·.2),by rw[flatMap_cons],h.ch e (by simp),h.k e (by simp),E2 ⟨λx hx=>h.ch x (by simp[hx]),λx hx=>h.k x (by simp[hx])⟩⟩
theorem vB:∀{q:List Pr} {a e:Nat} {y:Pr},lZ q a e->y∈q->y.r=e\/∃z∈q,z.l=y.r
 |[],_,_,_,h,_=>h.elim
 |[x],a,e,y,h,hy=>by
  rw[mem_singleton.1 hy];exact zq0 h.2
 |x::x'::t,a,e,y,h,hy=>by
  have h:x.l=a/\lZ (x'::t) x.r e:=h;rcases mem_cons.1 hy with rfl|hy
  .obtain⟨z,u,hz,hzl⟩:=l5 h.2;injection hz with hz _;exact zq1 ⟨x',by simp,by rw[hz];exact hzl⟩
  .rcases vB h.2 hy with h9|⟨z,hz,h9⟩
   .exact zq0 h9
   .exact zq1 ⟨z,by simp[mem_cons.1 hz],h9⟩
theorem B0{L:List (Pr × List Pr)}(hn:lP (L.flatMap (·.2))){e e':Pr × List Pr}(he:e∈L)(Mm:e'∈L){x y:Pr}(hx:x∈e.2)(hy:y∈e'.2)(XO:x.l=y.l):e=e':=by
 induction L with
 |nil=>simp at he
 |cons d L ih =>
  unfold lP at hn;rw[flatMap_cons,map_append]at hn;obtain⟨n1,n2,n3⟩:=nodup_append.1 hn;rcases mem_cons.1 he with h1|h1 <;> rcases mem_cons.1 Mm with h2|h2
  .rw[h1,h2]
  .rw[h1]at hx;exact absurd XO (n3 x.l (mem_map_of_mem (f:=(·.l)) hx) y.l (mem_map_of_mem (f:=(·.l)) (mem_flatMap.2 ⟨e',h2,hy⟩)))
  .rw[h2]at hy;exact absurd XO.symm (n3 y.l (mem_map_of_mem (f:=(·.l)) hy) x.l (mem_map_of_mem (f:=(·.l)) (mem_flatMap.2 ⟨e,h1,hx⟩)))
  .exact ih n2 h1 h2
end
section
variable {w:Nat} {F V:CF} {val:Nat->Nat} {L:List (Pr × List Pr)}
theorem acf(hF:aj F)(hp:F.ow.Perm (L.flatMap (·.2))):lP (L.flatMap (·.2)):=uH hF.lf hp
theorem QX(hc:∀i,i<5->val (V.cl.getD i 0)=F.cl.getD i 0)(hW:Ts val L)(hl:L.map (·.1)=V.ow)(hp:F.ow.Perm (L.flatMap (·.2))){a:Nat}(h:dJ V a):dJ F (val a):=by
 refine h (λa=>dJ F (val a)) (λi i1 i5=>?_) (λp Cv hr=>?_)
 .show dJ F (val _);rw[hc i i5];exact dJ.root i1 i5
 .rw[<-hl]at Cv;obtain⟨e,he,rfl⟩:=mem_map.1 Cv;exact(Ff (B:=dJ F) (λz hz=>dJ.on (hp.symm.subset (mem_flatMap.2 ⟨e,he,hz⟩))) (hW.ch e he) hr).2
theorem GE(hc:∀i,i<5->val (V.cl.getD i 0)=F.cl.getD i 0)(hW:Ts val L)(hl:L.map (·.1)=V.ow)(hp:F.ow.Perm (L.flatMap (·.2))){e:Pr × List Pr}(he:e∈L)(h:dJ V e.1.l):∀x∈e.2,dJ F x.l :=
 (Ff (B:=dJ F) (λz hz=>dJ.on (hp.symm.subset (mem_flatMap.2 ⟨e,he,hz⟩))) (hW.ch e he) (QX hc hW hl hp h)).1
theorem VM(hF:aj F)(nF:fI F)(hV:aj V)(hc:∀i,i<5->val (V.cl.getD i 0)=F.cl.getD i 0)(hW:Ts val L)(hl:L.map (·.1)=V.ow)(hp:F.ow.Perm (L.flatMap (·.2))):
  (∀e∈L,¬ dJ V e.1.l->∀x∈e.2,¬ dJ F x.l)\/∃a,dJ V a/\a≠V.cl.getD 0 0/\cE V.ow a=none/\∃e∈L,¬ dJ V e.1.l/\∃y∈e.2,y.l=val a:=by
 by_cases hd:∃a,dJ V a/\a≠V.cl.getD 0 0/\cE V.ow a=none/\∃e∈L,¬ dJ V e.1.l/\∃y∈e.2,y.l=val a
 .exact zq1 hd
 left;have AH:=acf hF hp
 -- an atom that begins where a reached class of V stands is on a reached way
 have key:∀{a:Nat} {e:Pr × List Pr} {y:Pr},dJ V a->e∈L->y∈e.2->y.l=val a->dJ V e.1.l:=by
  intro a e y ha he hy UV;apply Classical.byContradiction;intro hn;by_cases h0:a=V.cl.getD 0 0
  .exact nF.ow y (hp.symm.subset (mem_flatMap.2 ⟨e,he,hy⟩)) (by rw[UV,h0,hc 0 (by omega)])
  .cases hb:cE V.ow a with
   |none=>exact hd ⟨a,ha,h0,hb,e,he,hn,y,hy,UV⟩
   |some i =>
    obtain⟨hi,ur⟩:=pK hb;have hm:V.ow.getD i ay∈V.ow:=aY hi;rw[<-hl]at hm;obtain⟨e',Mm,e1⟩:=mem_map.1 hm;obtain⟨x,t,hx,SN⟩:=l5 (hW.ch e' Mm);have e2:e'.1.l=a:=(by rw[e1,hl];exact ur);have:=B0 AH he Mm hy (y:=x) (by rw[hx];simp) (by rw[UV,SN,e2]);rw[this,e2]at hn;exact hn ha
 intro e he hn x hx hr;have hB:dJ F x.l->∀e∈L,x∈e.2->dJ V e.1.l:=by
  intro hr;have hb:=hr (λd=>(∃a,dJ V a/\val a=d)\/∃e∈L,dJ V e.1.l/\∃y∈e.2,y.r=d) (λi i1 i5=>zq0 ⟨_,dJ.root i1 i5,hc i i5⟩) (λp Cv k7=>by
   obtain⟨e,he,tj⟩:=mem_flatMap.1 (hp.subset Cv);refine zq1 ⟨e,he,?_,p,tj,rfl⟩;rcases k7 with⟨a,ha,kt⟩|⟨e',Mm,ut,y,hy,hyr⟩
   .exact key ha he tj kt.symm
   .rcases vB (hW.ch e' Mm) hy with h9|⟨z,hz,h9⟩
    .have hre:dJ V e'.1.r:=dJ.on (by rw[<-hl];exact mem_map.2 ⟨e',Mm,rfl⟩) ut;exact key hre he tj (by rw[<-h9,hyr])
    .have:=B0 AH he Mm tj hz (by rw[h9,hyr]);rw[this];exact ut)
  intro e he tR;rcases hb with⟨a,ha,kt⟩|⟨e',Mm,ut,y,hy,hyr⟩
  .exact key ha he tR kt.symm
  .rcases vB (hW.ch e' Mm) hy with h9|⟨z,hz,h9⟩
   .have hre:dJ V e'.1.r:=dJ.on (by rw[<-hl];exact mem_map.2 ⟨e',Mm,rfl⟩) ut;exact key hre he tR (by rw[<-h9,hyr])
   .have:=B0 AH he Mm tR hz (by rw[h9,hyr]);rw[this];exact ut
 exact hn (hB hr e he hx)
end
def Gl(f:CF):CF:={ f with ow:=f.ow.filter (λp=>decide (p.l∈jz f)) }
def rs(f:CF):CF:=if dd f=[] then f else RX f
theorem B4(f:CF):RX f=aQ (Gl f):=rfl
section
variable {w:Nat} {F V f:CF} {val:Nat->Nat} {L:List (Pr × List Pr)}
theorem zt(h:aj f):aj (Gl f):=by
 have hs:(Gl f).ow.Sublist f.ow:=filter_sublist;exact aj.mk' h.c5 h.cl' (λp hp=>h.ow p (hs.subset hp)) h.ap (h.lf.sublist (hs.map _)) h.kd
theorem wo(hk:aj f){p:Pr}:p∈(Gl f).ow↔p∈f.ow/\dJ f p.l:=by
 show p∈f.ow.filter _↔_;rw[mem_filter,decide_eq_true_iff,eC hk]
theorem Im{p1:Pr->Bool}{p2:Pr->Bool}:∀{L:List (Pr × List Pr)},(∀e∈L,(p1 e.1=true->∀x∈e.2,p2 x=true)/\(p1 e.1=false->∀x∈e.2,p2 x=false))->(L.flatMap (·.2)).filter p2=(L.filter (λe=>p1 e.1)).flatMap (·.2)
 |[],_=>rfl
 |e::L,h=>by
  obtain⟨h1,h2⟩:=h e (by simp);rw[flatMap_cons,filter_append,Im (λx hx=>h x (by simp[hx]))];cases hp:p1 e.1 with
  |true=>rw[filter_cons_of_pos (by exact hp),flatMap_cons,filter_eq_self.2 (h1 hp)]
  |false=>rw[filter_cons_of_neg (by rw[hp];simp),filter_eq_nil_iff.2 (λx hx=>by rw[h2 hp x hx];simp),nil_append]
theorem aaT(hF:aj F)(nF:fI F)(hV:aj V)(h:cY (λi=>i) w F val [] V)(hW:Ts val L)(hl:L.map (·.1)=V.ow)(hp:F.ow.Perm (L.flatMap (·.2)))(hg:∀e∈L,¬ dJ V e.1.l->∀x∈e.2,¬ dJ F x.l):cY (λi=>i) w (Gl F) val [] (Gl V):=by
 have hc:∀i,i<5->val (V.cl.getD i 0)=F.cl.getD i 0:=h.cl;have qK:∀{c:Nat},c∈bM (Gl V)->c∈bM V/\(dJ V c\/c=V.cl.getD 0 0):=fun {c} h=>by
  rcases tz h with⟨i,hi,rfl⟩|⟨p,hp,h⟩
  .refine⟨qb (f:=V) hi,?_⟩;by_cases i0:i=0
   .rw[i0];exact zq1 rfl
   .exact zq0 (dJ.root (f:=V) (by omega) hi)
  .obtain⟨p1,p2⟩:=(wo hV).1 hp;rcases h with rfl|rfl
   .exact⟨(de p1).1,zq0 p2⟩
   .exact⟨(de p1).2,zq0 (dJ.on p1 p2)⟩
 have aL:∀{c:Nat},c∈bM (Gl V)->(∃p∈F.ow,p.l=val c)->∃p∈(Gl F).ow,p.l=val c:=fun {c} dU=>by
  rintro⟨p,Cv,k7⟩;refine⟨p,(wo hF).2 ⟨Cv,?_⟩,k7⟩;rcases(qK dU).2 with h9|h9
  .rw[k7];exact QX hc hW hl hp h9
  .exfalso;exact nF.ow p Cv (by rw[k7,h9,hc 0 (by omega)])
 refine⟨h.cl,λp UK l1 l2=>?_,?_,λx hx=>by simp at hx⟩
 .have hd:=h.ap p UK (qK l1).1 (qK l2).1;obtain⟨d1,d2⟩:=b7.1 hd;rw[b7];refine⟨d1,?_⟩;rcases d2 with⟨q,hq,e⟩|d2
  .exact zq0 ⟨q,hq,e⟩
  .right;rw[fR]at d2 ⊢;rcases d2 with⟨a,b|b⟩|⟨a,b⟩
   .exact zq0 ⟨aL l1 a,zq0 (aL l2 b)⟩
   .exact zq0 ⟨aL l1 a,zq1 b⟩
   .exact zq1 ⟨aL l2 a,b⟩
 .have jx:∀e∈L,((λp:Pr=>decide (p.l∈jz V)) e.1=true->∀x∈e.2,(λp:Pr=>decide (p.l∈jz F)) x=true)/\((λp:Pr=>decide (p.l∈jz V)) e.1=false->∀x∈e.2,(λp:Pr=>decide (p.l∈jz F)) x=false):=λe he=>by
   refine⟨λh1 x hx=>?_,λh1 x hx=>?_⟩
   .have h1:=(eC hV).1 (of_decide_eq_true h1);exact decide_eq_true ((eC hF).2 (GE hc hW hl hp he h1 x hx))
   .have h1:¬ dJ V e.1.l:=λh9=>(of_decide_eq_false h1) ((eC hV).2 h9);exact decide_eq_false (λh9=>hg e he h1 x hx ((eC hF).1 h9))
  have h1:=Im (p1:=λp:Pr=>decide (p.l∈jz V)) (p2:=λp:Pr=>decide (p.l∈jz F)) jx;have h2:(Gl V).ow=(L.filter (λe=>decide (e.1.l∈jz V))).map (·.1):=by
   show V.ow.filter _=_;rw[<-hl,filter_map];rfl
  refine⟨(L.filter (λe=>decide (e.1.l∈jz V))).flatMap (·.2),?_,?_⟩
  .rw[nil_append,<-h1];exact hp.filter _
  .rw[h2];exact E2 ⟨λe he=>hW.ch e (mem_filter.1 he).1,λe he=>hW.k e (mem_filter.1 he).1⟩
theorem Rc(hF:aj F)(nF:fI F)(hV:aj V)(hw:w<4)(h:cY (λi=>i) w F val [] V)(hW:Ts val L)(hl:L.map (·.1)=V.ow)(hp:F.ow.Perm (L.flatMap (·.2)))(hg:∀e∈L,¬ dJ V e.1.l->∀x∈e.2,¬ dJ F x.l):tC (λi=>i) w (rs F) (rs V):=by
 have hc:∀i,i<5->val (V.cl.getD i 0)=F.cl.getD i 0:=h.cl;have hV0:dd V=[]↔∀p∈V.ow,dJ V p.l:=by
  rw[eq_nil_iff_forall_not_mem];refine⟨λh p Cv=>?_,λh i hi=>?_⟩
  .obtain⟨i,hi,rfl⟩:=mem_iff_getElem.1 Cv;apply Classical.byContradiction;intro hn;exact h i ((fY hV).2 ⟨hi,by rw[show owA V i=V.ow[i] from bY hi];exact hn⟩)
  .exact((fY hV).1 hi).2 (h _ (aY ((fY hV).1 hi).1))
 have FC:dd F=[]↔∀p∈F.ow,dJ F p.l:=by
  rw[eq_nil_iff_forall_not_mem];refine⟨λh p Cv=>?_,λh i hi=>?_⟩
  .obtain⟨i,hi,rfl⟩:=mem_iff_getElem.1 Cv;apply Classical.byContradiction;intro hn;exact h i ((fY hF).2 ⟨hi,by rw[show owA F i=F.ow[i] from bY hi];exact hn⟩)
  .exact((fY hF).1 hi).2 (h _ (aY ((fY hF).1 hi).1))
 have KY:dd V=[]↔dd F=[]:=by
  rw[hV0,FC];refine⟨λh9 p Cv=>?_,λh9 p Cv=>?_⟩
  .obtain⟨e,he,tj⟩:=mem_flatMap.1 (hp.subset Cv);exact GE hc hW hl hp he (h9 _ (by rw[<-hl];exact mem_map.2 ⟨e,he,rfl⟩)) p tj
  .apply Classical.byContradiction;intro hn;rw[<-hl]at Cv;obtain⟨e,he,rfl⟩:=mem_map.1 Cv;obtain⟨x,t,hx,-⟩:=l5 (hW.ch e he);have tR:x∈e.2:=(by rw[hx];simp);exact hg e he hn x tR (h9 x (hp.symm.subset (mem_flatMap.2 ⟨e,he,tR⟩)))
 unfold rs;by_cases h0:dd V=[]
 .rw[if_pos h0,if_pos (KY.1 h0)];exact⟨val,h⟩
 .rw[if_neg h0,if_neg (λh9=>h0 (KY.2 h9)),B4,B4];exact(aaT hF nF hV h hW hl hp hg).emn ⟨rfl,λ_ h=>h,hw⟩ (zt hF) (zt hV)
end
def JB(f:CF):Nat:=f.ow.countP (λp=>decide (p.l∈jz f))
theorem Ap{α:Type}{p q:α->Bool}:∀{l:List α},(∀x∈l,p x=true->q x=true)->l.countP p<=l.countP q
 |[],_=>zq4 _
 |a::l,h=>by
  have h1:=Ap (p:=p) (q:=q) (l:=l) (λx hx=>h x (by simp[hx]));rw[countP_cons,countP_cons];have h2:=h a (by simp);cases hp:p a with
  |true=>rw[h2 hp];simp;omega
  |false=>simp;omega
theorem Fi{α:Type}{p q:α->Bool}:∀{l:List α},(∀x∈l,p x=true->q x=true)->(∃x∈l,p x=false/\q x=true)->l.countP p<l.countP q
 |[],_,h=>by obtain⟨x,hx,-⟩:=h;simp at hx
 |a::l,h,hx=>by
  rw[countP_cons,countP_cons];obtain⟨x,hx,h1,h2⟩:=hx;rcases mem_cons.1 hx with rfl|hx
  .have h3:=Ap (p:=p) (q:=q) (l:=l) (λx hx=>h x (by simp[hx]));rw[h1,h2];simp;omega
  .have h3:=Fi (p:=p) (q:=q) (l:=l) (λx hx=>h x (by simp[hx])) ⟨x,hx,h1,h2⟩;have h4:=h a (by simp);cases hp:p a with
   |true=>rw[h4 hp];simp;omega
   |false=>simp;omega
section
variable {w:Nat} {F V f:CF} {val:Nat->Nat} {L:List (Pr × List Pr)}
theorem QZ(hf:aj f){c:Nat}(h:dJ f c):dJ (aQ f) ((dg (cK f)).idxOf c):=by
 refine h (λc=>dJ (aQ f) ((dg (cK f)).idxOf c)) (λi i1 i5=>?_) (λp hp hr=>?_)
 .have e:(aQ f).cl.getD i 0=(dg (cK f)).idxOf (f.cl.getD i 0):=ll (cK f) (λc=>(dg (cK f)).idxOf c) i5;show dJ (aQ f) ((dg (cK f)).idxOf (f.cl.getD i 0));rw[<-e];exact dJ.root i1 i5
 .have hm:jm (dg (cK f)) p∈(aQ f).ow:=dH.2 (show jm (dg (cK f)) p∈(cK f).ow.map (jm (dg (cK f))) from mem_map.2 ⟨p,hp,rfl⟩);exact dJ.on hm hr
theorem abB(hf:aj f):JB f<=JB (aQ f):=by
 have AH:lP (wX (cK f)).ow:=(hf.fg.rn (λ_ hp=>iB hp)).lf;have hp:(aQ f).ow.Perm (f.ow.map (jm (dg (cK f)))):=ru AH;unfold JB;rw[hp.countP_eq,countP_map];refine Ap (λx hx h=>?_);have h1:=(eC hf).1 (of_decide_eq_true h);exact decide_eq_true ((eC hf.td).2 (QZ hf h1))
theorem QY(hf:aj f){a b c:Nat}(h:dJ f c):dJ (mM f a b) (cN a b c):=by
 refine h (λc=>dJ (mM f a b) (cN a b c)) (λi i1 i5=>?_) (λp hp hr=>?_)
 .show dJ (mM f a b) (cN a b (f.cl.getD i 0));rw[<-gM hf.c5 i5];exact dJ.root i1 i5
 .exact dJ.on (p:=mm a b p) (mem_map.2 ⟨p,hp,rfl⟩) hr
theorem abz(hf:aj f){a i:Nat}(hi:i<f.ow.length)(hn:¬ dJ f (owA f i).l)(ha:dJ f a)(hd:aV f a (owA f i).l=false):JB f<JB (fZ f a i):=by
 have hm:owA f i∈f.ow:=aY hi;have aH:(owA f i).l≠a:=λe=>hn (by rw[e];exact ha);have bn:=hf.m1 hd;unfold JB;show _<(f.ow.map (mm (owA f i).l a)).countP _;rw[countP_map];refine Fi (λx hx h=>?_) ⟨owA f i,hm,decide_eq_false (λh=>hn ((eC hf).1 h)),?_⟩
 .have h1:=(eC hf).1 (of_decide_eq_true h);exact decide_eq_true ((eC bn).2 (QY hf h1))
 .refine decide_eq_true ((eC bn).2 ?_);have h1:dJ (mM f (owA f i).l a) (cN (owA f i).l a a):=QY hf ha;have e1:cN (owA f i).l a a=(owA f i).l:=by unfold cN;rw[if_pos rfl]
  have e2:cN (owA f i).l a (owA f i).l=(owA f i).l:=by unfold cN;rw[if_neg aH]
  show dJ (mM f (owA f i).l a) (cN (owA f i).l a (owA f i).l);rw[e2];rw[e1]at h1;exact h1
theorem abA(hf:aj f){a i:Nat}(hi:i<f.ow.length)(hk:(owA f i).k=4)(hn:¬ dJ f (owA f i).l)(ha:dJ f a)(C8:a<24)(hb:cE f.ow a=none):JB f<JB (dC f a i):=by
 have bn:=hf.m2 (i:=i) C8 hb;have hs:(dC f a i).ow.Perm (⟨4,(owA f i).l,a⟩::⟨4,a,(owA f i).r⟩::iS f.ow i):=by
  show(f.ow.set i (⟨(owA f i).k,(owA f i).l,a⟩:Pr)++[(⟨4,a,(owA f i).r⟩:Pr)]).Perm _;rw[hk];exact((perm_append_comm (l₂:=[(⟨4,a,(owA f i).r⟩:Pr)])).trans ((iY hi (⟨4,(owA f i).l,a⟩:Pr)).cons _)).trans (List.Perm.swap _ _ _)
 have m1:(⟨4,(owA f i).l,a⟩:Pr)∈(dC f a i).ow:=hs.symm.subset (by simp);have m2:(⟨4,a,(owA f i).r⟩:Pr)∈(dC f a i).ow:=hs.symm.subset (by simp);have EJ:∀{c:Nat},dJ f c->dJ (dC f a i) c:=fun {c} h=>h (dJ (dC f a i)) (λj j1 j5=>dJ.root (f:=dC f a i) j1 j5) (λp hp hr=>by
  rcases mem_cons.1 ((cV hi).subset hp) with h9|h9
  .rw[h9]at hr ⊢;have h8:=dJ.on (p:=⟨4,a,(owA f i).r⟩) m2 (dJ.on (p:=⟨4,(owA f i).l,a⟩) m1 hr);exact h8
  .exact dJ.on (hs.symm.subset (mem_cons_of_mem _ (mem_cons_of_mem _ h9))) hr)
 unfold JB;rw[hs.countP_eq,(cV hi).countP_eq,countP_cons,countP_cons,countP_cons];have h1:decide ((f.ow.getD i ay).l∈jz f)=false:=decide_eq_false (λh=>hn ((eC hf).1 h));have h2:decide (a∈jz (dC f a i))=true:=decide_eq_true ((eC bn).2 (EJ ha));have h3:=Ap (p:=λp:Pr=>decide (p.l∈jz f)) (q:=λp:Pr=>decide (p.l∈jz (dC f a i))) (l:=iS f.ow i) (λx hx h=>decide_eq_true ((eC bn).2 (EJ ((eC hf).1 (of_decide_eq_true h)))));simp only[h1,h2];simp;omega
theorem Wq(hW:Ts val L):L.length<=(L.flatMap (·.2)).length:=by
 induction L with
 |nil=>simp
 |cons e L ih =>
  rw[flatMap_cons,length_append,length_cons];have h1:=ih ⟨λx hx=>hW.ch x (by simp[hx]),λx hx=>hW.k x (by simp[hx])⟩;obtain⟨x,t,hx,-⟩:=l5 (hW.ch e (by simp));have h2:e.2.length=t.length+1:=by rw[hx];rfl
  omega
end
