import Derived.Test.YtciihepbeacppaaGreatM11
import Derived.Deep.Cut
import Derived.Deep.CutRange
import Derived.Deep.DeepCutAuto
set_option maxRecDepth 100000
set_option maxHeartbeats 0
namespace Go.Proofs.YtciihepbeacppaaGreat
open Tryz Go.RowKit List World Below
set_option linter.unusedVariables false
def rI:List Pr->Nat->Nat->Prop
 |[],_,_=>False
 |[q],a,e=>q.l=a/\q.r=e
 |q::q'::r,a,e=>q.l=a/\rI (q'::r) q.r e
def nM(val:Nat->Nat):List Pr->List Pr->Prop
 |[],cs=>cs=[]
 |p::r,cs=>∃q cs',cs.Perm (q++cs')/\rI q (val p.l) (val p.r)/\(p.k≠4->∃x,q=[x]/\x.k≠4)/\nM val r cs'
structure el(r:Nat->Nat)(w:Nat)(F:CF)(val:Nat->Nat)(X:List Pr)(V:CF):Prop where
 cl:∀i,i<5->val (V.cl.getD i 0)=F.cl.getD (r i) 0
 ap:∀p∈V.ap,p.l∈bQ V->p.r∈bQ V->bj F (val p.l) (val p.r)=true
 sp:∃cs,F.ow.Perm (X++cs)/\nM val V.ow cs
 nm:∀x∈X,x.l=F.cl.getD (1+w) 0/\x.r=F.cl.getD 0 0
def DV(r:Nat->Nat)(w:Nat)(F V:CF):Prop:=∃val X,el r w F val X V
section
variable {val:Nat->Nat} {cs cs':List Pr}
theorem EU{q:List Pr}{a e:Nat}(h:rI q a e):∃x t,q=x::t/\x.l=a:=by
 cases q with
 |nil=>exact h.elim
 |cons x t =>
  refine⟨x,t,rfl,?_⟩;cases t with
  |nil=>exact h.1
  |cons y t=>exact h.1
theorem zG:∀{q:List Pr} {a e:Nat},rI q a e->∃x t,q=t++[x]/\x.r=e
 |[],_,_,h=>h.elim
 |[x],_,_,h=>⟨x,[],rfl,h.2⟩
 |x::y::t,a,e,h=>by
  obtain⟨z,u,h1,h2⟩:=zG h.2;exact⟨z,x::u,by rw[h1];rfl,h2⟩
theorem uT{x:Pr}{q:List Pr}{e:Nat}(h:rI q x.r e):rI (x::q) x.l e:=by
 cases q with
 |nil=>exact h.elim
 |cons y t=>exact⟨rfl,h⟩
theorem zF:∀{q u:List Pr} {a b e:Nat},rI q a b->rI u b e->rI (q++u) a e
 |[],_,_,_,_,h,_=>h.elim
 |[x],u,a,b,e,h,h'=>by
  obtain⟨rfl,rfl⟩:=h;exact uT h'
 |x::y::t,u,a,b,e,h,h'=>⟨h.1,zF h.2 h'⟩
theorem MI{a b:Pr}{r:List Pr}(h:nM val (a::b::r) cs):nM val (b::a::r) cs:=by
 obtain⟨q,c1,h1,h2,h3,u,c2,k1,k2,k3,k4⟩:=h;refine⟨u,q++c2,?_,k2,k3,q,c2,List.Perm.refl _,h2,h3,k4⟩;refine h1.trans ((k1.append_left q).trans ?_);rw[<-append_assoc,<-append_assoc];exact perm_append_comm.append_right c2
theorem dC{l l':List Pr}(h:l.Perm l'):∀{cs:List Pr},nM val l cs->nM val l' cs:=by
 induction h with
 |nil=>exact λh=>h
 |cons x _ ih =>
  rintro cs ⟨q,c,h1,h2,h3,h4⟩;exact⟨q,c,h1,h2,h3,ih h4⟩
 |swap x y t=>exact λh=>MI h
 |trans _ _ ih1 ih2=>exact λh=>ih2 (ih1 h)
theorem ym:∀{a b:List Pr} {cs:List Pr},nM val (a++b) cs->∃ca cb,cs.Perm (ca++cb)/\nM val a ca/\nM val b cb
 |[],b,cs,h=>⟨[],cs,List.Perm.refl _,rfl,h⟩
 |p::a,b,cs,h=>by
  obtain⟨q,c,h1,h2,h3,h4⟩:=h;obtain⟨ca,cb,k1,k2,k3⟩:=ym h4;exact⟨q++ca,cb,h1.trans (by rw[append_assoc];exact k1.append_left q),⟨q,ca,List.Perm.refl _,h2,h3,k2⟩,k3⟩
theorem uL{v':Nat->Nat}{g:Pr->Pr}{ph:Nat->Nat}{G:Pr->Pr}(hG:∀x,(G x).l=ph x.l/\(G x).r=ph x.r/\((G x).k=4↔x.k=4)):∀{l cs:List Pr},(∀p∈l,((g p).k≠4->p.k≠4)/\v' (g p).l=ph (val p.l)/\v' (g p).r=ph (val p.r))->nM val l cs->nM v' (l.map g) (cs.map G)
 |[],_,_,h=>by
  have h:_=[]:=h;rw[h];rfl
 |p::r,cs,hg,h=>by
  obtain⟨q,c,h1,h2,h3,h4⟩:=h;obtain⟨g1,g2,g3⟩:=hg p (by simp);have hc:∀{q:List Pr} {a e:Nat},rI q a e->rI (q.map G) (ph a) (ph e):=by
   intro q;induction q with
   |nil=>intro a e h;exact h.elim
   |cons x t ih =>
    intro a e h;cases t with
    |nil=>exact⟨by rw[(hG x).1,h.1],by rw[(hG x).2.1,h.2]⟩
    |cons y t =>
     refine⟨by rw[(hG x).1,h.1],?_⟩;have:=ih h.2;rw[<-(hG x).2.1]at this;exact this
  refine⟨q.map G,c.map G,?_,by rw[g2,g3];exact hc h2,λhk=>?_,uL hG (λp hp=>hg p (by simp[hp])) h4⟩
  .rw[<-map_append];exact h1.map G
  .obtain⟨x,rfl,hx⟩:=h3 (g1 hk);exact⟨G x,rfl,λe=>hx ((hG x).2.2.1 e)⟩
theorem yl{v':Nat->Nat}{l:List Pr}(h:∀p∈l,v' p.l=val p.l/\v' p.r=val p.r)(hs:nM val l cs):nM v' l cs:=by
 have:=uL (v':=v') (g:=id) (ph:=id) (G:=id) (λx=>⟨rfl,rfl,Iff.rfl⟩) (λp hp=>⟨λh=>h,h p hp⟩) hs;rwa [map_id,map_id]at this
theorem uK{l:List Pr}{p:Pr}(hp:p∈l)(h:nM val l cs):∃x∈cs,x.l=val p.l:=by
 induction l generalizing cs with
 |nil=>simp at hp
 |cons a r ih =>
  obtain⟨q,c,h1,h2,h3,h4⟩:=h;rcases mem_cons.1 hp with rfl|hp
  .obtain⟨x,t,rfl,hx⟩:=EU h2;exact⟨x,h1.symm.subset (by simp),hx⟩
  .obtain⟨x,hx,he⟩:=ih hp h4;exact⟨x,h1.symm.subset (mem_append_right _ hx),he⟩
theorem JQ{l:List Pr}{i:Nat}(hi:i<l.length)(h:nM val l cs):nM val (l.getD i ax::jr l i) cs:=dC (dZ hi) h
theorem Hc{v:Nat->Nat}:∀{q cq:List Pr} {a e:Nat},rI q a e->nM v q cq->∃c,c.Perm cq/\rI c (v a) (v e)
 |[],_,_,_,h,_=>h.elim
 |[x],cq,a,e,h,hs=>by
  obtain⟨rfl,rfl⟩:=h;obtain⟨u,c,h1,h2,-,h4⟩:=hs;have h4:c=[]:=h4;rw[h4,append_nil]at h1;exact⟨u,h1.symm,h2⟩
 |x::y::t,cq,a,e,h,hs=>by
  obtain⟨rfl,h'⟩:=h;obtain⟨u,c,h1,h2,-,h4⟩:=hs;obtain⟨c',k1,k2⟩:=Hc h' h4;exact⟨u++c',(k1.append_left u).trans h1.symm,zF h2 k2⟩
theorem yo{v1 v2:Nat->Nat}:∀{U V cs:List Pr},nM v2 U V->nM v1 V cs->nM (λc=>v1 (v2 c)) U cs
 |[],V,cs,h,h'=>by
  have h:V=[]:=h;rw[h]at h';exact h'
 |p::r,V,cs,h,h'=>by
  obtain⟨q,V',h1,h2,h3,h4⟩:=h;obtain⟨ca,cb,k1,k2,k3⟩:=ym (dC h1 h');obtain⟨c,e1,e2⟩:=Hc h2 k2;refine⟨c,cb,k1.trans (e1.symm.append_right cb),e2,λhk=>?_,yo h4 k3⟩;obtain⟨x,rfl,hx⟩:=h3 hk;obtain⟨u,c',j1,-,j3,j4⟩:=k2;obtain⟨y,rfl,hy⟩:=j3 hx;have j4:c'=[]:=j4;rw[j4,append_nil]at j1;exact⟨y,perm_singleton.1 (e1.trans j1),hy⟩
end
section
variable {r:Nat->Nat} {w:Nat} {F V U:CF} {val v2:Nat->Nat} {X:List Pr}
theorem AT{l l':List Pr}(h:mM l)(hp:l.Perm l'):mM l':=(hp.map _).nodup_iff.1 h
theorem aaX{l:List Pr}(h:mM l){x y:Pr}(hx:x∈l)(hy:y∈l)(e:x.l=y.l):x=y:=by
 obtain⟨i,h1,h2⟩:=uR h hx;obtain⟨j,h3,h4⟩:=uR h hy;rw[e]at h1;rw[h1]at h3;injection h3 with h3;rw[<-h2,<-h4,h3]
theorem qo{l:List Pr}{c:Nat}:(cU l c).isSome=true↔∃p∈l,p.l=c:=by
 constructor
 .intro h;obtain⟨i,hi⟩:=Option.isSome_iff_exists.1 h;exact⟨l.getD i ax,tO hi,(eC hi).2⟩
 .rintro⟨p,hp,e⟩;cases hb:cU l c with
  |some i=>rfl
  |none=>exact absurd e (pC hb p hp)
theorem gD{f:CF}{a b:Nat}:lV f a b=true↔((∃p∈f.ow,p.l=a)/\((∃p∈f.ow,p.l=b)\/b=f.cl.getD 0 0))\/((∃p∈f.ow,p.l=b)/\a=f.cl.getD 0 0):=by
 unfold lV;rw[Bool.or_eq_true,Bool.and_eq_true,Bool.and_eq_true,Bool.or_eq_true,qo,qo,beq_iff_eq,beq_iff_eq]
theorem de{f:CF}{a b:Nat}:bj f a b=true↔a≠b/\((∃p∈f.ap,(p.l=a/\p.r=b)\/(p.l=b/\p.r=a))\/lV f a b=true):=by
 unfold bj;by_cases e:a=b
 .rw[if_pos e];constructor
  .intro h;cases h
  .rintro⟨h,-⟩;exact absurd e h
 .rw[if_neg e,Bool.or_eq_true,any_eq_true];constructor
  .rintro(⟨p,hp,h⟩|h)
   .refine⟨e,zq0 ⟨p,hp,?_⟩⟩;simpa using h
   .exact⟨e,zq1 h⟩
  .rintro⟨-,⟨p,hp,h⟩|h⟩
   .exact zq0 ⟨p,hp,by simpa using h⟩
   .exact zq1 h
theorem qp{f:CF}{a b:Nat}(h:bj f a b=true):bj f b a=true:=by
 rw[de]at h ⊢;obtain⟨h1,h2⟩:=h;refine⟨h1.symm,?_⟩;rcases h2 with⟨p,hp,h2⟩|h2
 .exact zq0 ⟨p,hp,h2.symm⟩
 .right;rw[gD]at h2 ⊢;rcases h2 with⟨h3,h4|h4⟩|⟨h3,h4⟩
  .exact zq0 ⟨h4,zq0 h3⟩
  .exact zq1 ⟨h3,h4⟩
  .exact zq0 ⟨h3,zq1 h4⟩
theorem el.head(h:el r w F val X V){p:Pr}(hp:p∈V.ow):∃x∈F.ow,x.l=val p.l:=by
 obtain⟨cs,h1,h2⟩:=h.sp;obtain⟨x,hx,e⟩:=uK hp h2;exact⟨x,h1.symm.subset (mem_append_right _ hx),e⟩
theorem YD{l cs:List Pr}(hc:mM cs)(hl:mM l)(h:nM val l cs):∀p∈l,∀p'∈l,val p.l=val p'.l->p=p':=by
 induction l generalizing cs with
 |nil=>intro p hp;simp at hp
 |cons a l ih =>
  obtain⟨q,c,h1,h2,h3,h4⟩:=h;have tr:=AT hc h1;have hn:((q++c).map (·.l)).Nodup:=tr;rw[map_append]at hn;obtain⟨n1,n2,n3⟩:=nodup_append.1 hn;have vt:mM l:=(nodup_cons.1 hl).2;obtain⟨x,t,rfl,hx⟩:=EU h2;have key:∀p∈l,val a.l≠val p.l:=λp hp e=>by
   obtain⟨y,hy,he⟩:=uK hp h4;exact n3 x.l (by simp) y.l (mem_map_of_mem (f:=(·.l)) hy) (by rw[hx,he,e])
  intro p hp p' In e;rcases mem_cons.1 hp with h5|h5 <;> rcases mem_cons.1 In with h6|h6
  .rw[h5,h6]
  .rw[h5]at e;exact absurd e (key p' h6)
  .rw[h6]at e;exact absurd e.symm (key p h5)
  .exact ih n2 vt h4 p h5 p' h6 e
theorem el.dif(h:el r w F val X V)(hF:mM F.ow)(hN:∀p∈F.ow,p.l≠F.cl.getD 0 0)(h0:r 0=0)(hV:mM V.ow)(hL:∀p∈V.ap,p.l∈bQ V/\p.r∈bQ V){a b:Nat}(hd:bj V a b=true):bj F (val a) (val b)=true:=by
 have c0:val (V.cl.getD 0 0)=F.cl.getD 0 0:=by rw[h.cl 0 (by omega),h0]
 obtain⟨h1,h2⟩:=de.1 hd;rcases h2 with⟨p,hp,⟨rfl,rfl⟩|⟨rfl,rfl⟩⟩|h2
 .exact h.ap p hp (hL p hp).1 (hL p hp).2
 .exact qp (h.ap p hp (hL p hp).1 (hL p hp).2)
 .obtain⟨cs,s1,s2⟩:=h.sp;have ts:mM cs:=by
   have:=AT hF s1;unfold mM at this ⊢;rw[map_append]at this;exact(nodup_append.1 this).2.1
  rw[de,gD];rw[gD]at h2;rcases h2 with⟨⟨p,hp,rfl⟩,⟨p',In,rfl⟩|rfl⟩|⟨⟨p,hp,rfl⟩,rfl⟩
  .refine⟨λe=>?_,zq1 (zq0 ⟨h.head hp,zq0 (h.head In)⟩)⟩;exact h1 (by rw[YD ts hV s2 p hp p' In e])
  .obtain⟨x,hx,ex⟩:=h.head hp;exact⟨λe=>hN x hx (by rw[ex,e,c0]),zq1 (zq0 ⟨⟨x,hx,ex⟩,zq1 c0⟩)⟩
  .obtain⟨x,hx,ex⟩:=h.head hp;exact⟨λe=>hN x hx (by rw[ex,<-e,c0]),zq1 (zq1 ⟨⟨x,hx,ex⟩,c0⟩)⟩
end
def Wt(f:CF):Prop:=∀p∈f.ap,p.l∈bQ f/\p.r∈bQ f
theorem fR{f:CF}{p:Pr}(hp:p∈f.ow):p.l∈bQ f/\p.r∈bQ f:=⟨mem_append_right _ (mem_flatMap.2 ⟨p,hp,by simp⟩),mem_append_right _ (mem_flatMap.2 ⟨p,hp,by simp⟩)⟩
theorem vP{f:CF}{i:Nat}(hi:i<5):f.cl.getD i 0∈bQ f:=mem_append_left _ (eQ hi)
theorem yU{f:CF}{c:Nat}(h:c∈bQ f):(∃i,i<5/\c=f.cl.getD i 0)\/∃p∈f.ow,c=p.l\/c=p.r:=by
 rcases mem_append.1 h with h|h
 .left;unfold kP at h;simp only[mem_cons,not_mem_nil,or_false]at h;rcases h with h|h|h|h|h
  .exact⟨0,by omega,h⟩
  .exact⟨1,by omega,h⟩
  .exact⟨2,by omega,h⟩
  .exact⟨3,by omega,h⟩
  .exact⟨4,by omega,h⟩
 .right;obtain⟨p,hp,h⟩:=mem_flatMap.1 h;exact⟨p,hp,by simpa using h⟩
theorem FZ{f:CF}(hf:aq f):Wt (aZ f):=by
 intro p hp;obtain⟨q,hq,rfl⟩:=mem_map.1 (dA.1 (show p∈mh ((qg (dm f)).ap.map iU) from hp));obtain⟨u,hu,rfl⟩:=mem_map.1 (show q∈(dm f).ap.map (jf (b8 (dm f))) from hq);have key:∀c,c∈bQ (dm f)->(b8 (dm f)).idxOf c∈bQ (aZ f):=λc hc=>by
  rcases yU hc with⟨i,hi,rfl⟩|⟨x,hx,h⟩
  .have e:(aZ f).cl.getD i 0=(b8 (dm f)).idxOf ((dm f).cl.getD i 0):=gC (dm f) (λc=>(b8 (dm f)).idxOf c) hi;rw[<-e];exact vP hi
  .have hm:jf (b8 (dm f)) x∈(aZ f).ow:=dA.2 (show jf (b8 (dm f)) x∈(dm f).ow.map (jf (b8 (dm f))) from mem_map.2 ⟨x,hx,rfl⟩);rcases h with rfl|rfl
   .exact(fR hm).1
   .exact(fR hm).2
 obtain⟨h1,h2⟩:=gF hu;have e:(iU (jf (b8 (dm f)) u)).l∈bQ (aZ f)/\(iU (jf (b8 (dm f)) u)).r∈bQ (aZ f):=by
  unfold iU;split
  .exact⟨key _ h2,key _ h1⟩
  .exact⟨key _ h1,key _ h2⟩
 exact e
section
variable {r:Nat->Nat} {w:Nat} {F V:CF} {val:Nat->Nat} {X:List Pr}
theorem el.tdV(hV:aq V)(h:el r w F val X V):∃val',el r w F val' X (aZ V):=by
 have hf:=hV.fg;have ic:=iQ hf.ow hf.cl hf.lf;have hv:∀c,c∈bQ (dm V)->val ((b8 (dm V)).getD ((b8 (dm V)).idxOf c) 0)=val c:=λc hc=>by
  have hm:=ic c hc;rw[getD_eq_getElem?_getD,getElem?_eq_getElem (idxOf_lt_length_iff.2 hm)];simp
 refine⟨λn=>val ((b8 (dm V)).getD n 0),λi hi=>?_,λp hp _ _=>?_,?_,h.nm⟩
 .have e:(aZ V).cl.getD i 0=(b8 (dm V)).idxOf ((dm V).cl.getD i 0):=gC (dm V) (λc=>(b8 (dm V)).idxOf c) hi;rw[e,hv _ (vP hi)];exact h.cl i hi
 .obtain⟨q,hq,rfl⟩:=mem_map.1 (dA.1 (show p∈mh ((qg (dm V)).ap.map iU) from hp));obtain⟨u,hu,rfl⟩:=mem_map.1 (show q∈(dm V).ap.map (jf (b8 (dm V))) from hq);obtain⟨l1,l2⟩:=gF hu;have hd:=h.ap u (mem_filter.1 hu).1 l1 l2;rw[<-hv _ l1,<-hv _ l2]at hd;unfold iU;split
  .exact qp hd
  .exact hd
 .obtain⟨cs,s1,s2⟩:=h.sp;refine⟨cs,s1,?_⟩;have Mc:mM (qg (dm V)).ow:=(hf.rn (λ_ hp=>gF hp)).lf;refine dC (re Mc).symm ?_;have:=uL (val:=val) (v':=λn=>val ((b8 (dm V)).getD n 0)) (g:=jf (b8 (dm V))) (ph:=id) (G:=id) (λx=>⟨rfl,rfl,Iff.rfl⟩) (l:=V.ow) (λp hp=>⟨λh=>h,hv _ (fR (f:=dm V) hp).1,hv _ (fR (f:=dm V) hp).2⟩) s2;rw[map_id]at this;exact this
theorem uJ{l cs:List Pr}{p:Pr}(hp:p∈l)(h:nM val l cs):(∃x∈cs,x.l=val p.l)/\∃x∈cs,x.r=val p.r:=by
 refine⟨uK hp h,?_⟩;induction l generalizing cs with
 |nil=>simp at hp
 |cons a l ih =>
  obtain⟨q,c,h1,h2,h3,h4⟩:=h;rcases mem_cons.1 hp with rfl|hp
  .obtain⟨x,t,rfl,hx⟩:=zG h2;exact⟨x,h1.symm.subset (by simp),hx⟩
  .obtain⟨x,hx,he⟩:=ih hp h4;exact⟨x,h1.symm.subset (mem_append_right _ hx),he⟩
theorem el.live(hr:∀i,i<5->r i<5)(h:el r w F val X V){c:Nat}(hc:c∈bQ V):val c∈bQ F:=by
 rcases yU hc with⟨i,hi,rfl⟩|⟨p,hp,e⟩
 .rw[h.cl i hi];exact vP (hr i hi)
 .obtain⟨cs,s1,s2⟩:=h.sp;obtain⟨⟨x,hx,ex⟩,y,hy,ey⟩:=uJ hp s2;rcases e with rfl|rfl
  .rw[<-ex];exact(fR (s1.symm.subset (mem_append_right _ hx))).1
  .rw[<-ey];exact(fR (s1.symm.subset (mem_append_right _ hy))).2
theorem YZ(hF:aq F){a b:Nat}(ha:a∈bQ F)(hb:b∈bQ F)(h:bj F a b=true):bj (aZ F) ((b8 F).idxOf a) ((b8 F).idxOf b)=true:=by
 have C3:=Gr F;have ic:=iQ hF.ow hF.cl hF.lf;obtain⟨h1,h2⟩:=de.1 h;rw[de];refine⟨λe=>h1 (Ar (ic a ha) (ic b hb) e),?_⟩;have oZ:∀q∈F.ow,∃y∈(aZ F).ow,y.l=(b8 F).idxOf q.l:=λq hq=>⟨jf (b8 (dm F)) q,dA.2 (show jf (b8 (dm F)) q∈(dm F).ow.map (jf (b8 (dm F))) from mem_map.2 ⟨q,hq,rfl⟩),by show(b8 (dm F)).idxOf q.l=_;rw[C3]⟩;have Ek:(aZ F).cl.getD 0 0=(b8 F).idxOf (F.cl.getD 0 0):=by
  have e:(aZ F).cl.getD 0 0=(b8 (dm F)).idxOf ((dm F).cl.getD 0 0):=gC (dm F) (λc=>(b8 (dm F)).idxOf c) (by omega);rw[e,C3];rfl
 have afF:lV F a b=true->lV (aZ F) ((b8 F).idxOf a) ((b8 F).idxOf b)=true:=λhc=>by
  rw[gD]at hc ⊢;rw[Ek];rcases hc with⟨⟨p,hp,rfl⟩,⟨p',In,rfl⟩|rfl⟩|⟨⟨p,hp,rfl⟩,rfl⟩
  .exact zq0 ⟨oZ p hp,zq0 (oZ p' In)⟩
  .exact zq0 ⟨oZ p hp,zq1 rfl⟩
  .exact zq1 ⟨oZ p hp,rfl⟩
 rcases h2 with⟨p,hp,pL⟩|h2
 .by_cases hg:xQ F p=true
  .left;have hm:jf (b8 (dm F)) p∈(qg (dm F)).ap:=mem_map.2 ⟨p,mem_filter.2 ⟨hp,hg⟩,rfl⟩;refine⟨iU (jf (b8 (dm F)) p),dA.2 (mem_map.2 ⟨_,hm,rfl⟩),?_⟩;have e1:(jf (b8 (dm F)) p).l=(b8 F).idxOf p.l:=(by show(b8 (dm F)).idxOf p.l=_;rw[C3]);have e2:(jf (b8 (dm F)) p).r=(b8 F).idxOf p.r:=(by show(b8 (dm F)).idxOf p.r=_;rw[C3]);unfold iU;rcases pL with⟨rfl,rfl⟩|⟨rfl,rfl⟩ <;> split
   .exact zq1 ⟨e2,e1⟩
   .exact zq0 ⟨e1,e2⟩
   .exact zq0 ⟨e2,e1⟩
   .exact zq1 ⟨e1,e2⟩
  .right;apply afF;have yN:p.l∈bQ F/\p.r∈bQ F:=(by rcases pL with⟨rfl,rfl⟩|⟨rfl,rfl⟩;exact⟨ha,hb⟩;exact⟨hb,ha⟩);unfold xQ at hg;rw[decide_eq_true yN.1,decide_eq_true yN.2]at hg;have hc:lV F p.l p.r=true:=(by simpa using hg);rcases pL with⟨rfl,rfl⟩|⟨rfl,rfl⟩
   .exact hc
   .rw[gD]at hc ⊢;rcases hc with⟨h3,h4|h4⟩|⟨h3,h4⟩
    .exact zq0 ⟨h4,zq0 h3⟩
    .exact zq1 ⟨h3,h4⟩
    .exact zq0 ⟨h3,zq1 h4⟩
 .exact zq1 (afF h2)
theorem el.tdF'(hr:∀i,i<5->r i<5)(hw:w<4)(hF:aq F)(h:el r w F val X V):el r w (aZ F) (λc=>(b8 F).idxOf (val c)) (X.map (jf (b8 F))) V:=by
 have C3:=Gr F;have dp:∀i,i<5->(aZ F).cl.getD i 0=(b8 F).idxOf (F.cl.getD i 0):=λi hi=>by
  have e:(aZ F).cl.getD i 0=(b8 (dm F)).idxOf ((dm F).cl.getD i 0):=gC (dm F) (λc=>(b8 (dm F)).idxOf c) hi;rw[e,C3];rfl
 refine⟨λi hi=>by rw[dp _ (hr i hi),h.cl i hi],λp hp l1 l2=>YZ hF (h.live hr l1) (h.live hr l2) (h.ap p hp l1 l2),?_,λx hx=>?_⟩
 .obtain⟨cs,s1,s2⟩:=h.sp;have Mc:mM (qg (dm F)).ow:=(hF.fg.rn (λ_ hp=>gF hp)).lf;refine⟨cs.map (jf (b8 F)),?_,?_⟩
  .have e1:((qg (dm F)).ow).Perm (X.map (jf (b8 F))++cs.map (jf (b8 F))):=by
    show(F.ow.map (jf (b8 (dm F)))).Perm _;rw[C3,<-map_append];exact s1.map _
   exact(re Mc).trans e1
  .have:=uL (val:=val) (v':=λc=>(b8 F).idxOf (val c)) (g:=id) (ph:=λc=>(b8 F).idxOf c) (G:=jf (b8 F)) (λx=>⟨rfl,rfl,Iff.rfl⟩) (l:=V.ow) (λp hp=>⟨λh=>h,rfl,rfl⟩) s2;rw[map_id]at this;exact this
 .obtain⟨y,hy,rfl⟩:=mem_map.1 hx;obtain⟨e1,e2⟩:=h.nm y hy;rw[dp _ (by omega),dp 0 (by omega)];exact⟨by show(b8 F).idxOf y.l=_;rw[e1],by show(b8 F).idxOf y.r=_;rw[e2]⟩
end
section
variable {V T:CF} {b:Nat->Option Nat}
theorem Hd:∀{L:List Nat} {a e:Nat},M9 V L a e->rI (L.map (λi=>V.ow.getD i ax)) a e
 |[],_,_,h=>h.elim
 |[i],_,_,h=>h
 |i::j::r,a,e,h=>⟨h.1,Hd (L:=j::r) h.2⟩
theorem Co:∀{ks fr:List Nat},iW V T b ks fr->nM (λc=>(b c).getD 0) (ks.map (λk=>T.ow.getD k ax)) (fr.map (λi=>V.ow.getD i ax))/\∀k∈ks,(b (T.ow.getD k ax).l).isSome=true/\(b (T.ow.getD k ax).r).isSome=true
 |[],fr,h=>by
  have h:fr=[]:=h;rw[h];exact⟨rfl,λk hk=>by simp at hk⟩
 |k::ks,fr,h=>by
  obtain⟨L,rest,h1,⟨a,e,h2,h3,h4⟩,h5,h6⟩:=h;obtain⟨g1,g2⟩:=Co h6;refine⟨⟨L.map (λi=>V.ow.getD i ax),rest.map (λi=>V.ow.getD i ax),?_,?_,λhk=>?_,g1⟩,λk' BP=>?_⟩
  .rw[<-map_append];exact h1.map _
  .show rI _ ((b (T.ow.getD k ax).l).getD 0) ((b (T.ow.getD k ax).r).getD 0);rw[h2,h3];exact Hd h4
  .obtain⟨i,rfl,hi⟩:=h5 hk;exact⟨_,rfl,hi⟩
  .rcases mem_cons.1 BP with rfl|BP
   .rw[h2,h3];exact⟨rfl,rfl⟩
   .exact g2 k' BP
theorem E2{f g:CF}{w:Nat}(hg:aq g)(hw:xF f g=true):∃val,el (λi=>i) w f val [] g:=by
 unfold xF at hw;rw[Bool.and_eq_true]at hw;obtain⟨-,hw⟩:=hw;cases kS:xP f g [0,1,2,3,4] (replicate 24 none) with
 |none=>rw[kS]at hw;cases hw
 |some an =>
  rw[kS]at hw;obtain⟨g1,_,g3,_⟩:=uX (λi _=>hg.get i) (by decide) (by simp) kS;have Ag:uP (lQ f g an 128)=range g.ow.length:=by
   unfold uP lQ;simp only[length_replicate];rw[filter_eq_self];intro k hk;have:=mem_range.1 hk;simp[getD_eq_getElem?_getD,this]
  have iX:qa (lQ f g an 128)=range f.ow.length:=by
   unfold qa lQ;simp only[length_replicate];rw[filter_eq_self];intro k hk;have:=mem_range.1 hk;simp[getD_eq_getElem?_getD,this]
  have rB:Wf f g (lQ f g an 128):=⟨by simp[lQ],by simp[lQ],g1,by rw[iX];simp[lQ]⟩;obtain⟨he,eU,-,L7⟩:=(so hg.ow (wY hg.ow _) _ _ rB (by rw[Ag];simp) true (D9 f g an 128).2 (Prod.ext hw rfl)).2 rfl;rw[Ag,iX]at L7;obtain⟨d1,d2⟩:=Co L7;rw[pR,pR]at d1;have dp:∀i,i<5->(D9 f g an 128).2.b (g.cl.getD i 0)=some (f.cl.getD i 0):=λi hi=>he _ _ (g3 i (by simp;omega));have CS:∀c,c∈bQ g->((D9 f g an 128).2.b c).isSome=true:=λc hc=>by
   rcases yU hc with⟨i,hi,rfl⟩|⟨p,hp,e⟩
   .rw[dp i hi];rfl
   .obtain⟨k,hk,rfl⟩:=mem_iff_getElem.1 hp;have:=d2 k (by simpa using hk);rw[cQ hk]at this;rcases e with rfl|rfl
    .exact this.1
    .exact this.2
  refine⟨λc=>((D9 f g an 128).2.b c).getD 0,λi hi=>by rw[dp i hi];rfl,λp hp l1 l2=>?_,⟨f.ow,by simp,d1⟩,λx hx=>by simp at hx⟩;have:=all_eq_true.1 eU p hp;simp only[Bool.and_eq_true,bne_iff_ne]at this;obtain⟨-,hx⟩:=this;obtain⟨a,ha⟩:=Option.isSome_iff_exists.1 (CS _ l1);obtain⟨c,hc⟩:=Option.isSome_iff_exists.1 (CS _ l2);rw[ha,hc]at hx;show bj f (((D9 f g an 128).2.b p.l).getD 0) (((D9 f g an 128).2.b p.r).getD 0)=true;rw[ha,hc];exact hx
end
def fx(F:CF):Prop:=∀B:Nat->Prop,(∀i,i<5->B (F.cl.getD i 0))->(∀p∈F.ow,B p.l->B p.r)->∀p∈F.ow,B p.l
section
variable {cs cs':List (Int × Int)} {s:Nat->Int} {f g:CF} {val:Nat->Int}
theorem aa7(f:CF){i:Nat}(hi:i<5):f.cl.getD i 0<=qf f:=by
 have:i=0\/i=1\/i=2\/i=3\/i=4:=by omega
 unfold qf;rcases this with rfl|rfl|rfl|rfl|rfl <;> omega
theorem sd(f:CF){i:Nat}(hi:i<5):f.cl.getD i 0<aw f:=by
 have h1:=aa7 f hi;have h2:=(iZ f.ow (qf f)).1;have h3:=(iZ f.ap (qT (qf f) f.ow)).1;unfold aw;omega
theorem lu(f:CF){p:Pr}(hp:p∈f.ow):p.l<aw f/\p.r<aw f:=by
 have h2:=(iZ f.ow (qf f)).2 p hp;have h3:=(iZ f.ap (qT (qf f) f.ow)).1;unfold aw;omega
theorem IX(f:CF){p:Pr}(hp:p∈f.ap):p.l<aw f/\p.r<aw f:=by
 have h3:=(iZ f.ap (qT (qf f) f.ow)).2 p hp;unfold aw;omega
theorem ng(h5:f.cl.length=5){a b i:Nat}(hi:i<5):(qe f a b).cl.getD i 0=ek a b (f.cl.getD i 0):=by
 show(f.cl.map (ek a b)).getD i 0=_;simp[getD_eq_getElem?_getD,h5,hi]
theorem nH(h5:f.cl.length=5){i j c:Nat}(hi:i<5):(setC f i c).cl.getD j 0=if i=j then c else f.cl.getD j 0:=by
 show(f.cl.set i c).getD j 0=_;exact cM _ _ _ _ _ (by omega)
theorem pT{l:List Pr}{i:Nat}(hi:i<l.length)(x:Pr):(l.set i x).Perm (x::jr l i):=by
 have h1:=DM hi x;have h2:=((Ls hi).symm.trans (dZ hi)).cons_inv;exact h1.trans (h2.cons x)
theorem pV{l:List Pr}{i:Nat}{p:Pr}(h:p∈jr l i):p∈l:=(mj l i).subset h
theorem lR{l:List Pr}{c i:Nat}(h:cU l c=some i):i<l.length/\(l.getD i ax).l=c:=eC h
theorem kz{c j:Nat}(h:cU g.ow c=some j):pZ g c=j:=by unfold pZ;rw[h];rfl
end
theorem Hu{f:CF}(h:aq f)(k:Nat):aq (jD f k)/\(jD f k).ap=f.ap:=by
 refine⟨aq.mk' h.c5 h.cl' ?_ h.ap ?_ h.kd,rfl⟩
 .intro p hp;obtain⟨q,hq,rfl⟩:=mem_map.1 ((mj _ k).subset hp);unfold fo1;split
  .exact⟨(h.ow q hq).1,(h.oA k).2⟩
  .exact h.ow q hq
 .have hl:=h.lf;unfold mM at hl ⊢;refine List.Nodup.sublist ((mj _ k).map _) ?_;rw[map_map];have e:((λx:Pr=>x.l) ∘ fo1 (f.ow.getD k ax).l (f.ow.getD k ax).r)=(λx:Pr=>x.l):=by
   funext x;simp only[Function.comp,fo1];split <;> rfl
  rw[e];exact hl
theorem df:∀(n:Nat) {f:CF},aq f->aq (dM n f)/\(dM n f).ap=f.ap
 |0,_,h=>⟨h,rfl⟩
 |n+1,f,h=>by
  unfold dM;split
  .exact⟨h,rfl⟩
  .rename_i k _;obtain⟨h1,h2⟩:=Hu h k;obtain⟨g1,g2⟩:=df n h1;exact⟨g1,g2.trans h2⟩
theorem ua{c:Cd}{n:Nat}{f:CF}(h:Td f):Td (bm c n f):=by
 unfold bm;split
 .exact(df _ h.ok).1.tidy
 .exact h
def pY(s:Sr):Prop:=∀l∈s.kn,∀e∈l,Td e.f
theorem pY.at{s:Sr}(h:pY s)(n:Nat):∀e∈a7 s n,Td e.f:=by
 unfold a7;intro e he;by_cases hn:n<s.kn.length
 .rw[getD_eq_getElem?_getD,getElem?_eq_getElem hn]at he;exact h _ (getElem_mem hn) e he
 .rw[getD_eq_getElem?_getD,getElem?_eq_none (by omega)]at he;simp at he
theorem pY.set{s:Sr}(h:pY s)(n:Nat){l:List gT}(hl:∀e∈l,Td e.f):∀l'∈s.kn.set n l,∀e∈l',Td e.f:=by
 intro l' h' e he;rcases mem_or_eq_of_mem_set h' with h'|rfl
 .exact h l' h' e he
 .exact hl e he
theorem Ay{c:Cd}{n:Nat}{f:CF}{s:Sr}(hf:Td f)(h:pY s):pY (bF c n f s):=by
 unfold bF;split
 .exact h
 .show pY (pU c (nk n (bm c n f) (mG c s _)));show ∀l∈(s.kn.set n _),_;refine h.set n (λe he=>?_);rcases mem_append.1 he with he|he
  .exact h.at n e (mem_filter.1 he).1
  .rw[mem_singleton]at he;subst he;exact ua hf
theorem Rp{f:CF}(h:aq f):Td (VZ f) :=
 aq.tidy (aq.mk' h.c5 h.cl' (λp hp=>h.ow p (mem_filter.1 hp).1) h.ap (h.lf.sublist (filter_sublist.map _)) h.kd)
def cX(cs:List CF):Prop:=∀f∈cs,Td f
theorem IT{f:CF}(h:aq f){a i:Nat}(ha:a<24)(hb:cU f.ow a=none):∀g∈iM f a i,aq g:=by
 intro g hg;unfold iM at hg;rcases mem_append.1 hg with hg|hg
 .split at hg
  .simp at hg
  .rename_i hd;rw[mem_singleton]at hg;subst hg;exact h.m1 (by simpa using hd)
 .split at hg
  .rw[mem_singleton]at hg;subst hg;exact h.m2 ha hb
  .simp at hg
theorem Zf{c:Cd}{r:List CF × Sr}{g:CF}(hr:cX r.1)(hg:aq g):cX (oX c r g).1/\(oX c r g).2.kn=r.2.kn/\(oX c r g).2.wr=r.2.wr:=by
 unfold oX;split
 .refine⟨λf hf=>?_,rfl,rfl⟩;rcases mem_append.1 hf with hf|hf
  .exact hr f hf
  .rw[mem_singleton]at hf;subst hf;exact hg.tidy
 .exact⟨hr,rfl,rfl⟩
theorem Hr{c:Cd}:∀(l:List CF) {r:List CF × Sr},cX r.1->(∀g∈l,aq g)->cX (l.foldl (oX c) r).1/\(l.foldl (oX c) r).2.kn=r.2.kn/\(l.foldl (oX c) r).2.wr=r.2.wr
 |[],r,hr,_=>⟨hr,rfl,rfl⟩
 |g::l,r,hr,hl=>by
  obtain⟨h1,h2,h3⟩:=Zf (c:=c) hr (hl g (by simp));obtain⟨g1,g2,g3⟩:=Hr l h1 (λx hx=>hl x (by simp[hx]));exact⟨g1,g2.trans h2,g3.trans h3⟩
theorem Zi{c:Cd}{f:CF}{i a:Nat}{r:List CF × Sr}(ha:a<24)(hf:aq f)(hr:cX r.1):cX (qu c f i r a).1/\(qu c f i r a).2.kn=r.2.kn/\(qu c f i r a).2.wr=r.2.wr:=by
 unfold qu;split
 .rename_i h;unfold fnA at h;simp only[Bool.and_eq_true,Bool.not_eq_true']at h;refine Hr _ hr (IT hf ha ?_);have:=h.2;cases hb:cU f.ow a with
  |none=>rfl
  |some j=>rw[hb]at this;simp at this
 .exact⟨hr,rfl,rfl⟩
theorem Hs{c:Cd}{f:CF}{i:Nat}(hf:aq f):∀(l:List Nat) {r:List CF × Sr},(∀a∈l,a<24)->cX r.1->cX (l.foldl (qu c f i) r).1/\(l.foldl (qu c f i) r).2.kn=r.2.kn/\(l.foldl (qu c f i) r).2.wr=r.2.wr
 |[],r,_,hr=>⟨hr,rfl,rfl⟩
 |a::l,r,hl,hr=>by
  obtain⟨h1,h2,h3⟩:=Zi (c:=c) (i:=i) (hl a (by simp)) hf hr;obtain⟨g1,g2,g3⟩:=Hs hf l (λx hx=>hl x (by simp[hx])) h1;exact⟨g1,g2.trans h2,g3.trans h3⟩
theorem Tx{c:Cd}{f:CF}(hf:aq f){r:List CF × Sr}(i:Nat)(hr:cX r.1):cX (gG c f r i).1/\(gG c f r i).2.kn=r.2.kn/\(gG c f r i).2.wr=r.2.wr:=Hs hf _ (λa ha=>mem_range.1 ha) hr
theorem Cx{c:Cd}{f:CF}(hf:aq f):∀(l:List Nat) {r:List CF × Sr},cX r.1->cX (l.foldl (gG c f) r).1/\(l.foldl (gG c f) r).2.kn=r.2.kn/\(l.foldl (gG c f) r).2.wr=r.2.wr
 |[],r,hr=>⟨hr,rfl,rfl⟩
 |i::l,r,hr=>by
  obtain⟨h1,h2,h3⟩:=Tx (c:=c) hf i hr;obtain⟨g1,g2,g3⟩:=Cx hf l h1;exact⟨g1,g2.trans h2,g3.trans h3⟩
theorem NW{c:Cd}{g:CF}(hg:Td g){r:List CF × Sr}{res:List CF}(hr:cX r.1)(hs:cX res):cX (xR c g r res).1/\cX (xR c g r res).2.1/\(xR c g r res).2.2.kn=r.2.kn/\(xR c g r res).2.2.wr=r.2.wr:=by
 have app:∀{x:CF},Td x->cX (res++[x]):=λhx f hf=>by
  rcases mem_append.1 hf with hf|hf
  .exact hs f hf
  .rw[mem_singleton]at hf;subst hf;exact hx
 unfold xR;split
 .exact⟨app hg,hr,rfl,rfl⟩
 .exact⟨app (Rp hg.ok),Cx hg.ok _ hr⟩
theorem mS{c:Cd}:∀(n k:Nat) {res:List CF} {r:List CF × Sr},cX r.1->cX res->cX (jC c n k res r).1/\(jC c n k res r).2.kn=r.2.kn/\(jC c n k res r).2.wr=r.2.wr
 |0,k,res,r,_,hs=>⟨hs,rfl,rfl⟩
 |n+1,k,res,r,hr,hs=>by
  unfold jC;split
  .rename_i h;have hg:Td (r.1.getD k ⟨[],[],[]⟩):=by
    rw[getD_eq_getElem?_getD,getElem?_eq_getElem h.1];exact hr _ (getElem_mem h.1)
   obtain⟨h1,h2,h3,h4⟩:=NW (c:=c) hg hr hs;obtain⟨g1,g2,g3⟩:=mS (c:=c) n (k+1) h2 h1;exact⟨g1,g2.trans h3,g3.trans h4⟩
  .exact⟨hs,rfl,rfl⟩
theorem ID{c:Cd}{n:Nat}:∀(l:List CF) {s:Sr},cX l->pY s->pY (l.foldl (λs g=>bF c n g s) s)
 |[],_,_,h=>h
 |g::l,s,hl,h=>ID l (λx hx=>hl x (by simp[hx])) (Ay (hl g (by simp)) h)
theorem MS{c:Cd}{fuel a b:Nat}{f:CF}{s:Sr}(hf:Td f)(h:pY s):pY (dJ c fuel a b f s):=by
 unfold dJ;split
 .exact Ay hf h
 .have h1:cX [f]:=λx hx=>by rw[mem_singleton]at hx;subst hx;exact hf
  obtain⟨g1,g2,-⟩:=mS (c:=c) fuel 0 (r:=([f],mm a 2 s)) (res:=[]) h1 (λx hx=>by simp at hx);refine ID _ g1 ?_;unfold pY;rw[g2];exact h
theorem EN{c:Cd}{fuel a b:Nat}:∀(l:List CF) {s:Sr},cX l->pY s->pY (l.foldl (λs g=>dJ c fuel a b g s) s)
 |[],_,_,h=>h
 |g::l,s,hl,h=>EN l (λx hx=>hl x (by simp[hx])) (MS (hl g (by simp)) h)
theorem iu(b:Bool)(n k:Nat)(s:Sr):(wrI b n k s).kn=s.kn:=by unfold wrI;split <;> rfl
theorem ab7{c:Cd}{fuel n:Nat}{f:CF}{s:Sr}(hv:(c.nds.getD n aI).v<4)(ha:(c.nds.getD n aI).ai<4)(hf:Td f)(h:pY s):pY (oE c fuel n f s):=by
 obtain⟨h1,h2⟩:=lY hv ha hf;unfold oE;refine EN _ h2 (EN _ h1 ?_);unfold pY;show ∀l∈(wrI _ n 4 (wrI _ n 3 (wrI _ n 2 s))).kn,_;rw[iu,iu,iu];exact h
def xh(s:Sr)(n:Nat)(P:CF->Prop):Prop:=∃e∈a7 s n,P e.f
def KnH(s:Sr)(n:Nat)(cs:List (Int × Int))(t:Nat->Int):Prop:=xh s n (EA cs t)
structure XX(P:CF->Prop):Prop where
 wi:∀{f g:CF},aq f->aq g->xF f g=true->P f->P g
 fo:∀{f:CF},aq f->P f->P (aZ (Eb f))
structure LI(P:CF->Prop):Prop where
 wi:∀{f g:CF},aq f->aq g->xF f g=true->P f->P g
theorem XX.w{P:CF->Prop}(h:XX P):LI P:=⟨h.wi⟩
theorem Nh{cs:List (Int × Int)}{t:Nat->Int}(hc:CsH cs):XX (EA cs t):=⟨λ_ hg hw h=>EA.within hc hg hw h,λhf h=>EA.td (df _ hf).1 h.fo⟩
def Cw(s:Sr)(n k:Nat):Bool:=(s.wr.getD n []).getD k false
def Sf(s:Sr):Prop:=s.fu=false/\∀n k,k=2\/k=3\/k=4->Cw s n k=false
structure iS(N:Nat)(s:Sr):Prop where
 kn:s.kn.length=N
 wr:s.wr.length=N
 rw:∀r∈s.wr,r.length=5
 td:pY s
structure oW(s s':Sr):Prop where
 fu:s.fu=true->s'.fu=true
 fl:∀n k,Cw s n k=true->Cw s' n k=true
 kn:∀n P,LI P->xh s n P->xh s' n P
theorem oW.refl(s:Sr):oW s s:=⟨λh=>h,λ_ _ h=>h,λ_ _ _ h=>h⟩
theorem oW.trans{a b c:Sr}(h:oW a b)(h':oW b c):oW a c:=⟨λx=>h'.fu (h.fu x),λn k x=>h'.fl n k (h.fl n k x),λn P hc x=>h'.kn n P hc (h.kn n P hc x)⟩
theorem oW.sf{a b:Sr}(h:oW a b)(hs:Sf b):Sf a:=by
 refine⟨?_,λn k hk=>?_⟩
 .cases hf:a.fu with
  |false=>rfl
  |true=>have:=h.fu hf;rw[hs.1]at this;cases this
 .cases hf:Cw a n k with
  |false=>rfl
  |true=>have:=h.fl n k hf;rw[hs.2 n k hk]at this;cases this
section
variable {c:Cd} {N n:Nat} {f:CF} {s:Sr} {cs:List (Int × Int)} {t:Nat->Int}
theorem FU{P:CF->Prop}(hP:XX P)(hk:aq f)(h:P f):P (bm c n f):=by
 unfold bm;split
 .exact hP.fo hk h
 .exact h
theorem gK{l:List gT}(hn:n<s.kn.length)(m:Nat):(s.kn.set n l).getD m []=if n=m then l else a7 s m:=cM _ _ _ _ _ hn
theorem ub(hf:Td f)(hs:iS N s)(hn:n<N):oW s (bF c n f s)/\iS N (bF c n f s)/\∀P,LI P->P (bm c n f)->xh (bF c n f s) n P:=by
 have tt:pY (bF c n f s):=Ay hf hs.td;have hg:Td (bm c n f):=ua hf;have fJ:n<s.kn.length:=by rw[hs.kn];exact hn
 unfold bF at tt ⊢;split
 .rename_i qx;rw[if_pos qx]at tt;refine⟨⟨λh=>?_,λ_ _ h=>h,λ_ _ _ h=>h⟩,⟨hs.kn,hs.wr,hs.rw,tt⟩,λP hc h=>?_⟩
  .show(s.fu||_)=true;rw[h];rfl
  .obtain⟨e,he,hw⟩:=any_eq_true.1 qx;exact⟨e,he,hc.wi hg.ok (hs.td.at n e he).ok hw h⟩
 .rename_i qx;rw[if_neg qx]at tt;have hkA:∀m,a7 (pU c (nk n (bm c n f) (mG c s (2*(a7 s n).length)))) m=if n=m then (a7 s n).filter (λe=>!xF e.f (bm c n f))++[⟨bm c n f,false⟩] else a7 s m:=λm=>gK fJ m
  refine⟨⟨λh=>?_,λ_ _ h=>h,λm P hc h=>?_⟩,⟨?_,hs.wr,hs.rw,tt⟩,λP hc h=>?_⟩
  .show((s.fu||_)||_)=true;rw[h];rfl
  .obtain⟨e,he,KE⟩:=h;unfold xh;rw[hkA];by_cases e0:n=m
   .subst e0;rw[if_pos rfl];by_cases hw:xF e.f (bm c n f)=true
    .exact⟨⟨bm c n f,false⟩,by simp,hc.wi (hs.td.at n e he).ok hg.ok hw KE⟩
    .exact⟨e,mem_append_left _ (mem_filter.2 ⟨he,by simpa using hw⟩),KE⟩
   .rw[if_neg e0];exact⟨e,he,KE⟩
  .show(s.kn.set n _).length=N;rw[length_set];exact hs.kn
  .unfold xh;rw[hkA,if_pos rfl];exact⟨⟨bm c n f,false⟩,by simp,h⟩
theorem Ax:∀(l:List CF) {s:Sr},cX l->iS N s->n<N->oW s (l.foldl (λs g=>bF c n g s) s)/\iS N (l.foldl (λs g=>bF c n g s) s)
 |[],s,_,h,_=>⟨oW.refl s,h⟩
 |g::l,s,hl,h,hn=>by
  rw[foldl_cons];obtain⟨h1,h2,-⟩:=ub (c:=c) (hl g (by simp)) h hn;obtain⟨h3,h4⟩:=Ax l (λx hx=>hl x (by simp[hx])) h2 hn;exact⟨h1.trans h3,h4⟩
theorem tU{k:Nat}(hs:iS N s)(hn:n<N)(hk:k<5)(m j:Nat):Cw (mm n k s) m j=if n=m/\k=j then true else Cw s m j:=by
 have hw:n<s.wr.length:=by rw[hs.wr];exact hn
 have hr:(s.wr.getD n []).length=5:=by
  rw[getD_eq_getElem?_getD,getElem?_eq_getElem hw];exact hs.rw _ (getElem_mem hw)
 unfold Cw;show((s.wr.set n ((s.wr.getD n []).set k true)).getD m []).getD j false=_;rw[cM _ _ _ _ _ hw];by_cases e:n=m
 .subst e;rw[if_pos rfl,cM _ _ _ _ _ (by omega)];by_cases e2:k=j
  .rw[if_pos e2,if_pos ⟨rfl,e2⟩]
  .rw[if_neg e2,if_neg (λh=>e2 h.2)]
 .rw[if_neg e,if_neg (λh=>e h.1)]
theorem Bu{k:Nat}(hs:iS N s)(hn:n<N)(hk:k<5):oW s (mm n k s)/\iS N (mm n k s):=by
 refine⟨⟨λh=>h,λm j h=>?_,λ_ _ _ h=>h⟩,⟨hs.kn,?_,λr hr=>?_,hs.td⟩⟩
 .rw[tU hs hn hk];split
  .rfl
  .exact h
 .show(s.wr.set n _).length=N;rw[length_set];exact hs.wr
 .rcases mem_or_eq_of_mem_set (show r∈s.wr.set n _ from hr) with h|rfl
  .exact hs.rw r h
  .rw[length_set];have hw:n<s.wr.length:=(by rw[hs.wr];exact hn);rw[getD_eq_getElem?_getD,getElem?_eq_getElem hw];exact hs.rw _ (getElem_mem hw)
theorem fM{b:Bool}{k:Nat}(hs:iS N s)(hn:n<N)(hk:k<5):oW s (wrI b n k s)/\iS N (wrI b n k s)/\(k=2\/k=3\/k=4->Sf (wrI b n k s)->b=false):=by
 unfold wrI;split
 .obtain⟨h1,h2⟩:=Bu hs hn hk;refine⟨h1,h2,λmF hS=>?_⟩;have:=hS.2 n k mF;rw[tU hs hn hk,if_pos ⟨rfl,rfl⟩]at this;cases this
 .rename_i hb;exact⟨oW.refl s,hs,λ_ _=>by simpa using hb⟩
theorem NS:∀(m k:Nat) {res:List CF} {r:List CF × Sr},r.2.fu=true->(jC c m k res r).2.fu=true
 |0,_,_,_,h=>h
 |m+1,k,res,r,h=>by
  unfold jC;rw[if_neg (λh2=>by rw[h]at h2;cases h2.2)];exact h
theorem pB{fuel a b:Nat}(hf:Td f)(hs:iS N s)(ha:a<N)(hb:b<N):oW s (dJ c fuel a b f s)/\iS N (dJ c fuel a b f s)/\(Sf (dJ c fuel a b f s)->∀P,LI P->P (bm c b f)->xh (dJ c fuel a b f s) b P):=by
 unfold dJ;split
 .obtain⟨h1,h2,h3⟩:=ub (c:=c) hf hs hb;exact⟨h1,h2,λ_=>h3⟩
 .simp only;obtain⟨g1,g2⟩:=Bu hs ha (k:=2) (by omega);obtain⟨k1,k2,k3⟩:=mS (c:=c) fuel 0 (res:=[]) (r:=([f],mm a 2 s)) (λg hg=>by rw[mem_singleton.1 hg];exact hf) (λg hg=>by simp at hg);have hL:oW (mm a 2 s) (jC c fuel 0 [] ([f],mm a 2 s)).2:=by
   refine⟨λh=>NS fuel 0 h,λm k h=>?_,λm P hc h=>?_⟩
   .unfold Cw;rw[k3];exact h
   .unfold xh a7;rw[k2];exact h
  have hS:iS N (jC c fuel 0 [] ([f],mm a 2 s)).2:=⟨by rw[k2];exact g2.kn,by rw[k3];exact g2.wr,λr hr=>by rw[k3]at hr;exact g2.rw r hr,λl hl=>by rw[k2]at hl;exact g2.td l hl⟩;obtain⟨q1,q2⟩:=Ax (c:=c) (n:=b) (jC c fuel 0 [] ([f],mm a 2 s)).1 k1 hS hb;refine⟨g1.trans (hL.trans q1),q2,λhsf=>?_⟩;have h9:=((hL.trans q1).sf hsf).2 a 2 (zq0 rfl);rw[tU hs ha (by omega),if_pos ⟨rfl,rfl⟩]at h9;cases h9
theorem ky{fuel a b:Nat}(ha:a<N):∀(l:List CF) {s:Sr},(l≠[]->b<N)->cX l->iS N s->oW s (l.foldl (λs g=>dJ c fuel a b g s) s)/\iS N (l.foldl (λs g=>dJ c fuel a b g s) s) /\
  (Sf (l.foldl (λs g=>dJ c fuel a b g s) s)->∀g∈l,∀P,LI P->P (bm c b g)->xh (l.foldl (λs g=>dJ c fuel a b g s) s) b P)
 |[],s,_,_,h=>⟨oW.refl s,h,λ_ g hg=>by simp at hg⟩
 |g::l,s,hb,hl,h=>by
  rw[foldl_cons];have hbN:=hb (by simp);obtain⟨h1,h2,h3⟩:=pB (c:=c) (fuel:=fuel) (hl g (by simp)) h ha hbN;obtain⟨h4,h5,h6⟩:=ky ha l (λ_=>hbN) (λx hx=>hl x (by simp[hx])) h2;refine⟨h1.trans h4,h5,λhS x hx P hc KE=>?_⟩;rcases mem_cons.1 hx with rfl|hx
  .exact h4.kn _ _ hc (h3 (h4.sf hS) P hc KE)
  .exact h6 hS x hx P hc KE
structure LH(c:Cd)(s:Sr)(n:Nat)(f:CF):Prop where
 nu:(bL (c.nds.getD n aI) f).nu=false
 da:(bL (c.nds.getD n aI) f).da=false
 fu:(bL (c.nds.getD n aI) f).fu=false
 en:(c.nds.getD n aI).op=0->fj f=[]
 nx:∀g∈(bL (c.nds.getD n aI) f).nx,aq g/\∀P,LI P->P (bm c (c.nds.getD n aI).nx g)->xh s (c.nds.getD n aI).nx P
 ot:∀g∈(bL (c.nds.getD n aI) f).ot,aq g/\∀P,LI P->P (bm c (c.nds.getD n aI).ot g)->xh s (c.nds.getD n aI).ot P
theorem LH.mono{s':Sr}(h:LH c s n f)(hl:oW s s'):LH c s' n f:=⟨h.nu,h.da,h.fu,h.en,λg hg=>⟨(h.nx g hg).1,λP hc hf=>hl.kn _ _ hc ((h.nx g hg).2 P hc hf)⟩,λg hg=>⟨(h.ot g hg).1,λP hc hf=>hl.kn _ _ hc ((h.ot g hg).2 P hc hf)⟩⟩
theorem LH.nxP(h:LH c s n f){g:CF}(hg:g∈(bL (c.nds.getD n aI) f).nx){P:CF->Prop}(hc:XX P)(hp:P g):xh s (c.nds.getD n aI).nx P:=(h.nx g hg).2 P hc.w (FU hc (h.nx g hg).1 hp)
theorem LH.otP(h:LH c s n f){g:CF}(hg:g∈(bL (c.nds.getD n aI) f).ot){P:CF->Prop}(hc:XX P)(hp:P g):xh s (c.nds.getD n aI).ot P:=(h.ot g hg).2 P hc.w (FU hc (h.ot g hg).1 hp)
end
theorem fB.congr{bl:List Bool}{s t:List Nat}(h:fB bl s)(he:∀c,c∈s↔c∈t):fB bl t:=⟨h.1,λc hc=>(h.2 c hc).trans (he c)⟩
structure Rng(f:CF):Prop where
 cl:∀c∈kP f,c<24
 ow:Rm f
 ap:RmA f
theorem zP(w:World):Ob (w.alloc (.cells (dd (replicate 24 false)).toArray 240)) 240 24 w.heap.size (dd (replicate 24 false)) :=
 ownsRow_lit (base:=0) (e:=240) (size:=24) w (dd (replicate 24 false)).toArray 1 (zq5 _) (by simp[maxLen]) rfl
theorem Cu:fB (replicate 24 false) []:=⟨by simp,λc hc=>by rw[getD_eq_getElem?_getD,getElem?_replicate,if_pos hc];simp⟩
theorem yD{l:List Pr}{P:Pr->Bool}{k:Nat}(hk:k<l.length):(l.take (k+1)).filter P=(l.take k).filter P++(if P (l.getD k ax) then [l.getD k ax] else []):=by
 rw[jQ hk,take_add_one,getElem?_eq_getElem hk,filter_append];congr 1;simp only[Option.toList];cases h:P l[k] <;> simp[h]
theorem J8{l:List Pr}{k:Nat}(hk:k<l.length):(l.take (k+1)).flatMap (λp=>[p.l,p.r])=(l.take k).flatMap (λp=>[p.l,p.r])++[(l.getD k ax).l,(l.getD k ax).r]:=by
 rw[jQ hk,take_add_one,getElem?_eq_getElem hk,flatMap_append];simp
theorem U0{S T:List Nat}{a b d:Nat}:d∈b::a::(S++T)↔d∈S++(T++[a,b]):=by
 simp only[mem_cons,mem_append,not_mem_nil,or_false];exact⟨λh=>by rcases h with h|h|h|h <;> simp[h],λh=>by rcases h with h|h|h|h <;> simp[h]⟩
section
variable {w:World} {A:Nat} {f:CF} {av ov:Value}
theorem Fa(h:Fm w A f av ov)(hR:Rng f)(ha:f.ap.length<=100000)(ho:f.ow.length<=100000):Calls prog 197 #[.pointer (some ⟨A,0,none⟩)] w λe w'=>e=.returned (.tuple #[])/\∃av',Fm w' A (dm f) av' ov/\au (aH A av ov) w (aH A av' ov) w':=by
 obtain⟨i0,k9,gX,fK,f9⟩:=info_parts infoPair;obtain⟨oa,oc,gj,-,-⟩:=aj h.is.ow;subst gj;obtain⟨aa,ac,l5,-,-⟩:=aj h.is.ap;subst l5;obtain⟨w0,mt⟩:∃w0,w0=w.alloc (.cells (dd (replicate 24 false)).toArray 240):=⟨_,rfl⟩;have tq:Below w.heap.size w w0:=by rw[mt];exact ah w _
 have TJ:Ob w0 240 24 w.heap.size (dd (replicate 24 false)):=by rw[mt];exact zP w
 have h0:=h.is.below tq;have x0:=h0.cls (i:=0) (by omega);have x1:=h0.cls (i:=1) (by omega);have x2:=h0.cls (i:=2) (by omega);have x3:=h0.cls (i:=3) (by omega);have x4:=h0.cls (i:=4) (by omega);unfold gZ at x0 x1 x2 x3 x4;have dp:=hR.cl;unfold kP at dp;have hcL:kP f=[f.cl.getD 0 0,f.cl.getD 1 0,f.cl.getD 2 0,f.cl.getD 3 0,f.cl.getD 4 0]:=rfl;obtain⟨y0,e0⟩:∃y,y=f.cl.getD 0 0:=⟨_,rfl⟩;obtain⟨y1,e1⟩:∃y,y=f.cl.getD 1 0:=⟨_,rfl⟩;obtain⟨y2,e2⟩:∃y,y=f.cl.getD 2 0:=⟨_,rfl⟩;obtain⟨y3,e3⟩:∃y,y=f.cl.getD 3 0:=⟨_,rfl⟩;obtain⟨y4,e4⟩:∃y,y=f.cl.getD 4 0:=⟨_,rfl⟩;rw[<-e0,<-e1,<-e2,<-e3,<-e4]at dp hcL;rw[<-e0]at x0;rw[<-e1]at x1;rw[<-e2]at x2;rw[<-e3]at x3;rw[<-e4]at x4;have l0:y0<24:=dp y0 (by simp);have l1:y1<24:=dp y1 (by simp);have l2:y2<24:=dp y2 (by simp);have l3:y3<24:=dp y3 (by simp);have l4:y4<24:=dp y4 (by simp);have j0:=Al (.int .i64 (y0:Int)) (.int .i64 (y1:Int)) (.int .i64 (y2:Int)) (.int .i64 (y3:Int)) (.int .i64 (y4:Int));have j1:=Am (.int .i64 (y0:Int)) (.int .i64 (y1:Int)) (.int .i64 (y2:Int)) (.int .i64 (y3:Int)) (.int .i64 (y4:Int));have j2:=Ao (.int .i64 (y0:Int)) (.int .i64 (y1:Int)) (.int .i64 (y2:Int)) (.int .i64 (y3:Int)) (.int .i64 (y4:Int));have j3:=Ap (.int .i64 (y0:Int)) (.int .i64 (y1:Int)) (.int .i64 (y2:Int)) (.int .i64 (y3:Int)) (.int .i64 (y4:Int));have j4:=Aq (.int .i64 (y0:Int)) (.int .i64 (y1:Int)) (.int .i64 (y2:Int)) (.int .i64 (y3:Int)) (.int .i64 (y4:Int));have H:=ab h;have wZ:=ab hcL;have HR:=ab hR;have cG:Hid (Ob w0 240 24 w.heap.size (dd (replicate 24 false))/\fB (replicate 24 false) ([y0,y1,y2,y3,y4].take 0)/\Below w.heap.size w w0):=ab ⟨TJ,Cu,tq⟩;clear h e0 e1 e2 e3 e4 dp hcL hR h0 TJ tq;simp only[dd,replicate,map_cons,map_nil]at mt;go_enter func197,ntmps197;go_upto_region 1 with fail;rw[<-mt];clear mt;go_wp2_with fail
 go_loopw [14] (λi wx=>∃(k:Nat) (bl:List Bool),k<=5/\i=.int .i64 k/\Hid (Ob wx 240 24 w.heap.size (dd bl)/\fB bl ([y0,y1,y2,y3,y4].take k)/\Below w.heap.size w wx)) (λi _=>5-(intOf i).toNat)
 case atStart=>exact⟨0,_,zq5 _,rfl,cG⟩
 case round =>
  clear cG x0 x1 x2 x3 x4;obtain⟨k,bl,hk,rfl,hI⟩:=hrel;have aV:∀c,c<24->(∃u,wr.cell? ⟨w.heap.size,c,none⟩=some u)/\wr.frozen? ⟨w.heap.size,c,none⟩=false:=λc hc=>⟨⟨_,(ownsRow.cellAt (uh hI).1 c (by omega)).trans (fG (by rw[(uh hI).2.1.1];exact hc))⟩,ownsRow.frozenAt (uh hI).1 c⟩;have vA:∀c,c<24->∀t,(∀d,d∈c::([y0,y1,y2,y3,y4].take k)↔d∈t)->Ob (wr.setCell ⟨w.heap.size,c,none⟩ (.bool true)) 240 24 w.heap.size (dd (bl.set c true))/\fB (bl.set c true) t/\Below w.heap.size w (wr.setCell ⟨w.heap.size,c,none⟩ (.bool true)):=λc hc t ht =>
   ⟨by have:=(uh hI).1.stored c (.bool true);rwa [lT]at this,((uh hI).2.1.add hc).congr ht,(uh hI).2.2.setCell (p:=⟨w.heap.size,c,none⟩) (zq4 _) _⟩
  have pX:=ab vA;clear vA;have vp:k=0\/k=1\/k=2\/k=3\/k=4\/k=5:=by omega
  rcases vp with rfl|rfl|rfl|rfl|rfl|rfl
  .obtain⟨⟨u,hu⟩,hz⟩:=aV y0 l0;clear aV;go_wp2_with fail
   go_roundw
   case rel=>exact⟨1,_,by omega,by go_num,ab (uh pX y0 l0 _ (λd=>by simp))⟩
   case measure=>simp[intOf]
  .obtain⟨⟨u,hu⟩,hz⟩:=aV y1 l1;clear aV;go_wp2_with fail
   go_roundw
   case rel=>exact⟨2,_,by omega,by go_num,ab (uh pX y1 l1 _ (λd=>by simp;try omega))⟩
   case measure=>simp[intOf]
  .obtain⟨⟨u,hu⟩,hz⟩:=aV y2 l2;clear aV;go_wp2_with fail
   go_roundw
   case rel=>exact⟨3,_,by omega,by go_num,ab (uh pX y2 l2 _ (λd=>by simp;try omega))⟩
   case measure=>simp[intOf]
  .obtain⟨⟨u,hu⟩,hz⟩:=aV y3 l3;clear aV;go_wp2_with fail
   go_roundw
   case rel=>exact⟨4,_,by omega,by go_num,ab (uh pX y3 l3 _ (λd=>by simp;try omega))⟩
   case measure=>simp[intOf]
  .obtain⟨⟨u,hu⟩,hz⟩:=aV y4 l4;clear aV;go_wp2_with fail
   go_roundw
   case rel=>exact⟨5,_,by omega,by go_num,ab (uh pX y4 l4 _ (λd=>by simp;try omega))⟩
   case measure=>simp[intOf]
  .clear aV pX;rw[show((5:Nat):Int)=(5:Int) from rfl];have h1:=(uh H).is.below (uh hI).2.2;have c6:=h1.c6;obtain⟨D,hD⟩:∃D,D=w.heap.size:=⟨_,rfl⟩;have d7:Hid (Ob wr 240 24 D (dd bl)/\fB bl ([y0,y1,y2,y3,y4]++(f.ow.take 0).flatMap (λp=>[p.l,p.r]))/\Below w.heap.size w wr):=ab ⟨by rw[hD];exact(uh hI).1,(uh hI).2.1,(uh hI).2.2⟩;have HD:=ab hD;clear hI h1 j0 j1 j2 j3 j4 l0 l1 l2 l3 l4;rw[<-hD];clear hD;go_wp2_with fail
   go_loopw [25] (λi wx=>∃(k:Nat) (bl:List Bool),k<=f.ow.length/\i=.int .i64 k/\Hid (Ob wx 240 24 D (dd bl)/\fB bl ([y0,y1,y2,y3,y4]++(f.ow.take k).flatMap (λp=>[p.l,p.r]))/\Below w.heap.size w wx)) (λi _=>f.ow.length-(intOf i).toNat)
   case atStart=>exact⟨0,bl,zq5 _,rfl,d7⟩
   case round =>
    clear d7 c6;obtain⟨k,bl,hk,rfl,hI⟩:=hrel;have h1:=(uh H).is.below (uh hI).2.2;by_cases ar:k<f.ow.length
    .have hd:decide ((k:Int)<(f.ow.length:Int))=true:=(by simp;omega);obtain⟨g,cap,dQ,-,-⟩:=aE h1.ow ar;simp only[Value.slice.injEq,true_and]at dQ;obtain⟨rfl,rfl⟩:=dQ;obtain⟨x0,x1,x2⟩:=aD h1.ow ar;obtain⟨mK,xC⟩:=(uh HR).ow.at k;have qd:=J8 ar;obtain⟨p,hp⟩:∃p,p=f.ow.getD k ax:=⟨_,rfl⟩;rw[<-hp]at x0 x1 x2 mK xC qd;obtain⟨-,n1,n2⟩:=Ga wr (Value.int .i64 p.k) (.int .i64 p.l) (.int .i64 p.r) 182;have hDl:D<wr.heap.size:=(ownsRow.lt (uh hI).1 D rfl).2;have o0:=(uh hI).1.alloc (.cells #[Value.int .i64 p.k,.int .i64 p.l,.int .i64 p.r] 182);obtain⟨⟨u1,hu1⟩,amv⟩:=o0.some (j:=p.l) mK;have o1:=(uh hI).1.stored p.l (.bool true);rw[lT]at o1;obtain⟨⟨u3,hu3⟩,asy⟩:=o1.some (j:=p.r) xC;have o2:=o1.stored p.r (.bool true);rw[lT]at o2;have n2':((wr.alloc (.cells #[Value.int .i64 p.k,.int .i64 p.l,.int .i64 p.r] 182)).setCell ⟨D,p.l,none⟩ (.bool true)).cell? ⟨wr.heap.size,2,none⟩=some (.int .i64 (p.r:Int)):=by
      rw[cell?_setCell_other _ _ _ _ (by intro e;simp at e;try omega)];exact n2
     have zX:=(((uh hI).2.2.setCell (p:=⟨D,p.l,none⟩) (Nat.le_of_eq (uh HD).symm) (.bool true)).setCell (p:=⟨D,p.r,none⟩) (Nat.le_of_eq (uh HD).symm) (.bool true));have HO2:=ab (o2.alloc (.cells #[Value.int .i64 p.k,.int .i64 p.l,.int .i64 p.r] 182));have RF:Hid (fB ((bl.set p.l true).set p.r true) ([y0,y1,y2,y3,y4]++(f.ow.take (k+1)).flatMap (λp=>[p.l,p.r]))):=ab ((((uh hI).2.1.add mK).add xC).congr (λd=>by rw[qd];exact U0));have Mn:=ab (zX.alloc zX.size (.cells #[Value.int .i64 p.k,.int .i64 p.l,.int .i64 p.r] 182));have i1:(0:Int)<=(k:Int):=(by omega);have i2:(k:Int)<(f.ow.length:Int):=(by omega);clear o0 o1 o2 hp qd h1 hI zX;go_wp2_with fail
     go_roundw
     case rel=>exact⟨k+1,_,by omega,by go_num,ab ⟨uh HO2,uh RF,uh Mn⟩⟩
     case measure=>simp[intOf];omega
    .have hd:decide ((k:Int)<(f.ow.length:Int))=false:=(by simp;omega);have kk:k=f.ow.length:=(by omega);have c5:=(h1.alloc (.cells #[] 182)).c5;have RF:Hid (fB bl (bQ f)):=ab (by
      have:=(uh hI).2.1;rw[kk,take_length]at this;unfold bQ;rw[uh wZ];exact this)
     have HOD:=ab (uh hI).1;have R8:=ab (uh hI).2.2;have uC:Hid ((wr.alloc (.cells #[] 182)).ownsRow wr.heap.size 182 3 (.slice (some ⟨wr.heap.size,0,none⟩) 0 0) 0 []/\Below wr.heap.size wr (wr.alloc (.cells #[] 182))):=ab ⟨ownsRow_lit (base:=wr.heap.size) (e:=182) (size:=3) wr #[] 0 (zq4 _) (by simp[maxLen]) rfl,ah wr _⟩;have H1:=ab h1;clear h1 hI kk;obtain⟨wz,hwz⟩:∃wz,wz=wr:=⟨_,rfl⟩;rw[<-hwz]at HOD R8 uC H1 c5 ⊢;clear hwz;go_wp2_with fail
     go_loopw [7,42] (λrv j wx=>∃(k:Nat),k<=f.ap.length/\j=.int .i64 k/\Hid (wx.ownsRow wz.heap.size 182 3 rv ((f.ap.take k).filter (xQ f)).length (af ((f.ap.take k).filter (xQ f)))/\Below wz.heap.size wz wx)) (λ_ j _=>f.ap.length-(intOf j).toNat)
     case atStart=>exact⟨0,zq5 _,rfl,uC⟩
     case round =>
      clear uC c5;obtain⟨k,hk,rfl,hI⟩:=hrel;have hF:=(uh H1).below (uh hI).2;have hdo:=(uh HOD).of_eq (w':=wr) ((uh hI).2.block D (ownsRow.lt (uh HOD) D rfl).2);obtain⟨ra,rc,Mf,-,-⟩:=aj (uh hI).1;subst Mf;by_cases ar:k<f.ap.length
      .have hd:decide ((k:Int)<(f.ap.length:Int))=true:=(by simp;omega);obtain⟨g2,cap2,dQ,-,-⟩:=aE hF.ap ar;simp only[Value.slice.injEq,true_and]at dQ;obtain⟨rfl,rfl⟩:=dQ;obtain⟨x0,x1,x2⟩:=aD hF.ap ar;obtain⟨mK,xC⟩:=(uh HR).ap (f.ap.getD k ax) (by rw[jQ ar];exact getElem_mem ar);have aV:=yD (P:=xQ f) ar;obtain⟨p,hp⟩:∃p,p=f.ap.getD k ax:=⟨_,rfl⟩;rw[<-hp]at x0 x1 x2 mK xC aV;obtain⟨-,n1,n2⟩:=Ga wr (Value.int .i64 p.k) (.int .i64 p.l) (.int .i64 p.r) 182;have hDl:D<wr.heap.size:=(ownsRow.lt hdo D rfl).2;obtain⟨⟨-,-⟩,amv⟩:=hdo.some (j:=p.l) mK;have d1:=(ownsRow.cellAt hdo p.l (by omega)).trans (fG (by rw[(uh RF).1];exact mK));have d2:=(ownsRow.cellAt hdo p.r (by omega)).trans (fG (by rw[(uh RF).1];exact xC));obtain⟨b1,bH⟩:∃b,b=bl.getD p.l false:=⟨_,rfl⟩;obtain⟨b2,aU⟩:∃b,b=bl.getD p.r false:=⟨_,rfl⟩;rw[<-bH]at d1;rw[<-aU]at d2;have e1:decide (p.l∈bQ f)=b1:=(by rw[bH];have:=(uh RF).2 p.l mK;cases h:bl.getD p.l false <;> simp_all);have e2:decide (p.r∈bQ f)=b2:=(by rw[aU];have:=(uh RF).2 p.r xC;cases h:bl.getD p.r false <;> simp_all);have db:=ab aV;have HP:Hid (xQ f p=(b1&&b2&&!lV f p.l p.r)):=ab (by unfold xQ;rw[e1,e2]);have fU:=ab ((uh hI).2.alloc (uh hI).2.size (.cells #[.int .i64 (p.k:Int),.int .i64 (p.l:Int),.int .i64 (p.r:Int)] 182));have HRB:=ab ((uh hI).1.alloc (.cells #[.int .i64 (p.k:Int),.int .i64 (p.l:Int),.int .i64 (p.r:Int)] 182));have ED:=ab (hF.alloc (.cells #[.int .i64 (p.k:Int),.int .i64 (p.l:Int),.int .i64 (p.r:Int)] 182));have i1:(0:Int)<=(k:Int):=(by omega);have i2:(k:Int)<(f.ap.length:Int):=(by omega);have dL:((f.ap.take k).filter (xQ f)).length<=k:=zq3 (length_filter_le _ _) (by simp;omega);obtain⟨L,hL⟩:∃L,L=(f.ap.take k).filter (xQ f):=⟨_,rfl⟩;rw[<-hL]at db HRB hI dL ⊢;clear hp aV hF hdo bH aU e1 e2 hL;have no:xQ f p=false->(f.ap.take (k+1)).filter (xQ f)=L:=λh=>by rw[uh db,h];simp
       have yes:xQ f p=true->(f.ap.take (k+1)).filter (xQ f)=L++[p]:=λh=>by rw[uh db,h];simp
       have NO:=ab no;have YES:=ab yes;clear no yes;cases b1
       .go_wp2_with fail
        go_roundw
        case rel=>exact⟨k+1,by omega,by go_num,ab (by rw[uh NO (by rw[uh HP];rfl)];exact⟨uh HRB,uh fU⟩)⟩
        case measure=>simp[intOf];omega
       .cases b2
        .go_wp2_with fail
         go_roundw
         case rel=>exact⟨k+1,by omega,by go_num,ab (by rw[uh NO (by rw[uh HP];rfl)];exact⟨uh HRB,uh fU⟩)⟩
         case measure=>simp[intOf];omega
        .go_wp2_with fail
         refine(yy p.l p.r (uh ED)).mono ?_;rintro e w1 ⟨rfl,rfl⟩;cases dp:lV f p.l p.r
         .have HY:=ab (uh YES (by rw[uh HP,dp];rfl));clear YES NO HP dp;go_wp2_with (at_builtin;refine aS _ rfl (.tmp 65) (.tmp 67) 177 rfl wz.heap.size 182 i0 _ 3 24 underlying177 k9 gX fK f9 rfl (by decide) _ L.length (af L) rfl ((uh HRB).alloc _) ⟨_,0,none⟩ 1 [.int .i64 (p.k:Int),.int .i64 (p.l:Int),.int .i64 (p.r:Int)] rfl rfl (aN _ _ (by simp) [.int .i64 (p.k:Int),.int .i64 (p.l:Int),.int .i64 (p.r:Int)] _) (qY p) (by omega) (by omega) (by have:=(uh fU).size;simp at this ⊢;omega) ?_)
          intro g4 cap4 w4 iG eg jG;have HN:Hid (w4.ownsRow wz.heap.size 182 3 (.slice (some ⟨g4,0,none⟩) (L.length+1) cap4) ((f.ap.take (k+1)).filter (xQ f)).length (af ((f.ap.take (k+1)).filter (xQ f)))/\Below wz.heap.size wz w4):=ab (by
           rw[uh HY,length_append,length_singleton,eK];refine⟨iG,?_⟩;have hb:=(uh fU).alloc (uh fU).size (.cells #[.int .i64 (p.k:Int),.int .i64 (p.l:Int),.int .i64 (p.r:Int)] 182);exact hb.grown eg hb.size (λk hk=>((uh HRB).lt k hk).1))
          clear iG eg jG;go_wp2_with fail
          go_roundw
          case rel=>exact⟨k+1,by omega,by go_num,HN⟩
          case measure=>simp[intOf];omega
         .go_wp2_with fail
          go_roundw
          case rel=>exact⟨k+1,by omega,by go_num,ab (by rw[uh NO (by rw[uh HP,dp];rfl)];exact⟨uh HRB,uh fU⟩)⟩
          case measure=>simp[intOf];omega
      .have hd:decide ((k:Int)<(f.ap.length:Int))=false:=(by simp;omega);have kk:k=f.ap.length:=(by omega);have hbw:=(uh R8).trans ((uh hI).2.mono (uh R8).size);have hs:au (Value.slice aa f.ap.length ac).ownBlock.toList w (Value.slice ra ((f.ap.take k).filter (xQ f)).length rc).ownBlock.toList wr:=(au.ofBw (F:=(Value.slice aa f.ap.length ac).ownBlock.toList) hbw).foots (λj hj=>zq1 (zq3 (uh R8).size ((uh hI).1.lt j (by simpa using hj)).1));have hN:=(uh H).newAv (ap':=(f.ap.take k).filter (xQ f)) hs (v':=.slice ra ((f.ap.take k).filter (xQ f)).length rc) (λj hj=>by simpa using hj) (ej (uh hI).1 (zq5 _));have HN:=ab hN;have HE:Hid (dm f={ f with ap:=(f.ap.take k).filter (xQ f) }):=ab (by unfold dm;rw[kk,take_length]);have c5:=hF.c5;have f5:=ownsRow.frozenAt hF.ob 5;clear hs hN kk hF hbw hdo;go_wp2_with fail
       go_end0
       exact⟨rfl,_,by rw[uh HE];exact(uh HN).1,(uh HN).2⟩
end
