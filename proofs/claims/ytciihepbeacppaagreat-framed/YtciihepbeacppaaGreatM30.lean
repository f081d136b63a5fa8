import Derived.Test.YtciihepbeacppaaGreatM29
namespace Go.Proofs.YtciihepbeacppaaGreat
open Go.RowKit List
set_option linter.unusedVariables false
section
variable {f g:CF}
theorem abF{B:Nat->Prop}(h2:∀p∈f.ow,B p.l->B p.r){s:List Nat}{p:Pr}(hp:p∈f.ow)(h:∀c∈s,B c):∀c∈mH s p,B c:=by
 unfold mH;split
 .rename_i hh;intro c hc;rcases mem_append.1 hc with hc|hc
  .exact h c hc
  .rw[mem_singleton.1 hc];exact h2 p hp (h _ hh.1)
 .exact h
theorem Qz{B:Nat->Prop}(h2:∀p∈f.ow,B p.l->B p.r):∀(l:List Pr) {s:List Nat},(∀p∈l,p∈f.ow)->(∀c∈s,B c)->∀c∈l.foldl mH s,B c
 |[],_,_,h=>h
 |p::l,s,hl,h=>by
  rw[foldl_cons];exact Qz h2 l (λq hq=>hl q (by simp[hq])) (abF h2 (hl p (by simp)) h)
theorem QA{B:Nat->Prop}(h2:∀p∈f.ow,B p.l->B p.r):∀(n:Nat) {s:List Nat},(∀c∈s,B c)->∀c∈Lm f n s,B c
 |0,_,h=>h
 |n+1,s,h=>by
  unfold Lm;split
  .exact h
  .exact QA h2 n (Qz h2 f.ow (λp hp=>hp) h)
theorem O9(hl:fj f=[]):fx f:=by
 intro B h1 h2 p hp;have h0:∀c∈R6 f,B c:=by
  intro c hc;rcases IU _ hc with hc|hc
  .simp at hc
  .simp only[mem_cons,not_mem_nil,or_false]at hc;rcases hc with rfl|rfl|rfl|rfl
   .exact h1 1 (by omega)
   .exact h1 2 (by omega)
   .exact h1 3 (by omega)
   .exact h1 4 (by omega)
 obtain⟨i,hi,rfl⟩:=mem_iff_getElem.1 hp;unfold fj at hl;rw[filter_eq_nil_iff]at hl;have:=hl i (by simpa using hi);simp only[Bool.not_eq_true,Bool.not_eq_false',decide_eq_true_eq]at this;have e:owA f i=f.ow[i]:=cQ hi;rw[e]at this;exact QA h2 25 h0 _ this
theorem EW{V:CF}{B:Nat->Prop}(h2:∀p∈V.ow,B p.l->B p.r):∀{L:List Nat} {a e:Nat},(∀i∈L,i<V.ow.length)->M9 V L a e->B a->(∀i∈L,B (V.ow.getD i ax).l)/\B e
 |[],_,_,_,h,_=>h.elim
 |[i],a,e,hL,h,hB=>by
  obtain⟨rfl,rfl⟩:=h;exact⟨λj hj=>by rw[mem_singleton.1 hj];exact hB,h2 _ (bG (hL i (by simp))) hB⟩
 |i::j::r,a,e,hL,h,hB=>by
  obtain⟨rfl,h3⟩:=h;obtain⟨g1,g2⟩:=EW h2 (λx hx=>hL x (by simp[hx])) h3 (h2 _ (bG (hL i (by simp))) hB);exact⟨λx hx=>by
   rcases mem_cons.1 hx with rfl|hx
   .exact hB
   .exact g1 x hx,g2⟩
theorem Cn{V T:CF}{b:Nat->Option Nat}:∀{ks fr:List Nat},iW V T b ks fr->(∀k∈ks,∃L a e,(∀i∈L,i∈fr)/\b (T.ow.getD k ax).l=some a/\b (T.ow.getD k ax).r=some e/\M9 V L a e) /\
  ∀i∈fr,∃k∈ks,∃L a e,(∀i∈L,i∈fr)/\i∈L/\b (T.ow.getD k ax).l=some a/\M9 V L a e
 |[],fr,h=>by
  have h:fr=[]:=h;subst h;exact⟨λk hk=>by simp at hk,λi hi=>by simp at hi⟩
 |k::ks,fr,h=>by
  obtain⟨L,rest,h1,⟨a,e,h2,h3,h4⟩,-,h5⟩:=h;obtain⟨g1,g2⟩:=Cn h5;have hL:∀i∈L,i∈fr:=λi hi=>h1.symm.subset (mem_append_left _ hi);have hr:∀i∈rest,i∈fr:=λi hi=>h1.symm.subset (mem_append_right _ hi);refine⟨λj hj=>?_,λi hi=>?_⟩
  .rcases mem_cons.1 hj with rfl|hj
   .exact⟨L,a,e,hL,h2,h3,h4⟩
   .obtain⟨L',a',e',k1,k2⟩:=g1 j hj;exact⟨L',a',e',λi hi=>hr i (k1 i hi),k2⟩
  .rcases mem_append.1 (h1.subset hi) with hi|hi
   .exact⟨k,mem_cons_self,L,a,e,hL,hi,h2,h4⟩
   .obtain⟨j,hj,L',a',e',k1,k2⟩:=g2 i hi;exact⟨j,mem_cons_of_mem _ hj,L',a',e',λi hi=>hr i (k1 i hi),k2⟩
theorem vz(hg:aq g)(hw:xF f g=true)(hF:fx g):fx f:=by
 unfold xF at hw;rw[Bool.and_eq_true]at hw;obtain⟨-,hw⟩:=hw;cases kS:xP f g [0,1,2,3,4] (replicate 24 none) with
 |none=>rw[kS]at hw;cases hw
 |some an =>
  rw[kS]at hw;obtain⟨g1,_,g3,_⟩:=uX (λi _=>hg.get i) (by decide) (by simp) kS;have Ag:uP (lQ f g an 128)=range g.ow.length:=by
   unfold uP lQ;simp only[length_replicate];rw[filter_eq_self];intro k hk;have:=mem_range.1 hk;simp[getD_eq_getElem?_getD,this]
  have iX:qa (lQ f g an 128)=range f.ow.length:=by
   unfold qa lQ;simp only[length_replicate];rw[filter_eq_self];intro k hk;have:=mem_range.1 hk;simp[getD_eq_getElem?_getD,this]
  have rB:Wf f g (lQ f g an 128):=⟨by simp[lQ],by simp[lQ],g1,by rw[iX];simp[lQ]⟩;obtain⟨he,-,-,L7⟩:=(so hg.ow (wY hg.ow _) _ _ rB (by rw[Ag];simp) true (D9 f g an 128).2 (Prod.ext hw rfl)).2 rfl;rw[Ag,iX]at L7;obtain⟨d1,d2⟩:=Cn L7;intro B h1 h2;have hB:=hF (λc=>∃a,(D9 f g an 128).2.b c=some a/\B a) (λi hi=>⟨_,he _ _ (g3 i (by simp;omega)),h1 i hi⟩) (λq hq hl=>by
   obtain⟨k,hk,rfl⟩:=mem_iff_getElem.1 hq;obtain⟨L,a,e,k1,k2,k3,k4⟩:=d1 k (by simpa using hk);rw[cQ hk]at k2 k3;obtain⟨a',tp,hBa⟩:=hl;rw[k2]at tp;injection tp with tp;subst tp;exact⟨e,k3,(EW h2 (λi hi=>by simpa using k1 i hi) k4 hBa).2⟩)
  intro p hp;obtain⟨i,hi,rfl⟩:=mem_iff_getElem.1 hp;obtain⟨k,hk,L,a,e,k1,k2,k3,k4⟩:=d2 i (by simpa using hi);have hk:k<g.ow.length:=by simpa using hk
  obtain⟨a',tp,hBa⟩:=hB _ (bG hk);rw[k3]at tp;injection tp with tp;subst tp;have:=(EW h2 (λi hi=>by simpa using k1 i hi) k4 hBa).1 i k2;rw[cQ hi]at this;exact this
theorem Ck:XX (λf=>¬ fx f):=⟨λ_ hg hw h hF=>h (vz hg hw hF),λhf h hF=>h ((m6 _ hf).1 ((l7 (df _ hf).1).1 hF))⟩
end
theorem vV{α:Type}{x:α}{l:List α}(h:x∈l):∃R,l.Perm (x::R):=by
 obtain⟨a,b,rfl⟩:=append_of_mem h;exact⟨a++b,perm_middle⟩
theorem wU{α:Type}{x y:α}{l:List α}(hx:x∈l)(hy:y∈l)(aL:y≠x):∃R,l.Perm (x::y::R):=by
 obtain⟨R,hR⟩:=vV hx;rcases mem_cons.1 (hR.subset hy) with e|Ep
 .exact absurd e aL
 .obtain⟨R2,ZG⟩:=vV Ep;exact⟨R2,hR.trans (ZG.cons x)⟩
theorem zR{f:CF}{k:Nat}(hs:tH f=some k):∃q p R,f.ow.Perm (q::p::R)/\q.r=p.l/\p.r≠p.l/\(∀i,i<5->f.cl.getD i 0≠p.l)/\(∀x∈R,x.r≠p.l)/\(jD f k).ow.Perm (⟨4,q.l,p.r⟩::R)/\(jD f k).cl=f.cl/\(jD f k).ap=f.ap:=by
 obtain⟨hk,hp⟩:k<f.ow.length/\DO f (f.ow.getD k ax)=true:=by
  unfold tH at hs;obtain⟨h1,h2,-⟩:=findIdx?_eq_some_iff_getElem.1 hs;exact⟨h1,by rw[cQ h1];exact h2⟩
 obtain⟨p,pL⟩:∃p,p=f.ow.getD k ax:=⟨_,rfl⟩;rw[<-pL]at hp;obtain⟨BS,aL,hc⟩:=Bg hp;have jc:=dZ hk;rw[<-pL]at jc;have tr:(jr f.ow k).countP (λq=>decide (q.r=p.l))=1:=by
  have:=jc.countP_eq (λq=>decide (q.r=p.l));unfold zO at hc;rw[hc,countP_cons,decide_eq_false aL]at this;simpa using this.symm
 obtain⟨q,R,hqR,hq,hR⟩:=rK tr;have hq:q.r=p.l:=by simpa using hq
 have hR:∀x∈R,x.r≠p.l:=λx hx=>by simpa using hR x hx
 refine⟨q,p,R,(jc.trans (hqR.cons p)).trans (List.Perm.swap _ _ _),hq,aL,λi hi e=>?_,hR,?_,rfl,rfl⟩
 .unfold RY at BS;have:i=0\/i=1\/i=2\/i=3\/i=4:=by omega
  rcases this with rfl|rfl|rfl|rfl|rfl <;> simp_all
 .show(jr (f.ow.map (Go.Proofs.YtciihepbeacppaaGreat.fo1 (f.ow.getD k ax).l (f.ow.getD k ax).r)) k).Perm _;rw[Bp,<-pL];have h3:=hqR.map (Go.Proofs.YtciihepbeacppaaGreat.fo1 p.l p.r);rw[map_cons]at h3;have e1:Go.Proofs.YtciihepbeacppaaGreat.fo1 p.l p.r q=⟨4,q.l,p.r⟩:=by unfold Go.Proofs.YtciihepbeacppaaGreat.fo1;rw[if_pos hq]
  have e2:R.map (Go.Proofs.YtciihepbeacppaaGreat.fo1 p.l p.r)=R:=by
   conv=>rhs;rw[<-map_id R]
   apply map_congr_left;intro x hx;unfold Go.Proofs.YtciihepbeacppaaGreat.fo1;rw[if_neg (hR x hx)];rfl
  rw[e1,e2]at h3;exact h3
theorem Hv:∀(n:Nat) (f:CF),f.ow.length<=n->tH (dM n f)=none
 |0,f,h=>by
  have:f.ow=[]:=length_eq_zero_iff.1 (by omega);unfold dM tH;rw[this];rfl
 |n+1,f,h=>by
  unfold dM;split
  .assumption
  .rename_i k hk;obtain⟨q,p,R,h1,-,-,-,-,h2,-⟩:=zR hk;have l1:=h1.length_eq;have l2:=h2.length_eq;simp only[length_cons]at l1 l2;exact Hv n _ (by omega)
section
variable {r:Nat->Nat} {w:Nat} {F V:CF} {val:Nat->Nat} {X:List Pr}
theorem el.foV1{k:Nat}(hs:tH V=some k)(h:el r w F val X V):el r w F val X (jD V k):=by
 obtain⟨q,p,R,h1,h2,-,-,-,h3,h4,h5⟩:=zR hs;have ic:∀c,c∈bQ (jD V k)->c∈bQ V:=λc hc=>by
  rcases yU hc with⟨i,hi,rfl⟩|⟨x,hx,e⟩
  .rw[h4];exact vP hi
  .rcases mem_cons.1 (h3.subset hx) with rfl|hx
   .rcases e with rfl|rfl
    .exact(fR (h1.symm.subset (show q∈q::p::R by simp))).1
    .exact(fR (h1.symm.subset (show p∈q::p::R by simp))).2
   .have:=fR (h1.symm.subset (show x∈q::p::R by simp[hx]));rcases e with rfl|rfl
    .exact this.1
    .exact this.2
 obtain⟨cs,s1,s2⟩:=h.sp;refine⟨λi hi=>by rw[h4];exact h.cl i hi,λx hx l1 l2=>h.ap x (by rw[h5]at hx;exact hx) (ic _ l1) (ic _ l2),⟨cs,s1,dC h3.symm ?_⟩,h.nm⟩;obtain⟨u,c1,a1,a2,-,v,c2,b1,b2,-,b4⟩:=dC h1 s2;rw[h2]at a2;exact⟨u++v,c2,a1.trans (by rw[append_assoc];exact b1.append_left u),zF a2 b2,λh=>absurd rfl h,b4⟩
theorem el.foV:∀(n:Nat) {V:CF},el r w F val X V->el r w F val X (dM n V)
 |0,_,h=>h
 |n+1,V,h=>by
  unfold dM;split
  .exact h
  .rename_i k hk;exact el.foV n (h.foV1 hk)
theorem Hb:∀{c:List Pr} {a e:Nat} {p:Pr},(∀z∈c,z.l=p.l->z=p)->rI c a e->p∈c->a≠p.l->∃x q y,c=x++q::p::y/\q.r=p.l/\rI (x++⟨4,q.l,p.r⟩::y) a e
 |[],_,_,_,_,h,_,_=>h.elim
 |[z],a,e,p,_,h,hp,aL=>by rw[mem_singleton.1 hp]at aL;exact absurd h.1.symm aL
 |z::z'::t,a,e,p,hu,h,hp,aL=>by
  obtain⟨rfl,h'⟩:=h;have hz':z'.l=z.r:=by cases t with|nil=>exact h'.1|cons y t=>exact h'.1
  by_cases e2:z'=p
  .subst e2;refine⟨[],z,t,rfl,hz'.symm,?_⟩;show rI (⟨4,z.l,z'.r⟩::t) z.l e;cases t with
   |nil=>exact⟨rfl,h'.2⟩
   |cons y t=>exact⟨rfl,h'.2⟩
  .have hzr:z.r≠p.l:=λe3=>e2 (hu z' (by simp) (by rw[hz',e3]));rcases mem_cons.1 hp with h5|h5
   .rw[h5]at aL;exact absurd rfl aL
   .obtain⟨x,q,y,k1,k2,k3⟩:=Hb (λy hy=>hu y (mem_cons_of_mem _ hy)) h' h5 hzr;refine⟨z::x,q,y,by rw[k1];rfl,k2,?_⟩;show rI (z::(x++⟨4,q.l,p.r⟩::y)) z.l e;exact uT k3
theorem SG{l cs:List Pr}{p:Pr}(hu:∀z∈cs,z.l=p.l->z=p)(hp:p∈cs)(hl:∀P∈l,val P.l≠p.l)(hpp:p.r≠p.l)(h:nM val l cs):∃q∈cs,q.r=p.l/\∀R,cs.Perm (q::p::R)->nM val l (⟨4,q.l,p.r⟩::R):=by
 induction l generalizing cs with
 |nil =>
  have h:cs=[]:=h;rw[h]at hp;simp at hp
 |cons P l ih =>
  obtain⟨c,cs1,h1,h2,h3,h4⟩:=h;rcases mem_append.1 (h1.subset hp) with hc|hc
  .obtain⟨x,q,y,k1,k2,k3⟩:=Hb (λz hz=>hu z (h1.symm.subset (mem_append_left _ hz))) h2 hc (hl P (by simp));refine⟨q,h1.symm.subset (mem_append_left _ (by rw[k1];simp)),k2,λR hR=>?_⟩;refine⟨x++⟨4,q.l,p.r⟩::y,cs1,?_,k3,λhk=>?_,h4⟩
   .have e1:(q::p::R).Perm (q::p::(x++y++cs1)):=by
     refine hR.symm.trans (h1.trans ?_);rw[k1,append_assoc,append_assoc];show(x++(q::p::(y++cs1))).Perm _;exact perm_middle.trans ((perm_middle.cons q))
    have e2:R.Perm (x++y++cs1):=e1.cons_inv.cons_inv;refine(e2.cons _).trans ?_;rw[append_assoc,append_assoc];exact perm_middle.symm
   .obtain⟨z,hz,-⟩:=h3 hk;rw[k1]at hz;have:=congrArg List.length hz;simp at this;omega
  .obtain⟨q,hq,k2,k3⟩:=ih (λz hz=>hu z (h1.symm.subset (mem_append_right _ hz))) hc (λP' hP'=>hl P' (by simp[hP'])) h4;refine⟨q,h1.symm.subset (mem_append_right _ hq),k2,λR hR=>?_⟩;have hqp:q≠p:=λe=>hpp (by rw[<-e];rw[e]at k2;rw[e];exact k2);obtain⟨R1,sL⟩:=wU hq hc (λe=>hqp e.symm);refine⟨c,⟨4,q.l,p.r⟩::R1,?_,h2,h3,k3 R1 sL⟩;have e1:(q::p::R).Perm (q::p::(c++R1)):=by
    refine hR.symm.trans (h1.trans ((sL.append_left c).trans ?_));exact perm_middle.trans (perm_middle.cons q)
   exact(e1.cons_inv.cons_inv.cons _).trans perm_middle.symm
theorem Vx(hV:mM V.ow)(hH:fx V)(hs:tH V=none)(h:el r w F val X V){m:Nat}(hr:∀i,i<5->r i<5)(hn:∀i,i<5->F.cl.getD i 0≠m)(h1:F.ow.countP (λq=>decide (q.r=m))=1):∀P∈V.ow,val P.l≠m:=by
 intro P hP e;have BK:∀i,i<5->V.cl.getD i 0≠P.l:=λi hi e2=>hn (r i) (hr i hi) (by rw[<-h.cl i hi,e2,e])
 -- another owner ends there
 obtain⟨Q,hQ,q1,q2⟩:∃Q∈V.ow,Q.l≠P.l/\Q.r=P.l:=by
  apply Classical.byContradiction;intro hc;exact hH (λc=>c≠P.l) BK (λQ hQ hl FI=>hc ⟨Q,hQ,hl,FI⟩) P hP rfl
 obtain⟨Q2,hQ2,q3,q4⟩:∃Q2∈V.ow,Q2≠Q/\Q2.r=P.l:=by
  by_cases e2:P.r=P.l
  .exact⟨P,hP,λe3=>q1 (by rw[e3]),e2⟩
  .have pi:DO V P=false:=by
    unfold tH at hs;rw[findIdx?_eq_none_iff]at hs;simpa using hs P hP
   have BS:RY V P.l=false:=by
    unfold RY;rw[decide_eq_false (BK 0 (by omega)),decide_eq_false (BK 1 (by omega)),decide_eq_false (BK 2 (by omega)),decide_eq_false (BK 3 (by omega)),decide_eq_false (BK 4 (by omega))];rfl
   have hen:zO V.ow P.l≠1:=by
    intro e3;unfold DO at pi;rw[BS,decide_eq_false e2,decide_eq_true e3]at pi;simp at pi
   apply Classical.byContradiction;intro hc;apply hen;unfold zO;obtain⟨R0,hp⟩:=vV hQ;rw[hp.countP_eq,countP_cons,decide_eq_true q2];have:R0.countP (λp=>decide (p.r=P.l))=0:=by
    rw[countP_eq_zero];intro x hx;simp only[decide_eq_true_eq];intro r9;refine hc ⟨x,hp.symm.subset (mem_cons_of_mem _ hx),λe3=>?_,r9⟩;have c9:(Q::R0).Nodup:=by
     have:((Q::R0).map (·.l)).Nodup:=AT hV hp;exact List.Pairwise.of_map (·.l) (λa b qw e=>qw (by rw[e])) this
    rw[e3]at hx;exact(nodup_cons.1 c9).1 hx
   rw[this];rfl
 obtain⟨R,hR⟩:=wU hQ hQ2 q3;obtain⟨cs,s1,s2⟩:=h.sp;obtain⟨u,c1,a1,a2,-,v,c2,b1,b2,-,-⟩:=dC hR s2;obtain⟨x,tx,ex,hx⟩:=zG a2;obtain⟨y,ty,ey,hy⟩:=zG b2;rw[s1.countP_eq,countP_append,a1.countP_eq,countP_append,b1.countP_eq,countP_append,ex,ey,countP_append,countP_append,countP_singleton,countP_singleton,hx,hy,q2,q4,e]at h1;simp at h1;omega
theorem el.foF1(hr:∀i,i<5->r i<5)(hw:w<4)(hF:aq F)(hV:mM V.ow)(hH:fx V)(hs:tH V=none){k:Nat}(hk:tH F=some k)(h:el r w F val X V):el r w (jD F k) val X V:=by
 obtain⟨q,p,R,h1,h2,h3,h4,h5,h6,h7,h8⟩:=zR hk;have ak3:F.ow.countP (λx=>decide (x.r=p.l))=1:=by
  rw[h1.countP_eq,countP_cons,countP_cons,decide_eq_true h2,decide_eq_false h3];have:R.countP (λx=>decide (x.r=p.l))=0:=by
   rw[countP_eq_zero];intro x hx;simpa using h5 x hx
  rw[this];rfl
 have FD:=Vx hV hH hs h hr h4 ak3;obtain⟨cs,s1,s2⟩:=h.sp;have Mc:∀z∈F.ow,z.l=p.l->z=p:=λz hz e=>aaX hF.lf hz (h1.symm.subset (by simp)) e;have hpX:p ∉ X:=λhx=>h4 (1+w) (by omega) (h.nm p hx).1.symm;have hqX:q ∉ X:=λhx=>h4 0 (by omega) (by rw[<-(h.nm q hx).2,h2]);have hpc:p∈cs:=by
  rcases mem_append.1 (s1.subset (h1.symm.subset (show p∈q::p::R by simp))) with hx|hx
  .exact absurd hx hpX
  .exact hx
 obtain⟨q',hq',k2,k3⟩:=SG (λz hz=>Mc z (s1.symm.subset (mem_append_right _ hz))) hpc FD h3 s2;have hqq:q'=q:=by
  rcases mem_cons.1 (h1.subset (s1.symm.subset (mem_append_right _ hq'))) with e|hx
  .exact e
  .rcases mem_cons.1 hx with e|hx
   .rw[e]at k2;exact absurd k2 h3
   .exact absurd k2 (h5 q' hx)
 subst hqq;have hqp:q'≠p:=λe=>h3 (by rw[e]at k2;exact k2);obtain⟨R1,sL⟩:=wU hq' hpc (λe=>hqp e.symm);have hRX:R.Perm (X++R1):=by
  have e1:(q'::p::R).Perm (q'::p::(X++R1)):=by
   refine h1.symm.trans (s1.trans ((sL.append_left X).trans ?_));exact perm_middle.trans (perm_middle.cons q')
  exact e1.cons_inv.cons_inv
 have xD:=k3 R1 sL;have iC:(jD F k).ow.Perm (X++(⟨4,q'.l,p.r⟩::R1)):=h6.trans ((hRX.cons _).trans perm_middle.symm)
 -- live classes do not lead to the seam
 have CS:∀c,c∈bQ V->val c≠p.l:=λc hc=>by
  rcases yU hc with⟨i,hi,rfl⟩|⟨P,hP,e⟩
  .rw[h.cl i hi];exact h4 _ (hr i hi)
  .rcases e with rfl|rfl
   .exact FD P hP
   .intro e2;obtain⟨-,x,hx,ex⟩:=uJ hP xD;rw[e2]at ex;rcases mem_cons.1 hx with rfl|hx
    .exact h3 ex
    .exact h5 x (hRX.symm.subset (mem_append_right _ hx)) ex
 refine⟨λi hi=>by rw[h7];exact h.cl i hi,λx hx l1 l2=>?_,⟨_,iC,xD⟩,λx hx=>by rw[h7];exact h.nm x hx⟩;have hd:=h.ap x hx l1 l2;have n1:=CS _ l1;have n2:=CS _ l2;have oZ:∀c,c≠p.l->(∃y∈F.ow,y.l=c)->∃y∈(jD F k).ow,y.l=c:=λc hc=>by
  rintro⟨y,hy,rfl⟩;rcases mem_cons.1 (h1.subset hy) with rfl|hy
  .exact⟨_,h6.symm.subset (mem_cons_self),rfl⟩
  .rcases mem_cons.1 hy with rfl|hy
   .exact absurd rfl hc
   .exact⟨y,h6.symm.subset (mem_cons_of_mem _ hy),rfl⟩
 rw[de]at hd ⊢;refine⟨hd.1,?_⟩;rcases hd.2 with h9|h9
 .left;rw[h8];exact h9
 .right;rw[gD]at h9 ⊢;rw[h7];rcases h9 with⟨a,b|b⟩|⟨a,b⟩
  .exact zq0 ⟨oZ _ n1 a,zq0 (oZ _ n2 b)⟩
  .exact zq0 ⟨oZ _ n1 a,zq1 b⟩
  .exact zq1 ⟨oZ _ n2 a,b⟩
theorem el.foF'(hr:∀i,i<5->r i<5)(hw:w<4)(hV:mM V.ow)(hH:fx V)(hs:tH V=none):∀(n:Nat) {F:CF},aq F->el r w F val X V->el r w (dM n F) val X V
 |0,_,_,h=>h
 |n+1,F,hF,h=>by
  have bD:=df (n+1) hF;unfold dM at bD ⊢;split
  .exact h
  .rename_i k hk;have h1:=h.foF1 hr hw hF hV hH hs hk;have kE:aq (jD F k):=by
    have:=(df 1 hF).1;unfold dM at this;rw[hk]at this;exact this
   exact el.foF' hr hw hV hH hs n kE h1
theorem el.fold(hr:∀i,i<5->r i<5)(hw:w<4)(hF:aq F)(hV:aq V)(hH:fx V)(h:el r w F val X V):el r w (Eb F) val X (Eb V) :=
 el.foF' hr hw (df _ hV).1.lf ((m6 _ hV).2 hH) (Hv _ V (zq4 _)) _ hF (h.foV V.ow.length)
end
section
variable {f g:CF}
theorem CX(h5:f.cl.length=5){v c:Nat}(hv:v<4)(hc:∀B:Nat->Prop,(∀i,i<5->B (f.cl.getD i 0))->(∀p∈f.ow,B p.l->B p.r)->B c)(hF:fx (setC f (1+v) c)):fx f:=by
 intro B h1 h2;refine hF B (λi hi=>?_) h2;rw[nH h5 (by omega)];split
 .exact hc B h1 h2
 .exact h1 i hi
theorem EY{k i:Nat}(hi:i<4){B:Nat->Prop}(h1:∀i,i<5->B (f.cl.getD i 0)):B (clT f k i):=by
 unfold clT;split
 .exact h1 _ (by omega)
 .exact h1 0 (by omega)
theorem DL{l:List Pr}{i:Nat}{q:Pr}(hq:q.l=(l.getD i ax).l){p:Pr}(hp:p∈l)(hi:i<l.length):∃x∈l.set i q,x.l=p.l:=by
 have e:(l.set i q).map (·.l)=l.map (·.l):=qR (λ_=>hq);have:p.l∈(l.set i q).map (·.l):=by rw[e];exact mem_map_of_mem (f:=(·.l)) hp
 obtain⟨x,hx,h⟩:=mem_map.1 this;exact⟨x,hx,h⟩
theorem CY{i k z:Nat}(hi:i<f.ow.length)(hz:∀B:Nat->Prop,(∀i,i<5->B (f.cl.getD i 0))->(∀p∈f.ow,B p.l->B p.r)->B (f.ow.getD i ax).l->B z)(hF:fx (setO f i ⟨k,(f.ow.getD i ax).l,z⟩)):fx f:=by
 intro B h1 h2;have hB:=hF B h1 (λx hx hl=>by
  rcases mem_or_eq_of_mem_set (show x∈f.ow.set i _ from hx) with hx|rfl
  .exact h2 x hx hl
  .exact hz B h1 h2 hl)
 intro p hp;obtain⟨x,hx,e⟩:=DL (q:=⟨k,(f.ow.getD i ax).l,z⟩) rfl hp hi;rw[<-e];exact hB x hx
theorem aai{c:Nat}(hg:g∈(jk f c).1)(hF:fx g):fx f:=by
 unfold jk at hg;split at hg
 .simp at hg
 .rename_i i hb;obtain⟨hi,hl⟩:=lR hb;have hpm:owA f i∈f.ow:=oj hi;have h1F:fx (fO f i)->fx f:=λh=>CY (i:=i) (k:=3) (z:=(owA f i).r) hi (λB _ h2 hB=>h2 _ hpm hB) h;unfold J7 at hg;split at hg
  .simp only[mem_singleton]at hg;rw[hg]at hF;exact hF
  .split at hg
   .simp only[mem_singleton]at hg;rw[hg]at hF;exact h1F hF
   .simp only[mem_cons,not_mem_nil,or_false]at hg;rcases hg with rfl|rfl
    .exact h1F hF
    .intro B h1 h2;have ar:∀{a},a<aw f->((a=aw f/\B c)\/(a≠aw f/\B a)↔B a):=fun {a} ha=>⟨λh=>by
      rcases h with⟨e,-⟩|⟨-,h⟩
      .omega
      .exact h,λh=>zq1 ⟨by omega,h⟩⟩
     have fZ:c<aw f:=(by rw[<-hl];exact(lu f hpm).1);have hB:=hF (λa=>(a=aw f/\B c)\/(a≠aw f/\B a)) (λi hi=>(ar (sd f hi)).2 (h1 i hi)) (λx hx tD=>by
      rcases mem_append.1 (show x∈f.ow.set i ⟨3,c,aw f⟩++[⟨4,aw f,(owA f i).r⟩] from hx) with hx|hx
      .rcases mem_or_eq_of_mem_set hx with hx|rfl
       .exact(ar (lu f hx).2).2 (h2 x hx ((ar (lu f hx).1).1 tD))
       .exact zq0 ⟨rfl,(ar fZ).1 tD⟩
      .rw[mem_singleton.1 hx]at tD ⊢;have hBc:B c:=by
        rcases tD with⟨-,h⟩|⟨h,-⟩
        .exact h
        .exact absurd rfl h
       refine(ar (lu f hpm).2).2 (h2 _ hpm ?_);rw[show(owA f i).l=c from hl];exact hBc)
     intro p hp;obtain⟨x,hx,e⟩:=DL (q:=⟨3,c,aw f⟩) hl.symm hp hi;have:=hB x (mem_append_left _ hx);rw[e]at this;exact(ar (lu f hp).1).1 this
theorem Ud{n:Nd}(hk:aq g)(hv:n.v<4)(ha:n.ai<4){r j:Nat}(h1:cU g.ow (g.cl.getD (1+n.ai) 0)=some j)(hF:fx (eG g n)):fx g:=by
 obtain⟨hj,hl⟩:=lR h1;refine CX hk.c5 hv (λB k1 k2=>?_) hF;rw[kz h1];refine k2 _ (oj hj) ?_;rw[show(owA g j).l=g.cl.getD (1+n.ai) 0 from hl];exact k1 _ (by omega)
theorem aal{n:Nd}(ha:n.ai<4){j:Nat}(h1:cU g.ow (g.cl.getD (1+n.v) 0)=some j)(hF:fx (mx g n)):fx g:=by
 obtain⟨hj,-⟩:=lR h1;have e:mx g n=setO g j ⟨(owA g j).k,(g.ow.getD j ax).l,clT g n.ak n.ai⟩:=by unfold mx;simp only;rw[kz h1];rfl
 rw[e]at hF;exact CY hj (λB k1 _ _=>EY ha k1) hF
theorem Qk:∀(l:List Pr) (h:CF) (c:Nat),(l.foldl (λh p=>b7 h c p.l) h).ow=h.ow/\(l.foldl (λh p=>b7 h c p.l) h).cl=h.cl
 |[],_,_=>⟨rfl,rfl⟩
 |p::r,h,c=>by
  rw[foldl_cons];exact Qk r (b7 h c p.l) c
theorem aaj{v:Nat}(hv:v<4){j:Nat}(h1:cU g.ow (g.cl.getD (1+v) 0)=some j)(hF:fx (kh g v)):fx g:=by
 obtain⟨hj,hl⟩:=lR h1;have e:(kh g v).ow=jr g.ow j/\(kh g v).cl=g.cl:=by
  unfold kh;simp only;rw[kz h1];exact Qk _ _ _
 intro B k1 k2;have hB:=hF B (λi hi=>by rw[e.2];exact k1 i hi) (λx hx tD=>k2 x (pV (by rw[e.1]at hx;exact hx)) tD);intro p hp;rcases mem_cons.1 ((dZ hj).subset hp) with rfl|hp
 .rw[hl];exact k1 _ (by omega)
 .exact hB p (by rw[e.1];exact hp)
theorem aag(h5:f.cl.length=5){v:Nat}(hv:v<4)(hF:fx (zK f v)):fx f:=by
 intro B k1 k2;have hB:=hF (λa=>a=aw f\/B a) (λi hi=>by
  have e:(zK f v).cl.getD i 0=if 1+v=i then aw f else f.cl.getD i 0:=nH (f:=ll f ⟨3,aw f,f.cl.getD 0 0⟩) h5 (by omega)
  rw[e];split
  .exact zq0 rfl
  .exact zq1 (k1 i hi)) (λx hx tD=>by
  rcases mem_append.1 (show x∈f.ow++[⟨3,aw f,f.cl.getD 0 0⟩] from hx) with hx|hx
  .rcases tD with e|tD
   .have:=(lu f hx).1;omega
   .exact zq1 (k2 x hx tD)
  .rw[mem_singleton.1 hx];exact zq1 (k1 0 (by omega)))
 intro p hp;rcases hB p (mem_append_left _ hp) with e|h
 .have:=(lu f hp).1;omega
 .exact h
theorem aak(h5:f.cl.length=5){a b:Nat}(qw:∀B:Nat->Prop,(∀i,i<5->B (f.cl.getD i 0))->B a/\B b)(hF:fx (qe f a b)):fx f:=by
 intro B k1 k2;obtain⟨ha,hb⟩:=qw B k1;have up:∀{c},B c->B (ek a b c):=λh=>by unfold ek;split;exact ha;exact h
 have dn:∀{c},B (ek a b c)->B c:=fun {c} h=>by
  unfold ek at h;split at h
  .rename_i e;rw[e];exact hb
  .exact h
 have hB:=hF B (λi hi=>by rw[ng h5 hi];exact up (k1 i hi)) (λx hx tD=>by
  obtain⟨q,hq,rfl⟩:=mem_map.1 (show x∈f.ow.map (qh a b) from hx);exact up (k2 q hq (dn tD)))
 intro p hp;exact dn (hB (qh a b p) (mem_map.2 ⟨p,hp,rfl⟩))
theorem aeH{c i:Nat}(hb:cU f.ow c=some i):(jk f c).1≠[]:=by
 unfold jk;rw[hb];simp only;unfold J7;split
 .simp
 .split <;> simp
theorem UV{nd:Nd}(hk:aq f)(hv:nd.v<4)(ha:nd.ai<4)(h0:nd.op≠0)(cnu:(bL nd f).nu=false)(cda:(bL nd f).da=false)(cfu:(bL nd f).fu=false)(hL:¬ fx f):(∃x∈(bL nd f).nx,¬ fx x)\/∃x∈(bL nd f).ot,¬ fx x:=by
 have opn:∀{w:Nat} {G:CF->CF},w<4->(dP f w).2.1=false->(dP f w).2.2.1=false->(dP f w).2.2.2=false->(∀x∈(dP f w).1,aq (G x)/\(fx (G x)->fx x))->∃x∈(dP f w).1.map (λx=>aZ (G x)),¬ fx x:=by
  intro w G hw g1 g2 g3 hG;have nU:∃x∈(dP f w).1,fx x->fx f:=by
   unfold dP at g1 g2 g3 ⊢;by_cases e0:f.cl.getD (1+w) 0=f.cl.getD 0 0
   .rw[if_pos e0]at g1;cases g1
   .rw[if_neg e0]at g1 g2 g3 ⊢;by_cases eb:(cU f.ow (f.cl.getD (1+w) 0)).isSome=true
    .rw[if_pos eb];obtain⟨i,hi⟩:=Option.isSome_iff_exists.1 eb;obtain⟨x,hx⟩:=exists_mem_of_ne_nil _ (aeH hi);exact⟨x,hx,aai hx⟩
    .rw[if_neg eb]at g2;cases g2
  obtain⟨x,hx,hxf⟩:=nU;obtain⟨k1,k2⟩:=hG x hx;exact⟨_,mem_map.2 ⟨x,hx,rfl⟩,λh=>hL (hxf (k2 ((l7 k1).1 h)))⟩
 have opb:∀{w:Nat} {x:CF},w<4->x∈(dP f w).1->aq x/\∃j,cU x.ow (x.cl.getD (1+w) 0)=some j:=λhw hx=>by
  have:=im (N:=f.ap.length) hw hk (zq4 _) _ hx;exact⟨this.ok,Option.isSome_iff_exists.1 this.bg⟩
 by_cases o1:nd.op=1
 .left;refine⟨_,by unfold bL;rw[if_neg h0,if_pos o1];exact mem_singleton.2 rfl,λh=>hL (CX hk.c5 hv (λB k1 _=>EY ha k1) ((l7 (hk.sC _ (hk.cT _ _))).1 h))⟩
 .by_cases o2:nd.op=2
  .have ho:bL nd f=bt (dP f nd.ai) (λg=>eG g nd):=(by unfold bL;rw[if_neg h0,if_neg o1,if_pos o2]);rw[ho]at cnu cda cfu ⊢;exact zq0 (opn ha cnu cda cfu (λx hx=>by
    obtain⟨k1,j,k2⟩:=opb ha hx;exact⟨by unfold eG;exact k1.sC _ (k1.oA _).2,Ud (r:=0) k1 hv ha k2⟩))
  .by_cases o3:nd.op=3
   .have ho:bL nd f=bt (dP f nd.v) (λg=>mx g nd):=(by unfold bL;rw[if_neg h0,if_neg o1,if_neg o2,if_pos o3]);rw[ho]at cnu cda cfu ⊢;exact zq0 (opn hv cnu cda cfu (λx hx=>by
     obtain⟨k1,j,k2⟩:=opb hv hx;exact⟨by unfold mx;exact k1.sO (λ_=>rfl) (k1.cT _ _) (k1.oA _).1,aal ha k2⟩))
   .by_cases o4:nd.op=4
    .have agk:¬ 24<=aw f:=λhh=>by
      unfold bL at cfu;rw[if_neg h0,if_neg o1,if_neg o2,if_neg o3,if_pos o4,if_pos hh]at cfu;cases cfu
     left;refine⟨aZ (zK f nd.v),by unfold bL;rw[if_neg h0,if_neg o1,if_neg o2,if_neg o3,if_pos o4,if_neg agk];exact mem_singleton.2 rfl,λh=>hL (aag hk.c5 hv ((l7 (mN hk (by omega))).1 h))⟩
    .by_cases o5:nd.op=5
     .have ho:bL nd f=bt (dP f nd.v) (λg=>kh g nd.v):=(by unfold bL;rw[if_neg h0,if_neg o1,if_neg o2,if_neg o3,if_neg o4,if_pos o5]);rw[ho]at cnu cda cfu ⊢;exact zq0 (opn hv cnu cda cfu (λx hx=>by
       obtain⟨k1,j,k2⟩:=opb hv hx;exact⟨(mV (N:=x.ap.length) ⟨k1,zq4 _,by rw[k2];rfl⟩).1,aaj hv k2⟩))
     .have BW:¬ fx (aZ f):=λh=>hL ((l7 hk).1 h);by_cases o7:nd.op=7
      .left;exact⟨aZ f,by unfold bL;rw[if_neg h0,if_neg o1,if_neg o2,if_neg o3,if_neg o4,if_neg o5,if_pos o7];exact mem_singleton.2 rfl,BW⟩
      .have mC:(∃x∈(jW f nd).1,¬ fx x)\/∃x∈(jW f nd).2,¬ fx x:=by
        cases hd:bj f (f.cl.getD (1+nd.v) 0) (clT f nd.ak nd.ai) with
        |false =>
         left;refine⟨aZ (qe f (f.cl.getD (1+nd.v) 0) (clT f nd.ak nd.ai)),by unfold jW;simp only;rw[hd];simp,λh=>hL (aak hk.c5 (λB k1=>⟨k1 _ (by omega),EY ha k1⟩) ((l7 (hk.jo (hk.get _) (eR hd))).1 h))⟩
        |true =>
         right;have aL:f.cl.getD (1+nd.v) 0≠clT f nd.ak nd.ai:=λe=>by unfold bj at hd;rw[if_pos e]at hd;cases hd
         exact⟨aZ (b7 f (f.cl.getD (1+nd.v) 0) (clT f nd.ak nd.ai)),by unfold jW;simp only;rw[if_neg aL];simp,λh=>hL ((l7 (hk.pa (hk.get _) (hk.cT _ _))).1 h)⟩
       by_cases o8:nd.op=8
       .have ho:bL nd f=⟨(jW f nd).1,(jW f nd).2,false,false,false⟩:=(by unfold bL;rw[if_neg h0,if_neg o1,if_neg o2,if_neg o3,if_neg o4,if_neg o5,if_neg o7,if_pos o8]);rw[ho];exact mC
       .by_cases o9:nd.op=9
        .have ho:bL nd f=⟨(jW f nd).2,(jW f nd).1,false,false,false⟩:=(by unfold bL;rw[if_neg h0,if_neg o1,if_neg o2,if_neg o3,if_neg o4,if_neg o5,if_neg o7,if_neg o8,if_pos o9]);rw[ho];exact mC.symm
        .left;exact⟨aZ f,by unfold bL;rw[if_neg h0,if_neg o1,if_neg o2,if_neg o3,if_neg o4,if_neg o5,if_neg o7,if_neg o8,if_neg o9];exact mem_singleton.2 rfl,BW⟩
end
def xg(s:Sr):Prop:=∀n,∀e∈a7 s n,fx e.f
section
variable {c:Cd} {N n:Nat} {f:CF} {s:Sr}
theorem Ue(hf:aq f)(h:fx f):fx (bm c n f):=by
 unfold bm;split
 .exact(l7 (df _ hf).1).2 ((m6 _ hf).2 h)
 .exact h
theorem UL(hn:n<s.kn.length)(hf:aq f)(h:fx f)(hs:xg s):xg (bF c n f s):=by
 unfold bF;split
 .exact hs
 .intro m e he;have hkA:a7 (pU c (nk n (bm c n f) (mG c s (2*(a7 s n).length)))) m=if n=m then (a7 s n).filter (λe=>!xF e.f (bm c n f))++[⟨bm c n f,false⟩] else a7 s m:=gK hn m
  rw[hkA]at he;by_cases e0:n=m
  .rw[if_pos e0]at he;rcases mem_append.1 he with he|he
   .exact hs n e (mem_filter.1 he).1
   .rw[mem_singleton.1 he];exact Ue hf h
  .rw[if_neg e0]at he;exact hs m e he
theorem zz{fuel a b:Nat}(hf:Td f)(hs:iS N s)(ha:a<N)(hb:b<N)(hS:Sf (dJ c fuel a b f s)):(c.lp=false\/fj f=[])/\dJ c fuel a b f s=bF c b f s:=by
 by_cases hc:c.lp=false\/fj f=[]
 .exact⟨hc,by unfold dJ;rw[if_pos hc]⟩
 .exfalso;have bS:=hS;unfold dJ at bS;rw[if_neg hc]at bS;simp only at bS;obtain⟨g1,g2⟩:=Bu hs ha (k:=2) (by omega);obtain⟨k1,k2,k3⟩:=mS (c:=c) fuel 0 (res:=[]) (r:=([f],mm a 2 s)) (λg hg=>by rw[mem_singleton.1 hg];exact hf) (λg hg=>by simp at hg);have hL:oW (mm a 2 s) (jC c fuel 0 [] ([f],mm a 2 s)).2:=by
   refine⟨λh=>NS fuel 0 h,λm k h=>?_,λm P hc h=>?_⟩
   .unfold Cw;rw[k3];exact h
   .unfold xh a7;rw[k2];exact h
  have hSh:iS N (jC c fuel 0 [] ([f],mm a 2 s)).2:=⟨by rw[k2];exact g2.kn,by rw[k3];exact g2.wr,λr hr=>by rw[k3]at hr;exact g2.rw r hr,λl hl=>by rw[k2]at hl;exact g2.td l hl⟩;obtain⟨q1,-⟩:=Ax (c:=c) (n:=b) (jC c fuel 0 [] ([f],mm a 2 s)).1 k1 hSh hb;have h9:=((hL.trans q1).sf bS).2 a 2 (zq0 rfl);rw[tU hs ha (by omega),if_pos ⟨rfl,rfl⟩]at h9;cases h9
theorem MR{fuel a b:Nat}(hp:c.lp=true)(hf:Td f)(hs:iS N s)(ha:a<N)(hb:b<N)(hS:Sf (dJ c fuel a b f s))(h:xg s):xg (dJ c fuel a b f s):=by
 obtain⟨hc,e⟩:=zz hf hs ha hb hS;have hl:fj f=[]:=by
  rcases hc with hc|hc
  .rw[hp]at hc;cases hc
  .exact hc
 rw[e];exact UL (by rw[hs.kn];exact hb) hf.ok (O9 hl) h
theorem EM{fuel a b:Nat}(hp:c.lp=true)(ha:a<N):∀(l:List CF) {s:Sr},(l≠[]->b<N)->cX l->iS N s->Sf (l.foldl (λs g=>dJ c fuel a b g s) s)->xg s->xg (l.foldl (λs g=>dJ c fuel a b g s) s)
 |[],_,_,_,_,_,h=>h
 |g::l,s,hb,hl,hs,hS,h=>by
  rw[foldl_cons]at hS ⊢;have hbN:=hb (by simp);obtain⟨-,h2,-⟩:=pB (c:=c) (fuel:=fuel) (hl g (by simp)) hs ha hbN;obtain⟨h4,-,-⟩:=ky (c:=c) (fuel:=fuel) ha l (λ_=>hbN) (λx hx=>hl x (by simp[hx])) h2;exact EM hp ha l (λ_=>hbN) (λx hx=>hl x (by simp[hx])) h2 hS (MR hp (hl g (by simp)) hs ha hbN (h4.sf hS) h)
theorem agl{s':Sr}(e:s'.kn=s.kn)(h:xg s):xg s':=λn x hx=>by
 unfold a7 at hx;rw[e]at hx;exact h n x hx
theorem ab6{fuel:Nat}(hp:c.lp=true)(hN:c.nds.length=N)(hO:uG c.nds)(hn:n<N)(hf:Td f)(hs:iS N s)(hS:Sf (oE c fuel n f s))(h:xg s):xg (oE c fuel n f s):=by
 obtain⟨hv,ha⟩:=hO.v n;obtain⟨t1,t2⟩:=lY hv ha hf;have jX:n<c.nds.length:=by rw[hN];exact hn
 have cf:(bL (c.nds.getD n aI) f).nx≠[]->(c.nds.getD n aI).nx<N:=λh=>by rw[<-hN];exact hO.nx n jX (rM h)
 have xq:(bL (c.nds.getD n aI) f).ot≠[]->(c.nds.getD n aI).ot<N:=λh=>by rw[<-hN];exact hO.ot n jX (mQ h)
 unfold oE at hS ⊢;simp only at hS ⊢;obtain⟨-,a2,-⟩:=fM (b:=decide ((c.nds.getD n aI).op=0)&&!decide (fj f=[])) (k:=2) hs hn (by omega);obtain⟨-,b2,-⟩:=fM (b:=(bL (c.nds.getD n aI) f).nu) (k:=3) a2 hn (by omega);obtain⟨-,d2,-⟩:=fM (b:=(bL (c.nds.getD n aI) f).da) (k:=4) b2 hn (by omega);obtain⟨-,e2,-⟩:=vh (bL (c.nds.getD n aI) f).fu d2;obtain⟨-,g2,-⟩:=ky (c:=c) (fuel:=fuel) (b:=(c.nds.getD n aI).nx) hn (bL (c.nds.getD n aI) f).nx cf t1 e2;obtain⟨k1,-,-⟩:=ky (c:=c) (fuel:=fuel) (b:=(c.nds.getD n aI).ot) hn (bL (c.nds.getD n aI) f).ot xq t2 g2;refine EM hp hn _ xq t2 g2 hS (EM hp hn _ cf t1 e2 (k1.sf hS) ?_);refine agl (s:=s) ?_ h;show(fuS _ (wrI _ n 4 (wrI _ n 3 (wrI _ n 2 s)))).kn=s.kn;show(wrI _ n 4 (wrI _ n 3 (wrI _ n 2 s))).kn=s.kn;rw[iu,iu,iu]
theorem Rg{fuel:Nat}(hp:c.lp=true)(hN:c.nds.length=N)(hO:uG c.nds)(hn:n<N):∀(l:List CF) {s:Sr},cX l->iS N s->Sf (mJ c fuel n l s)->xg s->xg (mJ c fuel n l s)
 |[],_,_,_,_,h=>h
 |f::r,s,hl,hs,hS,h=>by
  unfold mJ at hS ⊢;split
  .exact h
  .rename_i dK;rw[if_neg dK]at hS;obtain⟨-,h2,-⟩:=Bm (fuel:=fuel) hN hO hn (hl f (by simp)) hs;obtain⟨h4,-,-⟩:=Br (fuel:=fuel) hN hO hn r (λx hx=>hl x (by simp[hx])) h2;exact Rg hp hN hO hn r (λx hx=>hl x (by simp[hx])) h2 hS (ab6 hp hN hO hn (hl f (by simp)) hs (h4.sf hS) h)
theorem acf{fuel:Nat}(hp:c.lp=true)(hN:c.nds.length=N)(hO:uG c.nds)(hn:n<N)(hs:iS N s)(hS:Sf (rp c fuel n s))(h:xg s):xg (rp c fuel n s):=by
 have fJ:n<s.kn.length:=by rw[hs.kn];exact hn
 obtain⟨s0,r8⟩:∃s0:Sr,s0={ s with kn:=s.kn.set n ((a7 s n).map (λe:gT=>(⟨e.f,true⟩:gT))) }:=⟨_,rfl⟩;have hkA:∀m,a7 s0 m=if n=m then (a7 s n).map (λe=>⟨e.f,true⟩) else a7 s m:=λm=>by rw[r8];exact gK fJ m
 have Fp:iS N s0:=by
  rw[r8];refine⟨by show(s.kn.set n _).length=N;rw[length_set];exact hs.kn,hs.wr,hs.rw,λl hl e he=>?_⟩;rcases mem_or_eq_of_mem_set (show l∈s.kn.set n _ from hl) with h1|rfl
  .exact hs.td l h1 e he
  .obtain⟨x,hx,rfl⟩:=mem_map.1 he;exact hs.td.at n x hx
 have iX:cX (lJ (a7 s n)):=λg hg=>by
  obtain⟨e,he,rfl⟩:=mem_map.1 hg;exact hs.td.at n e (mem_filter.1 he).1
 have e1:rp c fuel n s=mJ c fuel n (lJ (a7 s n)) s0:=by rw[r8];rfl
 rw[e1]at hS ⊢;refine Rg hp hN hO hn _ iX Fp hS (λm e he=>?_);rw[hkA]at he;by_cases e0:n=m
 .rw[if_pos e0]at he;obtain⟨x,hx,rfl⟩:=mem_map.1 he;exact h n x hx
 .rw[if_neg e0]at he;exact h m e he
theorem QL{fuel:Nat}(hp:c.lp=true)(hN:c.nds.length=N)(hO:uG c.nds):∀(k:Nat) {s:Sr},iS N s->Sf (pS c fuel k s)->xg s->xg (pS c fuel k s)
 |0,_,_,_,h=>h
 |k+1,s,hs,hS,h=>by
  unfold pS at hS ⊢;split
  .exact h
  .rename_i n pL;rw[pL]at hS;simp only at hS;have hn:n<N:=by
    unfold Et at pL;obtain⟨h1,-⟩:=findIdx?_eq_some_iff_getElem.1 pL;rw[<-hs.kn];exact h1
   split
   .exact h
   .rename_i dK;rw[if_neg dK]at hS;obtain⟨-,h2,-⟩:=GC (fuel:=fuel) hN hO hn hs;obtain⟨h4,-,-⟩:=oy (fuel:=fuel) hN hO k h2;exact QL hp hN hO k h2 hS (acf hp hN hO hn hs (h4.sf hS) h)
theorem Ub(hO:uG c.nds)(hS:SfS c s)(fJ:∀n,c.nds.length<=n->a7 s n=[])(hfw:∀n,n<c.nds.length->(c.nds.getD n aI).op≠0->n<(c.nds.getD n aI).nx/\(tE (c.nds.getD n aI)=true->n<(c.nds.getD n aI).ot)):xg s:=by
 have key:∀k n,c.nds.length<=n+k->∀e∈a7 s n,fx e.f:=by
  intro k;induction k with
  |zero =>
   intro n hn e he;rw[fJ n (by omega)]at he;simp at he
  |succ k ih =>
   intro n hn e he;apply Classical.byContradiction;intro hL;have jX:n<c.nds.length:=by
    apply Classical.byContradiction;intro hc;rw[fJ n (by omega)]at he;simp at he
   have cl:=hS.cl n e he;by_cases h0:(c.nds.getD n aI).op=0
   .exact hL (O9 (cl.en h0))
   .obtain⟨hv,ha⟩:=hO.v n;have bD:=(hS.td.at n e he).ok;rcases UV bD hv ha h0 cl.nu cl.da cl.fu hL with⟨x,hx,tD⟩|⟨x,hx,tD⟩
    .obtain⟨e',he',RR⟩:=cl.nxP hx Ck tD;exact RR (ih _ (by have:=(hfw n jX h0).1;omega) e' he')
    .obtain⟨e',he',RR⟩:=cl.otP hx Ck tD;have ht:tE (c.nds.getD n aI)=true:=by
      have:=mQ (λe=>by rw[e]at hx;simp at hx:(bL (c.nds.getD n aI) e.f).ot≠[]);unfold tE;simpa using this
     exact RR (ih _ (by have:=(hfw n jX h0).2 ht;omega) e' he')
 exact λn e he=>key c.nds.length n (by omega) e he
end
theorem QO{l:List UInt8}(h:lA l=0)(hv:(GY (b9 l)).vd=0):xg (tM (bO l).nodes (bO l).vars.length (eW (b9 l) aX)):=by
 obtain⟨-,-,hf,-,-⟩:=jR h;have hA:=lP h;obtain⟨M,hR⟩:=DC hf;obtain⟨hSf,-⟩:=QN hA hv;obtain⟨c,hc⟩:∃c,c=xN (bO l).nodes (bO l).vars.length (eW (b9 l) aX):=⟨_,rfl⟩;have fZ:c.nds=(bO l).nodes:=by rw[hc];rfl
 have hS:Sf (tM (bO l).nodes (bO l).vars.length (eW (b9 l) aX)):=by
  have hv:(JU (bO l).nodes (bO l).vars.length (eW (b9 l) aX)).vd=0:=hv;unfold JU DF at hv;split at hv
  .cases hv
  .rename_i dK;refine⟨by simpa using dK,EK ?_⟩;apply Classical.byContradiction;intro h0;have hv:(if LS (tM (bO l).nodes (bO l).vars.length (eW (b9 l) aX)).wr=[] then 0 else 1)=0:=hv;rw[if_neg h0]at hv;cases hv
 rw[<-hc]at hSf;have h0:=uq (bO l).nodes;have oY:(bO l).nodes.length-1<(bO l).nodes.length:=by have:=hA.p;omega
 have hE:iS (bO l).nodes.length (er c 4000 (bO l).vars.length (eW (b9 l) aX) (kL (bO l).nodes))/\(c.lp=true->Sf (er c 4000 (bO l).vars.length (eW (b9 l) aX) (kL (bO l).nodes))->xg (er c 4000 (bO l).vars.length (eW (b9 l) aX) (kL (bO l).nodes))):=by
  have oS:xg (kL (bO l).nodes):=λn e he=>by rw[Bl]at he;simp at he
  unfold er;split
  .exact⟨h0,λ_ _=>oS⟩
  .rename_i kH;have eP:=gE (jz hA.a.tm (by simpa using kH)) (bO l).vars.length;rw[fZ];obtain⟨-,k2,-⟩:=pB (c:=c) (fuel:=4000) (a:=(bO l).nodes.length-1) (b:=0) eP.tidy h0 oY hA.p;exact⟨k2,λhp hS=>MR hp eP.tidy h0 oY hA.p hS oS⟩
 have hkS:iS (bO l).nodes.length (tM (bO l).nodes (bO l).vars.length (eW (b9 l) aX))/\oW (er c 4000 (bO l).vars.length (eW (b9 l) aX) (kL (bO l).nodes)) (tM (bO l).nodes (bO l).vars.length (eW (b9 l) aX)):=by
  obtain⟨r1,r2,-⟩:=oy (c:=c) (fuel:=4000) (by rw[fZ]) (by rw[fZ];exact hA.n) 1000000 hE.1;unfold tM;rw[<-hc];exact⟨r2,r1⟩
 cases yN:c.lp with
 |true =>
  have hh:=hE.2 yN (hkS.2.sf hS);unfold tM at hS ⊢;rw[<-hc]at hS ⊢;exact QL yN (by rw[fZ]) (by rw[fZ];exact hA.n) 1000000 hE.1 hS hh
 |false =>
  refine Ub (c:=c) (by rw[fZ];exact hA.n) hSf (λn hn=>?_) (λn hn h0=>?_)
  .unfold a7;rw[getD_eq_getElem?_getD,getElem?_eq_none (by rw[hkS.1.kn,<-fZ];exact hn)];rfl
  .rw[fZ]at hn h0 ⊢;have agi:(range (bO l).nodes.length).any (lS (bO l).nodes)=false:=(by rw[hc]at yN;exact yN);rw[any_eq_false]at agi;have hb:=agi n (by simpa using hn);have c9:(bO l).nodes=M++[{ iN with nx:=M.length+1 }]:=hR.nd;have hnM:n<M.length:=by
    apply Classical.byContradiction;intro cN;have hl:(bO l).nodes.length=M.length+1:=(by rw[c9];simp);have tY:n=M.length:=(by omega);apply h0;rw[c9,tY,getD_eq_getElem?_getD,getElem?_append_right (zq4 _)];simp;rfl
   have he:(bO l).nodes.getD n aI=M[n]:=by
    rw[c9,getD_eq_getElem?_getD,getElem?_append_left hnM,getElem?_eq_getElem hnM];rfl
   obtain⟨-,-,-,-,g5,g6,g7⟩:=hR.go n M[n] (getElem?_eq_getElem hnM);unfold lS at hb;rw[he]at hb ⊢;simp only[Bool.and_eq_true,decide_eq_true_eq,not_and,Nat.not_lt]at hb;refine⟨?_,λht=>by have:=g5 ht;omega⟩;by_cases e10:M[n].op=10
   .have:=hb e10;have:=g7 e10;omega
   .have:=g6 e10;omega
structure gU(f:CF):Prop where
 ap:∀p∈f.ap,p.l≠p.r
 ow:∀p∈f.ow,p.l≠f.cl.getD 0 0
section
variable {f g:CF}
theorem gU.td(hk:aq f)(h:gU f):gU (aZ f):=by
 have eP:=hk.fg;have ic:=iQ eP.ow eP.cl eP.lf;have inj:∀{a b},a∈bQ (dm f)->b∈bQ (dm f)->a≠b->(b8 (dm f)).idxOf a≠(b8 (dm f)).idxOf b:=λha hb aL e=>aL (Ar (ic _ ha) (ic _ hb) e);have h0:(aZ f).cl.getD 0 0=(b8 (dm f)).idxOf (f.cl.getD 0 0):=gC (dm f) (λc=>(b8 (dm f)).idxOf c) (i:=0) (by omega);have Ek:f.cl.getD 0 0∈bQ (dm f):=mem_append_left _ (eQ (f:=dm f) (i:=0) (by omega));refine⟨λp hp=>?_,λp hp=>?_⟩
 .obtain⟨q,hq,rfl⟩:=mem_map.1 (dA.1 (show p∈mh ((qg (dm f)).ap.map iU) from hp));obtain⟨x,hx,rfl⟩:=mem_map.1 (show q∈(dm f).ap.map (jf (b8 (dm f))) from hq);obtain⟨g1,g2⟩:=gF hx;have aL:=inj g1 g2 (h.ap x (mem_filter.1 hx).1);unfold iU;split
  .exact aL.symm
  .exact aL
 .rw[h0];obtain⟨x,hx,rfl⟩:=mem_map.1 (show p∈f.ow.map (jf (b8 (dm f))) from dA.1 (show p∈mh (qg (dm f)).ow from hp));exact inj (mem_append_right _ (mem_flatMap.2 ⟨x,hx,by simp⟩)) Ek (h.ow x hx)
theorem gU.fo1{k:Nat}(h:gU f):gU (jD f k):=by
 refine⟨h.ap,λp hp=>?_⟩;have Xs:=pV (show p∈jr (f.ow.map (Go.Proofs.YtciihepbeacppaaGreat.fo1 (f.ow.getD k ax).l (f.ow.getD k ax).r)) k from hp);obtain⟨q,hq,rfl⟩:=mem_map.1 Xs;unfold Go.Proofs.YtciihepbeacppaaGreat.fo1;split
 .exact h.ow q hq
 .exact h.ow q hq
theorem gU.fold:∀(n:Nat) {f:CF},gU f->gU (dM n f)
 |0,_,h=>h
 |n+1,f,h=>by
  unfold dM;split
  .exact h
  .exact gU.fold n h.fo1
theorem gU.setC(h5:f.cl.length=5){v c:Nat}(hv:v<4)(h:gU f):gU (Go.Proofs.YtciihepbeacppaaGreat.setC f (1+v) c):=by
 refine⟨h.ap,λp hp=>?_⟩;rw[nH h5 (by omega),if_neg (by omega)];exact h.ow p hp
theorem gU.setO{i:Nat}{q:Pr}(hi:i<f.ow.length)(hq:q.l=(f.ow.getD i ax).l)(h:gU f):gU (Go.Proofs.YtciihepbeacppaaGreat.setO f i q):=by
 refine⟨h.ap,λp hp=>?_⟩;rcases mem_or_eq_of_mem_set (show p∈f.ow.set i q from hp) with hp|rfl
 .exact h.ow p hp
 .rw[hq];exact h.ow _ (bG hi)
theorem gU.fi{c:Nat}(h:gU f)(hg:g∈(jk f c).1):gU g:=by
 unfold jk at hg;split at hg
 .simp at hg
 .rename_i i hb;obtain⟨hi,hl⟩:=lR hb;have h1:gU (fO f i):=h.setO hi rfl;unfold J7 at hg;split at hg
  .simp only[mem_singleton]at hg;rw[hg];exact h
  .split at hg
   .simp only[mem_singleton]at hg;rw[hg];exact h1
   .simp only[mem_cons,not_mem_nil,or_false]at hg;rcases hg with rfl|rfl
    .exact h1
    .have h2:gU (Go.Proofs.YtciihepbeacppaaGreat.setO f i ⟨3,c,aw f⟩):=h.setO hi hl.symm;refine⟨h2.ap,λp hp=>?_⟩;rcases mem_append.1 (show p∈f.ow.set i ⟨3,c,aw f⟩++[⟨4,aw f,(owA f i).r⟩] from hp) with hp|hp
     .exact h2.ow p hp
     .rw[mem_singleton.1 hp];have:=sd f (i:=0) (by omega);show aw f≠f.cl.getD 0 0;omega
theorem gU.par(h:gU f){a b:Nat}(aL:a≠b):gU (b7 f a b):=by
 refine⟨λp hp=>?_,h.ow⟩;rcases mem_append.1 (show p∈f.ap++[⟨2,a,b⟩] from hp) with hp|hp
 .exact h.ap p hp
 .rw[mem_singleton.1 hp];exact aL
theorem gU.pars:∀(l:List Pr) {h:CF} {c:Nat},gU h->(∀p∈l,c≠p.l)->gU (l.foldl (λh p=>b7 h c p.l) h)
 |[],_,_,h,_=>h
 |p::r,h,c,hn,hl=>by
  rw[foldl_cons];exact gU.pars r (hn.par (hl p (by simp))) (λq hq=>hl q (by simp[hq]))
theorem gU.fr{v j:Nat}(hk:aq g)(h:gU g)(h1:cU g.ow (g.cl.getD (1+v) 0)=some j):gU (kh g v):=by
 obtain⟨hj,hl⟩:=lR h1;have hpm:=(dZ hj).map (·.l);have c9:((g.ow.getD j ax::jr g.ow j).map (λx:Pr=>x.l)).Nodup:=((dZ hj).map (λx:Pr=>x.l)).nodup_iff.1 hk.lf;rw[map_cons,nodup_cons]at c9;have ht:gU (gY g j):=⟨h.ap,λp hp=>h.ow p (pV hp)⟩;unfold kh;simp only;rw[kz h1];refine gU.pars _ (ht.par ?_) (λp hp e=>c9.1 ?_)
 .rw[<-hl];exact h.ow _ (bG hj)
 .rw[hl,e];exact mem_map_of_mem (f:=λx:Pr=>x.l) hp
theorem gU.cr(h5:f.cl.length=5){v:Nat}(hv:v<4)(h:gU f):gU (zK f v):=by
 have h1:gU (ll f ⟨3,aw f,f.cl.getD 0 0⟩):=by
  refine⟨h.ap,λp hp=>?_⟩;rcases mem_append.1 (show p∈f.ow++[⟨3,aw f,f.cl.getD 0 0⟩] from hp) with hp|hp
  .exact h.ow p hp
  .rw[mem_singleton.1 hp];have:=sd f (i:=0) (by omega);show aw f≠f.cl.getD 0 0;omega
 exact gU.setC (f:=ll f ⟨3,aw f,f.cl.getD 0 0⟩) h5 hv h1
theorem gU.jo(h5:f.cl.length=5){a b:Nat}(h:gU f)(hd:bj f a b=false):gU (qe f a b):=by
 by_cases qw:a=b
 .have e:∀c,ek a b c=c:=λc=>by
   unfold ek;split
   .rename_i e;rw[e,qw]
   .rfl
  refine⟨λp hp=>?_,λp hp=>?_⟩
  .obtain⟨q,hq,rfl⟩:=mem_map.1 (show p∈f.ap.map (qh a b) from hp);show ek a b q.l≠ek a b q.r;rw[e,e];exact h.ap q hq
  .obtain⟨q,hq,rfl⟩:=mem_map.1 (show p∈f.ow.map (qh a b) from hp);rw[ng h5 (by omega)];show ek a b q.l≠_;rw[e,e];exact h.ow q hq
 .unfold bj at hd;rw[if_neg qw,Bool.or_eq_false_iff,any_eq_false]at hd;obtain⟨d1,d2⟩:=hd;unfold lV at d2;rw[Bool.or_eq_false_iff]at d2;refine⟨λp hp=>?_,λp hp=>?_⟩
  .obtain⟨q,hq,rfl⟩:=mem_map.1 (show p∈f.ap.map (qh a b) from hp);show ek a b q.l≠ek a b q.r;have aL:=h.ap q hq;have hx:=d1 q hq;intro e;apply hx;unfold ek at e;by_cases e1:q.l=b
   .rw[if_pos e1]at e;by_cases e2:q.r=b
    .exact absurd (e1.trans e2.symm) aL
    .rw[if_neg e2]at e;simp[e1,e.symm]
   .rw[if_neg e1]at e;by_cases e2:q.r=b
    .rw[if_pos e2]at e;simp[e2,e]
    .rw[if_neg e2]at e;exact absurd e aL
  .obtain⟨q,hq,rfl⟩:=mem_map.1 (show p∈f.ow.map (qh a b) from hp);rw[ng h5 (by omega)];show ek a b q.l≠ek a b (f.cl.getD 0 0);have aL:=h.ow q hq;have pJ:∀{c},q.l=c->(cU f.ow c).isSome=true:=λe=>qn.2 ⟨q,hq,e⟩;intro e;unfold ek at e;by_cases e1:q.l=b
   .rw[if_pos e1]at e;by_cases e2:f.cl.getD 0 0=b
    .exact aL (e1.trans e2.symm)
    .rw[if_neg e2]at e;have:=d2.2;rw[pJ e1,<-e]at this;simp at this
   .rw[if_neg e1]at e;by_cases e2:f.cl.getD 0 0=b
    .rw[if_pos e2]at e;have:=d2.1;rw[pJ e,e2]at this;simp at this
    .rw[if_neg e2]at e;exact aL e
end
def Kd(f:CF):Prop:=∀p∈f.ow,p.k=3\/p.k=4
theorem k6{F F':CF}(h1:∀p∈F.ap,p∈F'.ap)(h2:F'.cl.getD 0 0=F.cl.getD 0 0)(h3:∀p∈F.ow,∃p'∈F'.ow,p'.l=p.l){a b:Nat}(h:bj F a b=true):bj F' a b=true:=by
 have oZ:∀c,(∃p∈F.ow,p.l=c)->∃p∈F'.ow,p.l=c:=λc=>by
  rintro⟨p,hp,rfl⟩;exact h3 p hp
 rw[de]at h ⊢;refine⟨h.1,?_⟩;rcases h.2 with⟨p,hp,h9⟩|h9
 .exact zq0 ⟨p,h1 p hp,h9⟩
 .right;rw[gD]at h9 ⊢;rw[h2];rcases h9 with⟨a,b|b⟩|⟨a,b⟩
  .exact zq0 ⟨oZ _ a,zq0 (oZ _ b)⟩
  .exact zq0 ⟨oZ _ a,zq1 b⟩
  .exact zq1 ⟨oZ _ a,b⟩
section
variable {r:Nat->Nat} {w:Nat} {F V:CF} {val:Nat->Nat} {X cs cs' t:List Pr}
theorem G8(hF:mM F.ow){x:Pr}(hx:x∈F.ow):∃i,cU F.ow x.l=some i/\i<F.ow.length/\F.ow.getD i ax=x:=by
 obtain⟨i,h1,h2⟩:=uR hF hx;exact⟨i,h1,(eC h1).1,h2⟩
theorem Ts(hF:aq F)(kF:Kd F){x:Pr}{e:Nat}(hp:F.ow.Perm (X++(x::t++cs)))(hc:rI (x::t) x.l e){F':CF}(rx:F'∈(jk F x.l).1):
  ∃u t',F'.ow.Perm (X++(⟨3,x.l,u⟩::(t'++cs)))/\((t'=[]/\u=e)\/rI t' u e)/\(∀a b,bj F a b=true->bj F' a b=true)/\F'.cl=F.cl/\F'.ap=F.ap/\(x.k=3->t=[]->t'=[]):=by
 have hx:x∈F.ow:=hp.symm.subset (by simp);obtain⟨i,hi,xx,hix⟩:=G8 hF.lf hx;have jc:=dZ xx;rw[hix]at jc;have rA:(jr F.ow i).Perm (X++(t++cs)):=by
  have:(x::jr F.ow i).Perm (x::(X++(t++cs))):=jc.symm.trans (hp.trans (perm_middle (l₁:=X) (a:=x) (l₂:=t++cs)));exact this.cons_inv
 have KK:∀y:Pr,(y::jr F.ow i).Perm (X++(y::(t++cs))):=λy=>(rA.cons y).trans perm_middle.symm;have pK:(t=[]/\x.r=e)\/rI t x.r e:=by
  cases t with
  |nil=>exact zq0 ⟨rfl,hc.2⟩
  |cons d t=>exact zq1 hc.2
 unfold jk at rx;rw[hi]at rx;simp only at rx;unfold J7 at rx;have hox:owA F i=x:=hix;rw[hox]at rx;by_cases h3:x.k=3
 .rw[if_pos h3]at rx;rw[mem_singleton.1 rx];refine⟨x.r,t,?_,pK,λ_ _ h=>h,rfl,rfl,λ_ h=>h⟩;have:(⟨3,x.l,x.r⟩:Pr)=x:=by rw[<-h3]
  rw[this];simpa using hp
 .rw[if_neg h3]at rx;have agu:∃u t',(fO F i).ow.Perm (X++(⟨3,x.l,u⟩::(t'++cs)))/\((t'=[]/\u=e)\/rI t' u e)/\(∀a b,bj F a b=true->bj (fO F i) a b=true)/\(fO F i).cl=F.cl/\(fO F i).ap=F.ap/\(x.k=3->t=[]->t'=[]):=by
   have hs:(fO F i).ow.Perm (⟨3,x.l,x.r⟩::jr F.ow i):=by
    show(F.ow.set i ⟨3,(owA F i).l,(owA F i).r⟩).Perm _;rw[hox];exact pT xx _
   refine⟨x.r,t,hs.trans (KK _),pK,λa b=>k6 (F:=F) (F':=fO F i) (λp hp=>hp) rfl (λp hp=>?_),rfl,rfl,λh=>absurd h h3⟩;rcases mem_cons.1 (jc.subset hp) with rfl|hp
   .exact⟨_,hs.symm.subset mem_cons_self,rfl⟩
   .exact⟨p,hs.symm.subset (mem_cons_of_mem _ hp),rfl⟩
  by_cases zV:24<=aw F
  .rw[if_pos zV]at rx;rw[mem_singleton.1 rx];exact agu
  .rw[if_neg zV]at rx;rcases mem_cons.1 rx with rfl|rx
   .exact agu
   .rw[mem_singleton.1 rx];have hs:(oP F x.l i).ow.Perm (⟨3,x.l,aw F⟩::(⟨4,aw F,x.r⟩::jr F.ow i)):=by
     show(F.ow.set i (⟨3,x.l,aw F⟩:Pr)++[(⟨4,aw F,(owA F i).r⟩:Pr)]).Perm _;rw[hox];exact((perm_append_comm (l₂:=[(⟨4,aw F,x.r⟩:Pr)])).trans ((pT xx (⟨3,x.l,aw F⟩:Pr)).cons _)).trans (List.Perm.swap _ _ _)
    refine⟨aw F,(⟨4,aw F,x.r⟩:Pr)::t,?_,zq1 ?_,λa b=>k6 (F:=F) (F':=oP F x.l i) (λp hp=>hp) rfl (λp hp=>?_),rfl,rfl,λh=>absurd h h3⟩
    .refine hs.trans ?_;have h9:=(KK ⟨4,aw F,x.r⟩).cons (⟨3,x.l,aw F⟩:Pr);exact h9.trans perm_middle.symm
    .rcases pK with⟨rfl,rfl⟩|pK
     .exact⟨rfl,rfl⟩
     .exact uT (x:=⟨4,aw F,x.r⟩) pK
    .rcases mem_cons.1 (jc.subset hp) with rfl|hp
     .exact⟨_,hs.symm.subset mem_cons_self,rfl⟩
     .exact⟨p,hs.symm.subset (mem_cons_of_mem _ (mem_cons_of_mem _ hp)),rfl⟩
structure SE(r:Nat->Nat)(w:Nat)(F:CF)(val:Nat->Nat)(X:List Pr)(V:CF)(c u:Nat)(cr Vr:List Pr):Prop where
 em:el r w F val X V
 vo:V.ow.Perm (⟨3,c,u⟩::Vr)
 fo:F.ow.Perm (X++(⟨3,val c,val u⟩::cr))
 sp:nM val Vr cr
theorem el.opn(hF:aq F)(kF:Kd F)(hV:aq V)(kV:Kd V)(hL:Wt V)(h:el r w F val X V){c i:Nat}(hb:cU V.ow c=some i)(dK:(jk V c).2=false):
  (∃x∈F.ow,x.l=val c)/\∀F'∈(jk F (val c)).1,∃V'∈(jk V c).1,∃val' u cr Vr,SE r w F' val' X V' c u cr Vr/\val' c=val c/\F'.cl=F.cl/\V'.cl=V.cl:=by
 obtain⟨hi,hl⟩:=eC hb;obtain⟨P,hP⟩:∃P,P=V.ow.getD i ax:=⟨_,rfl⟩;rw[<-hP]at hl;have Fo:P∈V.ow:=by rw[hP];exact bG hi
 obtain⟨cs,s1,s2⟩:=h.sp;have s3:=JQ hi s2;rw[<-hP]at s3;obtain⟨q,cs',a1,a2,a3,a4⟩:=s3;obtain⟨x,t,rfl,hx⟩:=EU a2;rw[hl]at hx a2;have hp:F.ow.Perm (X++(x::t++cs')):=s1.trans (a1.append_left X);have hxm:x∈F.ow:=hp.symm.subset (by simp);refine⟨⟨x,hxm,hx⟩,λF' rx=>?_⟩;rw[<-hx]at rx a2;obtain⟨u,t',b1,b2,b3,b4,b5,b6⟩:=Ts hF kF hp a2 rx;rw[hx]at b1;have hvp:V.ow.Perm (P::jr V.ow i):=by rw[hP];exact dZ hi
 unfold jk at dK ⊢;rw[hb]at dK ⊢;simp only at dK ⊢;unfold J7 at dK ⊢;have hoP:owA V i=P:=hP.symm;rw[hoP]at dK ⊢;by_cases h3:P.k=3
 .rw[if_pos h3];obtain⟨y,hy,hyk⟩:=a3 (by omega);injection hy with hy1 Ep;have hxk:x.k=3:=by rw[hy1];rcases kF y (by rw[<-hy1];exact hxm) with h|h;exact h;exact absurd h hyk
  have ht':=b6 hxk Ep;subst ht';have hu:u=val P.r:=by
   rcases b2 with⟨-,h⟩|h
   .exact h
   .exact h.elim
  have Kq:(⟨3,c,P.r⟩:Pr)=P:=by rw[<-h3,<-hl]
  rw[nil_append,hu]at b1;have Pk:nM val V.ow (⟨3,val c,val P.r⟩::cs'):=dC hvp.symm ⟨[⟨3,val c,val P.r⟩],cs',List.Perm.refl _,⟨by show val c=val P.l;rw[hl],rfl⟩,λ_=>⟨_,rfl,by show(3:Nat)≠4;decide⟩,a4⟩;refine⟨V,by simp,val,P.r,cs',jr V.ow i,⟨⟨λj hj=>by rw[b4];exact h.cl j hj,λp hp l1 l2=>b3 _ _ (h.ap p hp l1 l2),⟨_,b1,Pk⟩,λz hz=>by rw[b4];exact h.nm z hz⟩,by rw[Kq];exact hvp,b1,a4⟩,rfl,b4,rfl⟩
 .rw[if_neg h3]at dK ⊢;have hP4:P.k=4:=by rcases kV P Fo with h|h;exact absurd h h3;exact h
  by_cases zV:24<=aw V
  .rw[if_pos zV]at dK;cases dK
  .rw[if_neg zV];rcases b2 with⟨ht',hu⟩|b2
   .
    subst ht';have hs:(fO V i).ow.Perm (⟨3,c,P.r⟩::jr V.ow i):=by
     show(V.ow.set i ⟨3,(owA V i).l,(owA V i).r⟩).Perm _;rw[hoP,hl];exact pT hi _
    rw[nil_append,hu]at b1;have Pk:nM val (fO V i).ow (⟨3,val c,val P.r⟩::cs'):=dC hs.symm ⟨[⟨3,val c,val P.r⟩],cs',List.Perm.refl _,⟨rfl,rfl⟩,λ_=>⟨_,rfl,by show(3:Nat)≠4;decide⟩,a4⟩;exact⟨fO V i,by simp,val,P.r,cs',jr V.ow i,⟨⟨λj hj=>by rw[b4];exact h.cl j hj,λp hp _ _=>b3 _ _ (h.ap p hp (hL p hp).1 (hL p hp).2),⟨_,b1,Pk⟩,λz hz=>by rw[b4];exact h.nm z hz⟩,hs,b1,a4⟩,rfl,b4,rfl⟩
   .
    obtain⟨v',hv'⟩:∃v':Nat->Nat,v'=λa=>if a=aw V then u else val a:=⟨_,rfl⟩
    have hn:v' (aw V)=u:=(by rw[hv'];simp);have ar:∀a,a<aw V->v' a=val a:=λa ha=>by rw[hv'];show(if a=aw V then u else val a)=_;rw[if_neg (by omega)]
    have dp:=(lu V Fo).1;rw[hl]at dp;have hs:(oP V c i).ow.Perm (⟨3,c,aw V⟩::(⟨4,aw V,P.r⟩::jr V.ow i)):=by
     show(V.ow.set i (⟨3,c,aw V⟩:Pr)++[(⟨4,aw V,(owA V i).r⟩:Pr)]).Perm _;rw[hoP];exact((perm_append_comm (l₂:=[(⟨4,aw V,P.r⟩:Pr)])).trans ((pT hi (⟨3,c,aw V⟩:Pr)).cons _)).trans (List.Perm.swap _ _ _)
    have a4':nM v' (jr V.ow i) cs':=yl (λp hp=>⟨ar _ (lu V (pV hp)).1,ar _ (lu V (pV hp)).2⟩) a4;have hsr:nM v' (⟨4,aw V,P.r⟩::jr V.ow i) (t'++cs'):=⟨t',cs',List.Perm.refl _,by show rI t' (v' (aw V)) (v' P.r);rw[hn,ar _ (lu V Fo).2];exact b2,λh=>absurd rfl h,a4'⟩;have b1':F'.ow.Perm (X++(⟨3,v' c,v' (aw V)⟩::(t'++cs'))):=(by rw[hn,ar _ dp];exact b1);have Pk:nM v' (oP V c i).ow (⟨3,v' c,v' (aw V)⟩::(t'++cs')):=dC hs.symm ⟨[⟨3,v' c,v' (aw V)⟩],t'++cs',List.Perm.refl _,⟨rfl,rfl⟩,λ_=>⟨_,rfl,by show(3:Nat)≠4;decide⟩,hsr⟩;refine⟨oP V c i,by simp,v',aw V,t'++cs',⟨4,aw V,P.r⟩::jr V.ow i,⟨⟨λj hj=>?_,λp hp _ _=>?_,⟨_,b1',Pk⟩,λz hz=>by rw[b4];exact h.nm z hz⟩,hs,b1',hsr⟩,ar _ dp,b4,rfl⟩
    .rw[b4];show v' (V.cl.getD j 0)=_;rw[ar _ (sd V hj)];exact h.cl j hj
    .have hp:p∈V.ap:=hp;rw[ar _ (IX V hp).1,ar _ (IX V hp).2];exact b3 _ _ (h.ap p hp (hL p hp).1 (hL p hp).2)
end
