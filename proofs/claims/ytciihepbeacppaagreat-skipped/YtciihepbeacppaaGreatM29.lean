import Derived.Test.YtciihepbeacppaaGreatM28
namespace Go.Proofs.YtciihepbeacppaaGreat
open Go.RowKit List
set_option linter.unusedVariables false
section
variable {f g:CF}
theorem UD{k:Nat}(hk:aj f)(hs:xg f=some k):Sk (kk f k)↔Sk f:=by
 obtain⟨hi,hp⟩:k<f.ow.length/\EQ f (f.ow.getD k ay)=true:=by
  unfold xg at hs;obtain⟨h1,h2,-⟩:=findIdx?_eq_some_iff_getElem.1 hs;exact⟨h1,by rw[bX h1];exact h2⟩
 obtain⟨p,th⟩:∃p,p=f.ow.getD k ay:=⟨_,rfl⟩;rw[<-th]at hp;obtain⟨Cr,aH,hc⟩:=JH hp;have my:=cU hi;rw[<-th]at my;have vO:(iQ f.ow k).countP (λq=>decide (q.r=p.l))=1:=by
  have:=my.countP_eq (λq=>decide (q.r=p.l));unfold Ce at hc;rw[hc,countP_cons,decide_eq_false aH]at this;simpa using this.symm
 obtain⟨q,R,hqR,hq,hR⟩:=yV vO;have hq:q.r=p.l:=by simpa using hq
 have hR:∀x∈R,x.r≠p.l:=λx hx=>by simpa using hR x hx
 have d9:f.ow.Perm (p::q::R):=my.trans (hqR.cons p);have dF:((p::q::R).map (λx:Pr=>x.l)).Nodup:=(d9.map (λx:Pr=>x.l)).nodup_iff.1 hk.lf;rw[map_cons,map_cons,nodup_cons,nodup_cons]at dF;have UM:q.l≠p.l:=λe=>dF.1 (by rw[e];exact mem_cons_self);have KF:∀x∈R,x.l≠p.l:=λx hx e=>dF.1 (mem_cons_of_mem _ (by rw[<-e];exact mem_map_of_mem (f:=(·.l)) hx));have gW:∀x,x∈(kk f k).ow↔x=⟨4,q.l,p.r⟩\/x∈R:=λx=>by
  show x∈iQ (f.ow.map (Go.Proofs.YtciihepbeacppaaGreat.fo1 (f.ow.getD k ay).l (f.ow.getD k ay).r)) k↔_;rw[JQ,<-th];have h3:=hqR.map (Go.Proofs.YtciihepbeacppaaGreat.fo1 p.l p.r);rw[map_cons]at h3;have e1:Go.Proofs.YtciihepbeacppaaGreat.fo1 p.l p.r q=⟨4,q.l,p.r⟩:=by unfold Go.Proofs.YtciihepbeacppaaGreat.fo1;rw[if_pos hq]
  have e2:R.map (Go.Proofs.YtciihepbeacppaaGreat.fo1 p.l p.r)=R:=by
   conv=>rhs;rw[<-map_id R]
   apply map_congr_left;intro x hx;unfold Go.Proofs.YtciihepbeacppaaGreat.fo1;rw[if_neg (hR x hx)];rfl
  rw[e1,e2]at h3;rw[h3.mem_iff,mem_cons]
 have dT:(kk f k).cl=f.cl:=rfl;have Dj:∀i,i<5->f.cl.getD i 0≠p.l:=λi hi5 e=>by
  unfold SO at Cr;simp only[Bool.or_eq_false_iff,decide_eq_false_iff_not]at Cr;have:i=0\/i=1\/i=2\/i=3\/i=4:=by omega
  rcases this with rfl|rfl|rfl|rfl|rfl
  .exact Cr.1.1.1.1 e
  .exact Cr.1.1.1.2 e
  .exact Cr.1.1.2 e
  .exact Cr.1.2 e
  .exact Cr.2 e
 constructor
 .intro hF B h1 h2;have hB:=hF B h1 (λx hx hl=>by
   rcases(gW x).1 hx with rfl|hx
   .have:=h2 q (d9.symm.subset (by simp)) hl;rw[hq]at this;exact h2 p (d9.symm.subset (by simp)) this
   .exact h2 x (d9.symm.subset (by simp[hx])) hl)
  have hBq:B q.l:=hB ⟨4,q.l,p.r⟩ ((gW _).2 (zq0 rfl));intro x hx;rcases mem_cons.1 (d9.subset hx) with rfl|hx
  .have:=h2 q (d9.symm.subset (by simp)) hBq;rw[hq]at this;exact this
  .rcases mem_cons.1 hx with rfl|hx
   .exact hBq
   .exact hB x ((gW x).2 (zq1 hx))
 .intro hF B h1 h2;have hB:=hF (λc=>(c=p.l/\B q.l)\/(c≠p.l/\B c)) (λi hi5=>zq1 ⟨Dj i hi5,h1 i hi5⟩) (λx hx hl=>by
   rcases mem_cons.1 (d9.subset hx) with rfl|hx
   .rcases hl with⟨-,hl⟩|⟨hl,-⟩
    .exact zq1 ⟨aH,h2 ⟨4,q.l,x.r⟩ ((gW _).2 (zq0 rfl)) hl⟩
    .exact absurd rfl hl
   .rcases mem_cons.1 hx with rfl|hx
    .rcases hl with⟨hl,-⟩|⟨-,hl⟩
     .exact absurd hl UM
     .exact zq0 ⟨hq,hl⟩
    .rcases hl with⟨hl,-⟩|⟨-,hl⟩
     .exact absurd hl (KF x hx)
     .exact zq1 ⟨hR x hx,h2 x ((gW x).2 (zq1 hx)) hl⟩)
  intro x hx;rcases(gW x).1 hx with rfl|hx
  .rcases hB q (d9.symm.subset (by simp)) with⟨e,-⟩|⟨-,h⟩
   .exact absurd e UM
   .exact h
  .rcases hB x (d9.symm.subset (by simp[hx])) with⟨e,-⟩|⟨-,h⟩
   .exact absurd e (KF x hx)
   .exact h
theorem Dm:∀(n:Nat) {f:CF},aj f->(Sk (eE n f)↔Sk f)
 |0,_,_=>Iff.rfl
 |n+1,f,h=>by
  unfold eE;split
  .exact Iff.rfl
  .rename_i k hk;exact(Dm n (Io h k).1).trans (UD h hk)
end
section
variable {f g:CF}
theorem abA{B:Nat->Prop}(h2:∀p∈f.ow,B p.l->B p.r){s:List Nat}{p:Pr}(hp:p∈f.ow)(h:∀c∈s,B c):∀c∈mM s p,B c:=by
 unfold mM;split
 .rename_i hh;intro c hc;rcases mem_append.1 hc with hc|hc
  .exact h c hc
  .rw[mem_singleton.1 hc];exact h2 p hp (h _ hh.1)
 .exact h
theorem QU{B:Nat->Prop}(h2:∀p∈f.ow,B p.l->B p.r):∀(l:List Pr) {s:List Nat},(∀p∈l,p∈f.ow)->(∀c∈s,B c)->∀c∈l.foldl mM s,B c
 |[],_,_,h=>h
 |p::l,s,hl,h=>by
  rw[foldl_cons];exact QU h2 l (λq hq=>hl q (by simp[hq])) (abA h2 (hl p (by simp)) h)
theorem GB{B:Nat->Prop}(h2:∀p∈f.ow,B p.l->B p.r):∀(n:Nat) {s:List Nat},(∀c∈s,B c)->∀c∈LI f n s,B c
 |0,_,h=>h
 |n+1,s,h=>by
  unfold LI;split
  .exact h
  .exact GB h2 n (QU h2 f.ow (λp hp=>hp) h)
theorem Py(hl:dc f=[]):Sk f:=by
 intro B h1 h2 p hp;have h0:∀c∈QT f,B c:=by
  intro c hc;rcases Bo _ hc with hc|hc
  .simp at hc
  .simp only[mem_cons,not_mem_nil,or_false]at hc;rcases hc with rfl|rfl|rfl|rfl
   .exact h1 1 (by omega)
   .exact h1 2 (by omega)
   .exact h1 3 (by omega)
   .exact h1 4 (by omega)
 obtain⟨i,hi,rfl⟩:=mem_iff_getElem.1 hp;unfold dc at hl;rw[filter_eq_nil_iff]at hl;have:=hl i (by simpa using hi);simp only[Bool.not_eq_true,Bool.not_eq_false',decide_eq_true_eq]at this;have e:owA f i=f.ow[i]:=bX hi;rw[e]at this;exact GB h2 25 h0 _ this
end
theorem q9{α:Type}{x:α}{l:List α}(h:x∈l):∃R,l.Perm (x::R):=by
 obtain⟨a,b,rfl⟩:=append_of_mem h;exact⟨a++b,perm_middle⟩
theorem xC{α:Type}{x y:α}{l:List α}(hx:x∈l)(hy:y∈l)(aH:y≠x):∃R,l.Perm (x::y::R):=by
 obtain⟨R,hR⟩:=q9 hx;rcases mem_cons.1 (hR.subset hy) with e|EJ
 .exact absurd e aH
 .obtain⟨R2,ZQ⟩:=q9 EJ;exact⟨R2,hR.trans (ZQ.cons x)⟩
theorem At{f:CF}{k:Nat}(hs:xg f=some k):∃q p R,f.ow.Perm (q::p::R)/\q.r=p.l/\p.r≠p.l/\(∀i,i<5->f.cl.getD i 0≠p.l)/\(∀x∈R,x.r≠p.l)/\(kk f k).ow.Perm (⟨4,q.l,p.r⟩::R)/\(kk f k).cl=f.cl/\(kk f k).ap=f.ap:=by
 obtain⟨hk,hp⟩:k<f.ow.length/\EQ f (f.ow.getD k ay)=true:=by
  unfold xg at hs;obtain⟨h1,h2,-⟩:=findIdx?_eq_some_iff_getElem.1 hs;exact⟨h1,by rw[bX h1];exact h2⟩
 obtain⟨p,th⟩:∃p,p=f.ow.getD k ay:=⟨_,rfl⟩;rw[<-th]at hp;obtain⟨Cr,aH,hc⟩:=JH hp;have my:=cU hk;rw[<-th]at my;have vO:(iQ f.ow k).countP (λq=>decide (q.r=p.l))=1:=by
  have:=my.countP_eq (λq=>decide (q.r=p.l));unfold Ce at hc;rw[hc,countP_cons,decide_eq_false aH]at this;simpa using this.symm
 obtain⟨q,R,hqR,hq,hR⟩:=yV vO;have hq:q.r=p.l:=by simpa using hq
 have hR:∀x∈R,x.r≠p.l:=λx hx=>by simpa using hR x hx
 refine⟨q,p,R,(my.trans (hqR.cons p)).trans (List.Perm.swap _ _ _),hq,aH,λi hi e=>?_,hR,?_,rfl,rfl⟩
 .unfold SO at Cr;have:i=0\/i=1\/i=2\/i=3\/i=4:=by omega
  rcases this with rfl|rfl|rfl|rfl|rfl <;> simp_all
 .show(iQ (f.ow.map (Go.Proofs.YtciihepbeacppaaGreat.fo1 (f.ow.getD k ay).l (f.ow.getD k ay).r)) k).Perm _;rw[JQ,<-th];have h3:=hqR.map (Go.Proofs.YtciihepbeacppaaGreat.fo1 p.l p.r);rw[map_cons]at h3;have e1:Go.Proofs.YtciihepbeacppaaGreat.fo1 p.l p.r q=⟨4,q.l,p.r⟩:=by unfold Go.Proofs.YtciihepbeacppaaGreat.fo1;rw[if_pos hq]
  have e2:R.map (Go.Proofs.YtciihepbeacppaaGreat.fo1 p.l p.r)=R:=by
   conv=>rhs;rw[<-map_id R]
   apply map_congr_left;intro x hx;unfold Go.Proofs.YtciihepbeacppaaGreat.fo1;rw[if_neg (hR x hx)];rfl
  rw[e1,e2]at h3;exact h3
theorem Ip:∀(n:Nat) (f:CF),f.ow.length<=n->xg (eE n f)=none
 |0,f,h=>by
  have:f.ow=[]:=length_eq_zero_iff.1 (by omega);unfold eE xg;rw[this];rfl
 |n+1,f,h=>by
  unfold eE;split
  .assumption
  .rename_i k hk;obtain⟨q,p,R,h1,-,-,-,-,h2,-⟩:=At hk;have l1:=h1.length_eq;have l2:=h2.length_eq;simp only[length_cons]at l1 l2;exact Ip n _ (by omega)
section
variable {r:Nat->Nat} {w:Nat} {F V:CF} {val:Nat->Nat} {X:List Pr}
theorem cX.foV1{k:Nat}(hs:xg V=some k)(h:cX r w F val X V):cX r w F val X (kk V k):=by
 obtain⟨q,p,R,h1,h2,-,-,-,h3,h4,h5⟩:=At hs;have it:∀c,c∈bL (kk V k)->c∈bL V:=λc hc=>by
  rcases tt hc with⟨i,hi,rfl⟩|⟨x,hx,e⟩
  .rw[h4];exact qa hi
  .rcases mem_cons.1 (h3.subset hx) with rfl|hx
   .rcases e with rfl|rfl
    .exact(dd (h1.symm.subset (show q∈q::p::R by simp))).1
    .exact(dd (h1.symm.subset (show p∈q::p::R by simp))).2
   .have:=dd (h1.symm.subset (show x∈q::p::R by simp[hx]));rcases e with rfl|rfl
    .exact this.1
    .exact this.2
 obtain⟨cs,s1,s2⟩:=h.sp;refine⟨λi hi=>by rw[h4];exact h.cl i hi,λx hx l1 l2=>h.ap x (by rw[h5]at hx;exact hx) (it _ l1) (it _ l2),⟨cs,s1,cN h3.symm ?_⟩,h.nm⟩;obtain⟨u,c1,a1,a2,-,v,c2,b1,b2,-,b4⟩:=cN h1 s2;rw[h2]at a2;exact⟨u++v,c2,a1.trans (by rw[append_assoc];exact b1.append_left u),Ag a2 b2,λh=>absurd rfl h,b4⟩
theorem cX.foV:∀(n:Nat) {V:CF},cX r w F val X V->cX r w F val X (eE n V)
 |0,_,h=>h
 |n+1,V,h=>by
  unfold eE;split
  .exact h
  .rename_i k hk;exact cX.foV n (h.foV1 hk)
theorem Hu:∀{c:List Pr} {a e:Nat} {p:Pr},(∀z∈c,z.l=p.l->z=p)->lY c a e->p∈c->a≠p.l->∃x q y,c=x++q::p::y/\q.r=p.l/\lY (x++⟨4,q.l,p.r⟩::y) a e
 |[],_,_,_,_,h,_,_=>h.elim
 |[z],a,e,p,_,h,hp,aH=>by rw[mem_singleton.1 hp]at aH;exact absurd h.1.symm aH
 |z::z'::t,a,e,p,hu,h,hp,aH=>by
  obtain⟨rfl,h'⟩:=h;have hz':z'.l=z.r:=by cases t with|nil=>exact h'.1|cons y t=>exact h'.1
  by_cases e2:z'=p
  .subst e2;refine⟨[],z,t,rfl,hz'.symm,?_⟩;show lY (⟨4,z.l,z'.r⟩::t) z.l e;cases t with
   |nil=>exact⟨rfl,h'.2⟩
   |cons y t=>exact⟨rfl,h'.2⟩
  .have hzr:z.r≠p.l:=λe3=>e2 (hu z' (by simp) (by rw[hz',e3]));rcases mem_cons.1 hp with h5|h5
   .rw[h5]at aH;exact absurd rfl aH
   .obtain⟨x,q,y,k1,k2,k3⟩:=Hu (λy hy=>hu y (mem_cons_of_mem _ hy)) h' h5 hzr;refine⟨z::x,q,y,by rw[k1];rfl,k2,?_⟩;show lY (z::(x++⟨4,q.l,p.r⟩::y)) z.l e;exact vx k3
theorem To{l cs:List Pr}{p:Pr}(hu:∀z∈cs,z.l=p.l->z=p)(hp:p∈cs)(hl:∀P∈l,val P.l≠p.l)(hpp:p.r≠p.l)(h:mr val l cs):∃q∈cs,q.r=p.l/\∀R,cs.Perm (q::p::R)->mr val l (⟨4,q.l,p.r⟩::R):=by
 induction l generalizing cs with
 |nil =>
  have h:cs=[]:=h;rw[h]at hp;simp at hp
 |cons P l ih =>
  obtain⟨c,cs1,h1,h2,h3,h4⟩:=h;rcases mem_append.1 (h1.subset hp) with hc|hc
  .obtain⟨x,q,y,k1,k2,k3⟩:=Hu (λz hz=>hu z (h1.symm.subset (mem_append_left _ hz))) h2 hc (hl P (by simp));refine⟨q,h1.symm.subset (mem_append_left _ (by rw[k1];simp)),k2,λR hR=>?_⟩;refine⟨x++⟨4,q.l,p.r⟩::y,cs1,?_,k3,λhk=>?_,h4⟩
   .have e1:(q::p::R).Perm (q::p::(x++y++cs1)):=by
     refine hR.symm.trans (h1.trans ?_);rw[k1,append_assoc,append_assoc];show(x++(q::p::(y++cs1))).Perm _;exact perm_middle.trans ((perm_middle.cons q))
    have e2:R.Perm (x++y++cs1):=e1.cons_inv.cons_inv;refine(e2.cons _).trans ?_;rw[append_assoc,append_assoc];exact perm_middle.symm
   .obtain⟨z,hz,-⟩:=h3 hk;rw[k1]at hz;have:=congrArg List.length hz;simp at this;omega
  .obtain⟨q,hq,k2,k3⟩:=ih (λz hz=>hu z (h1.symm.subset (mem_append_right _ hz))) hc (λP' hP'=>hl P' (by simp[hP'])) h4;refine⟨q,h1.symm.subset (mem_append_right _ hq),k2,λR hR=>?_⟩;have hqp:q≠p:=λe=>hpp (by rw[<-e];rw[e]at k2;rw[e];exact k2);obtain⟨R1,sZ⟩:=xC hq hc (λe=>hqp e.symm);refine⟨c,⟨4,q.l,p.r⟩::R1,?_,h2,h3,k3 R1 sZ⟩;have e1:(q::p::R).Perm (q::p::(c++R1)):=by
    refine hR.symm.trans (h1.trans ((sZ.append_left c).trans ?_));exact perm_middle.trans (perm_middle.cons q)
   exact(e1.cons_inv.cons_inv.cons _).trans perm_middle.symm
theorem VT(hV:lO V.ow)(hH:Sk V)(hs:xg V=none)(h:cX r w F val X V){m:Nat}(hr:∀i,i<5->r i<5)(hn:∀i,i<5->F.cl.getD i 0≠m)(h1:F.ow.countP (λq=>decide (q.r=m))=1):∀P∈V.ow,val P.l≠m:=by
 intro P hP e;have Ck:∀i,i<5->V.cl.getD i 0≠P.l:=λi hi e2=>hn (r i) (hr i hi) (by rw[<-h.cl i hi,e2,e]);obtain⟨Q,hQ,q1,q2⟩:∃Q∈V.ow,Q.l≠P.l/\Q.r=P.l:=by
  apply Classical.byContradiction;intro hc;exact hH (λc=>c≠P.l) Ck (λQ hQ hl uq=>hc ⟨Q,hQ,hl,uq⟩) P hP rfl
 obtain⟨Q2,hQ2,q3,q4⟩:∃Q2∈V.ow,Q2≠Q/\Q2.r=P.l:=by
  by_cases e2:P.r=P.l
  .exact⟨P,hP,λe3=>q1 (by rw[e3]),e2⟩
  .have v7:EQ V P=false:=by
    unfold xg at hs;rw[findIdx?_eq_none_iff]at hs;simpa using hs P hP
   have Cr:SO V P.l=false:=by
    unfold SO;rw[decide_eq_false (Ck 0 (by omega)),decide_eq_false (Ck 1 (by omega)),decide_eq_false (Ck 2 (by omega)),decide_eq_false (Ck 3 (by omega)),decide_eq_false (Ck 4 (by omega))];rfl
   have hen:Ce V.ow P.l≠1:=by
    intro e3;unfold EQ at v7;rw[Cr,decide_eq_false e2,decide_eq_true e3]at v7;simp at v7
   apply Classical.byContradiction;intro hc;apply hen;unfold Ce;obtain⟨R0,hp⟩:=q9 hQ;rw[hp.countP_eq,countP_cons,decide_eq_true q2];have:R0.countP (λp=>decide (p.r=P.l))=0:=by
    rw[countP_eq_zero];intro x hx;simp only[decide_eq_true_eq];intro pU;refine hc ⟨x,hp.symm.subset (mem_cons_of_mem _ hx),λe3=>?_,pU⟩;have dF:(Q::R0).Nodup:=by
     have:((Q::R0).map (·.l)).Nodup:=uE hV hp;exact List.Pairwise.of_map (·.l) (λa b se e=>se (by rw[e])) this
    rw[e3]at hx;exact(nodup_cons.1 dF).1 hx
   rw[this];rfl
 obtain⟨R,hR⟩:=xC hQ hQ2 q3;obtain⟨cs,s1,s2⟩:=h.sp;obtain⟨u,c1,a1,a2,-,v,c2,b1,b2,-,-⟩:=cN hR s2;obtain⟨x,tx,ex,hx⟩:=Ai a2;obtain⟨y,ty,ey,hy⟩:=Ai b2;rw[s1.countP_eq,countP_append,a1.countP_eq,countP_append,b1.countP_eq,countP_append,ex,ey,countP_append,countP_append,countP_singleton,countP_singleton,hx,hy,q2,q4,e]at h1;simp at h1;omega
theorem cX.foF1(hr:∀i,i<5->r i<5)(hw:w<4)(hF:aj F)(hV:lO V.ow)(hH:Sk V)(hs:xg V=none){k:Nat}(hk:xg F=some k)(h:cX r w F val X V):cX r w (kk F k) val X V:=by
 obtain⟨q,p,R,h1,h2,h3,h4,h5,h6,h7,h8⟩:=At hk;have ak7:F.ow.countP (λx=>decide (x.r=p.l))=1:=by
  rw[h1.countP_eq,countP_cons,countP_cons,decide_eq_true h2,decide_eq_false h3];have:R.countP (λx=>decide (x.r=p.l))=0:=by
   rw[countP_eq_zero];intro x hx;simpa using h5 x hx
  rw[this];rfl
 have Dn:=VT hV hH hs h hr h4 ak7;obtain⟨cs,s1,s2⟩:=h.sp;have AE:∀z∈F.ow,z.l=p.l->z=p:=λz hz e=>aaS hF.lf hz (h1.symm.subset (by simp)) e;have hpX:p ∉ X:=λhx=>h4 (1+w) (by omega) (h.nm p hx).1.symm;have hqX:q ∉ X:=λhx=>h4 0 (by omega) (by rw[<-(h.nm q hx).2,h2]);have hpc:p∈cs:=by
  rcases mem_append.1 (s1.subset (h1.symm.subset (show p∈q::p::R by simp))) with hx|hx
  .exact absurd hx hpX
  .exact hx
 obtain⟨q',hq',k2,k3⟩:=To (λz hz=>AE z (s1.symm.subset (mem_append_right _ hz))) hpc Dn h3 s2;have hqq:q'=q:=by
  rcases mem_cons.1 (h1.subset (s1.symm.subset (mem_append_right _ hq'))) with e|hx
  .exact e
  .rcases mem_cons.1 hx with e|hx
   .rw[e]at k2;exact absurd k2 h3
   .exact absurd k2 (h5 q' hx)
 subst hqq;have hqp:q'≠p:=λe=>h3 (by rw[e]at k2;exact k2);obtain⟨R1,sZ⟩:=xC hq' hpc (λe=>hqp e.symm);have hRX:R.Perm (X++R1):=by
  have e1:(q'::p::R).Perm (q'::p::(X++R1)):=by
   refine h1.symm.trans (s1.trans ((sZ.append_left X).trans ?_));exact perm_middle.trans (perm_middle.cons q')
  exact e1.cons_inv.cons_inv
 have Dv:=k3 R1 sZ;have iF:(kk F k).ow.Perm (X++(⟨4,q'.l,p.r⟩::R1)):=h6.trans ((hRX.cons _).trans perm_middle.symm);have qK:∀c,c∈bL V->val c≠p.l:=λc hc=>by
  rcases tt hc with⟨i,hi,rfl⟩|⟨P,hP,e⟩
  .rw[h.cl i hi];exact h4 _ (hr i hi)
  .rcases e with rfl|rfl
   .exact Dn P hP
   .intro e2;obtain⟨-,x,hx,ex⟩:=vi hP Dv;rw[e2]at ex;rcases mem_cons.1 hx with rfl|hx
    .exact h3 ex
    .exact h5 x (hRX.symm.subset (mem_append_right _ hx)) ex
 refine⟨λi hi=>by rw[h7];exact h.cl i hi,λx hx l1 l2=>?_,⟨_,iF,Dv⟩,λx hx=>by rw[h7];exact h.nm x hx⟩;have hd:=h.ap x hx l1 l2;have n1:=qK _ l1;have n2:=qK _ l2;have qM:∀c,c≠p.l->(∃y∈F.ow,y.l=c)->∃y∈(kk F k).ow,y.l=c:=λc hc=>by
  rintro⟨y,hy,rfl⟩;rcases mem_cons.1 (h1.subset hy) with rfl|hy
  .exact⟨_,h6.symm.subset (mem_cons_self),rfl⟩
  .rcases mem_cons.1 hy with rfl|hy
   .exact absurd rfl hc
   .exact⟨y,h6.symm.subset (mem_cons_of_mem _ hy),rfl⟩
 rw[bZ]at hd ⊢;refine⟨hd.1,?_⟩;rcases hd.2 with h9|h9
 .left;rw[h8];exact h9
 .right;rw[fQ]at h9 ⊢;rw[h7];rcases h9 with⟨a,b|b⟩|⟨a,b⟩
  .exact zq0 ⟨qM _ n1 a,zq0 (qM _ n2 b)⟩
  .exact zq0 ⟨qM _ n1 a,zq1 b⟩
  .exact zq1 ⟨qM _ n2 a,b⟩
theorem cX.foF'(hr:∀i,i<5->r i<5)(hw:w<4)(hV:lO V.ow)(hH:Sk V)(hs:xg V=none):∀(n:Nat) {F:CF},aj F->cX r w F val X V->cX r w (eE n F) val X V
 |0,_,_,h=>h
 |n+1,F,hF,h=>by
  have bm:=dp (n+1) hF;unfold eE at bm ⊢;split
  .exact h
  .rename_i k hk;have h1:=h.foF1 hr hw hF hV hH hs hk;have gf:aj (kk F k):=by
    have:=(dp 1 hF).1;unfold eE at this;rw[hk]at this;exact this
   exact cX.foF' hr hw hV hH hs n gf h1
theorem cX.fold(hr:∀i,i<5->r i<5)(hw:w<4)(hF:aj F)(hV:aj V)(hH:Sk V)(h:cX r w F val X V):cX r w (As F) val X (As V) :=
 cX.foF' hr hw (dp _ hV).1.lf ((Dm _ hV).2 hH) (Ip _ V (zq4 _)) _ hF (h.foV V.ow.length)
end
structure fH(f:CF):Prop where
 ap:∀p∈f.ap,p.l≠p.r
 ow:∀p∈f.ow,p.l≠f.cl.getD 0 0
section
variable {f g:CF}
theorem fH.td(hk:aj f)(h:fH f):fH (aQ f):=by
 have fj:=hk.fg;have it:=lG fj.ow fj.cl fj.lf;have inj:∀{a b},a∈bL (cJ f)->b∈bL (cJ f)->a≠b->(df (cJ f)).idxOf a≠(df (cJ f)).idxOf b:=λha hb aH e=>aH (AT (it _ ha) (it _ hb) e);have h0:(aQ f).cl.getD 0 0=(df (cJ f)).idxOf (f.cl.getD 0 0):=lg (cJ f) (λc=>(df (cJ f)).idxOf c) (i:=0) (by omega);have EB:f.cl.getD 0 0∈bL (cJ f):=mem_append_left _ (gG (f:=cJ f) (i:=0) (by omega));refine⟨λp hp=>?_,λp hp=>?_⟩
 .obtain⟨q,hq,rfl⟩:=mem_map.1 (dG.1 (show p∈mm ((wU (cJ f)).ap.map jd) from hp));obtain⟨x,hx,rfl⟩:=mem_map.1 (show q∈(cJ f).ap.map (jk (df (cJ f))) from hq);obtain⟨g1,g2⟩:=iz hx;have aH:=inj g1 g2 (h.ap x (mem_filter.1 hx).1);unfold jd;split
  .exact aH.symm
  .exact aH
 .rw[h0];obtain⟨x,hx,rfl⟩:=mem_map.1 (show p∈f.ow.map (jk (df (cJ f))) from dG.1 (show p∈mm (wU (cJ f)).ow from hp));exact inj (mem_append_right _ (mem_flatMap.2 ⟨x,hx,by simp⟩)) EB (h.ow x hx)
theorem fH.fo1{k:Nat}(h:fH f):fH (kk f k):=by
 refine⟨h.ap,λp hp=>?_⟩;have Mt:=nM (show p∈iQ (f.ow.map (Go.Proofs.YtciihepbeacppaaGreat.fo1 (f.ow.getD k ay).l (f.ow.getD k ay).r)) k from hp);obtain⟨q,hq,rfl⟩:=mem_map.1 Mt;unfold Go.Proofs.YtciihepbeacppaaGreat.fo1;split
 .exact h.ow q hq
 .exact h.ow q hq
theorem fH.fold:∀(n:Nat) {f:CF},fH f->fH (eE n f)
 |0,_,h=>h
 |n+1,f,h=>by
  unfold eE;split
  .exact h
  .exact fH.fold n h.fo1
theorem fH.setC(h5:f.cl.length=5){v c:Nat}(hv:v<4)(h:fH f):fH (Go.Proofs.YtciihepbeacppaaGreat.setC f (1+v) c):=by
 refine⟨h.ap,λp hp=>?_⟩;rw[wZ h5 (by omega),if_neg (by omega)];exact h.ow p hp
theorem fH.setO{i:Nat}{q:Pr}(hi:i<f.ow.length)(hq:q.l=(f.ow.getD i ay).l)(h:fH f):fH (Go.Proofs.YtciihepbeacppaaGreat.setO f i q):=by
 refine⟨h.ap,λp hp=>?_⟩;rcases mem_or_eq_of_mem_set (show p∈f.ow.set i q from hp) with hp|rfl
 .exact h.ow p hp
 .rw[hq];exact h.ow _ (aY hi)
theorem fH.fi{c:Nat}(h:fH f)(hg:g∈(gU f c).1):fH g:=by
 unfold gU at hg;split at hg
 .simp at hg
 .rename_i i hb;obtain⟨hi,hl⟩:=pJ hb;have h1:fH (gp f i):=h.setO hi rfl;unfold Oj at hg;split at hg
  .simp only[mem_singleton]at hg;rw[hg];exact h
  .split at hg
   .simp only[mem_singleton]at hg;rw[hg];exact h1
   .simp only[mem_cons,not_mem_nil,or_false]at hg;rcases hg with rfl|rfl
    .exact h1
    .have h2:fH (Go.Proofs.YtciihepbeacppaaGreat.setO f i ⟨3,c,aw f⟩):=h.setO hi hl.symm;refine⟨h2.ap,λp hp=>?_⟩;rcases mem_append.1 (show p∈f.ow.set i ⟨3,c,aw f⟩++[⟨4,aw f,(owA f i).r⟩] from hp) with hp|hp
     .exact h2.ow p hp
     .rw[mem_singleton.1 hp];have:=wE f (i:=0) (by omega);show aw f≠f.cl.getD 0 0;omega
theorem fH.par(h:fH f){a b:Nat}(aH:a≠b):fH (cf f a b):=by
 refine⟨λp hp=>?_,h.ow⟩;rcases mem_append.1 (show p∈f.ap++[⟨2,a,b⟩] from hp) with hp|hp
 .exact h.ap p hp
 .rw[mem_singleton.1 hp];exact aH
theorem fH.pars:∀(l:List Pr) {h:CF} {c:Nat},fH h->(∀p∈l,c≠p.l)->fH (l.foldl (λh p=>cf h c p.l) h)
 |[],_,_,h,_=>h
 |p::r,h,c,hn,hl=>by
  rw[foldl_cons];exact fH.pars r (hn.par (hl p (by simp))) (λq hq=>hl q (by simp[hq]))
theorem fH.fr{v j:Nat}(hk:aj g)(h:fH g)(h1:cD g.ow (g.cl.getD (1+v) 0)=some j):fH (l8 g v):=by
 obtain⟨hj,hl⟩:=pJ h1;have Cs:=(cU hj).map (·.l);have dF:((g.ow.getD j ay::iQ g.ow j).map (λx:Pr=>x.l)).Nodup:=((cU hj).map (λx:Pr=>x.l)).nodup_iff.1 hk.lf;rw[map_cons,nodup_cons]at dF;have ht:fH (gY g j):=⟨h.ap,λp hp=>h.ow p (nM hp)⟩;unfold l8;simp only;rw[pI h1];refine fH.pars _ (ht.par ?_) (λp hp e=>dF.1 ?_)
 .rw[<-hl];exact h.ow _ (aY hj)
 .rw[hl,e];exact mem_map_of_mem (f:=λx:Pr=>x.l) hp
theorem fH.cr(h5:f.cl.length=5){v:Nat}(hv:v<4)(h:fH f):fH (Et f v):=by
 have h1:fH (md f ⟨3,aw f,f.cl.getD 0 0⟩):=by
  refine⟨h.ap,λp hp=>?_⟩;rcases mem_append.1 (show p∈f.ow++[⟨3,aw f,f.cl.getD 0 0⟩] from hp) with hp|hp
  .exact h.ow p hp
  .rw[mem_singleton.1 hp];have:=wE f (i:=0) (by omega);show aw f≠f.cl.getD 0 0;omega
 exact fH.setC (f:=md f ⟨3,aw f,f.cl.getD 0 0⟩) h5 hv h1
theorem fH.jo(h5:f.cl.length=5){a b:Nat}(h:fH f)(hd:aV f a b=false):fH (mL f a b):=by
 by_cases se:a=b
 .have e:∀c,cM a b c=c:=λc=>by
   unfold cM;split
   .rename_i e;rw[e,se]
   .rfl
  refine⟨λp hp=>?_,λp hp=>?_⟩
  .obtain⟨q,hq,rfl⟩:=mem_map.1 (show p∈f.ap.map (mj a b) from hp);show cM a b q.l≠cM a b q.r;rw[e,e];exact h.ap q hq
  .obtain⟨q,hq,rfl⟩:=mem_map.1 (show p∈f.ow.map (mj a b) from hp);rw[gL h5 (by omega)];show cM a b q.l≠_;rw[e,e];exact h.ow q hq
 .unfold aV at hd;rw[if_neg se,Bool.or_eq_false_iff,any_eq_false]at hd;obtain⟨d1,d2⟩:=hd;unfold mG at d2;rw[Bool.or_eq_false_iff]at d2;refine⟨λp hp=>?_,λp hp=>?_⟩
  .obtain⟨q,hq,rfl⟩:=mem_map.1 (show p∈f.ap.map (mj a b) from hp);show cM a b q.l≠cM a b q.r;have aH:=h.ap q hq;have hx:=d1 q hq;intro e;apply hx;unfold cM at e;by_cases e1:q.l=b
   .rw[if_pos e1]at e;by_cases e2:q.r=b
    .exact absurd (e1.trans e2.symm) aH
    .rw[if_neg e2]at e;simp[e1,e.symm]
   .rw[if_neg e1]at e;by_cases e2:q.r=b
    .rw[if_pos e2]at e;simp[e2,e]
    .rw[if_neg e2]at e;exact absurd e aH
  .obtain⟨q,hq,rfl⟩:=mem_map.1 (show p∈f.ow.map (mj a b) from hp);rw[gL h5 (by omega)];show cM a b q.l≠cM a b (f.cl.getD 0 0);have aH:=h.ow q hq;have nV:∀{c},q.l=c->(cD f.ow c).isSome=true:=λe=>qx.2 ⟨q,hq,e⟩;intro e;unfold cM at e;by_cases e1:q.l=b
   .rw[if_pos e1]at e;by_cases e2:f.cl.getD 0 0=b
    .exact aH (e1.trans e2.symm)
    .rw[if_neg e2]at e;have:=d2.2;rw[nV e1,<-e]at this;simp at this
   .rw[if_neg e1]at e;by_cases e2:f.cl.getD 0 0=b
    .rw[if_pos e2]at e;have:=d2.1;rw[nV e,e2]at this;simp at this
    .rw[if_neg e2]at e;exact aH e
end
def Kd(f:CF):Prop:=∀p∈f.ow,p.k=3\/p.k=4
theorem jF{F F':CF}(h1:∀p∈F.ap,p∈F'.ap)(h2:F'.cl.getD 0 0=F.cl.getD 0 0)(h3:∀p∈F.ow,∃p'∈F'.ow,p'.l=p.l){a b:Nat}(h:aV F a b=true):aV F' a b=true:=by
 have qM:∀c,(∃p∈F.ow,p.l=c)->∃p∈F'.ow,p.l=c:=λc=>by
  rintro⟨p,hp,rfl⟩;exact h3 p hp
 rw[bZ]at h ⊢;refine⟨h.1,?_⟩;rcases h.2 with⟨p,hp,h9⟩|h9
 .exact zq0 ⟨p,h1 p hp,h9⟩
 .right;rw[fQ]at h9 ⊢;rw[h2];rcases h9 with⟨a,b|b⟩|⟨a,b⟩
  .exact zq0 ⟨qM _ a,zq0 (qM _ b)⟩
  .exact zq0 ⟨qM _ a,zq1 b⟩
  .exact zq1 ⟨qM _ a,b⟩
section
variable {r:Nat->Nat} {w:Nat} {F V:CF} {val:Nat->Nat} {X cs cs' t:List Pr}
theorem Ht(hF:lO F.ow){x:Pr}(hx:x∈F.ow):∃i,cD F.ow x.l=some i/\i<F.ow.length/\F.ow.getD i ay=x:=by
 obtain⟨i,h1,h2⟩:=pL hF hx;exact⟨i,h1,(eT h1).1,h2⟩
theorem TX(hF:aj F)(kF:Kd F){x:Pr}{e:Nat}(hp:F.ow.Perm (X++(x::t++cs)))(hc:lY (x::t) x.l e){F':CF}(lj:F'∈(gU F x.l).1):
  ∃u t',F'.ow.Perm (X++(⟨3,x.l,u⟩::(t'++cs)))/\((t'=[]/\u=e)\/lY t' u e)/\(∀a b,aV F a b=true->aV F' a b=true)/\F'.cl=F.cl/\F'.ap=F.ap/\(x.k=3->t=[]->t'=[]):=by
 have hx:x∈F.ow:=hp.symm.subset (by simp);obtain⟨i,hi,um,hix⟩:=Ht hF.lf hx;have my:=cU um;rw[hix]at my;have rI:(iQ F.ow i).Perm (X++(t++cs)):=by
  have:(x::iQ F.ow i).Perm (x::(X++(t++cs))):=my.symm.trans (hp.trans (perm_middle (l₁:=X) (a:=x) (l₂:=t++cs)));exact this.cons_inv
 have K1:∀y:Pr,(y::iQ F.ow i).Perm (X++(y::(t++cs))):=λy=>(rI.cons y).trans perm_middle.symm;have pS:(t=[]/\x.r=e)\/lY t x.r e:=by
  cases t with
  |nil=>exact zq0 ⟨rfl,hc.2⟩
  |cons d t=>exact zq1 hc.2
 unfold gU at lj;rw[hi]at lj;simp only at lj;unfold Oj at lj;have hox:owA F i=x:=hix;rw[hox]at lj;by_cases h3:x.k=3
 .rw[if_pos h3]at lj;rw[mem_singleton.1 lj];refine⟨x.r,t,?_,pS,λ_ _ h=>h,rfl,rfl,λ_ h=>h⟩;have:(⟨3,x.l,x.r⟩:Pr)=x:=by rw[<-h3]
  rw[this];simpa using hp
 .rw[if_neg h3]at lj;have agu:∃u t',(gp F i).ow.Perm (X++(⟨3,x.l,u⟩::(t'++cs)))/\((t'=[]/\u=e)\/lY t' u e)/\(∀a b,aV F a b=true->aV (gp F i) a b=true)/\(gp F i).cl=F.cl/\(gp F i).ap=F.ap/\(x.k=3->t=[]->t'=[]):=by
   have hs:(gp F i).ow.Perm (⟨3,x.l,x.r⟩::iQ F.ow i):=by
    show(F.ow.set i ⟨3,(owA F i).l,(owA F i).r⟩).Perm _;rw[hox];exact iW um _
   refine⟨x.r,t,hs.trans (K1 _),pS,λa b=>jF (F:=F) (F':=gp F i) (λp hp=>hp) rfl (λp hp=>?_),rfl,rfl,λh=>absurd h h3⟩;rcases mem_cons.1 (my.subset hp) with rfl|hp
   .exact⟨_,hs.symm.subset mem_cons_self,rfl⟩
   .exact⟨p,hs.symm.subset (mem_cons_of_mem _ hp),rfl⟩
  by_cases Cg:24<=aw F
  .rw[if_pos Cg]at lj;rw[mem_singleton.1 lj];exact agu
  .rw[if_neg Cg]at lj;rcases mem_cons.1 lj with rfl|lj
   .exact agu
   .rw[mem_singleton.1 lj];have hs:(oQ F x.l i).ow.Perm (⟨3,x.l,aw F⟩::(⟨4,aw F,x.r⟩::iQ F.ow i)):=by
     show(F.ow.set i (⟨3,x.l,aw F⟩:Pr)++[(⟨4,aw F,(owA F i).r⟩:Pr)]).Perm _;rw[hox];exact((perm_append_comm (l₂:=[(⟨4,aw F,x.r⟩:Pr)])).trans ((iW um (⟨3,x.l,aw F⟩:Pr)).cons _)).trans (List.Perm.swap _ _ _)
    refine⟨aw F,(⟨4,aw F,x.r⟩:Pr)::t,?_,zq1 ?_,λa b=>jF (F:=F) (F':=oQ F x.l i) (λp hp=>hp) rfl (λp hp=>?_),rfl,rfl,λh=>absurd h h3⟩
    .refine hs.trans ?_;have h9:=(K1 ⟨4,aw F,x.r⟩).cons (⟨3,x.l,aw F⟩:Pr);exact h9.trans perm_middle.symm
    .rcases pS with⟨rfl,rfl⟩|pS
     .exact⟨rfl,rfl⟩
     .exact vx (x:=⟨4,aw F,x.r⟩) pS
    .rcases mem_cons.1 (my.subset hp) with rfl|hp
     .exact⟨_,hs.symm.subset mem_cons_self,rfl⟩
     .exact⟨p,hs.symm.subset (mem_cons_of_mem _ (mem_cons_of_mem _ hp)),rfl⟩
structure Sl(r:Nat->Nat)(w:Nat)(F:CF)(val:Nat->Nat)(X:List Pr)(V:CF)(c u:Nat)(cr Vr:List Pr):Prop where
 em:cX r w F val X V
 vo:V.ow.Perm (⟨3,c,u⟩::Vr)
 fo:F.ow.Perm (X++(⟨3,val c,val u⟩::cr))
 sp:mr val Vr cr
theorem cX.opn(hF:aj F)(kF:Kd F)(hV:aj V)(kV:Kd V)(hL:Hd V)(h:cX r w F val X V){c i:Nat}(hb:cD V.ow c=some i)(dX:(gU V c).2=false):
  (∃x∈F.ow,x.l=val c)/\∀F'∈(gU F (val c)).1,∃V'∈(gU V c).1,∃val' u cr Vr,Sl r w F' val' X V' c u cr Vr/\val' c=val c/\F'.cl=F.cl/\V'.cl=V.cl:=by
 obtain⟨hi,hl⟩:=eT hb;obtain⟨P,hP⟩:∃P,P=V.ow.getD i ay:=⟨_,rfl⟩;rw[<-hP]at hl;have FF:P∈V.ow:=by rw[hP];exact aY hi
 obtain⟨cs,s1,s2⟩:=h.sp;have s3:=Ka hi s2;rw[<-hP]at s3;obtain⟨q,cs',a1,a2,a3,a4⟩:=s3;obtain⟨x,t,rfl,hx⟩:=lZ a2;rw[hl]at hx a2;have hp:F.ow.Perm (X++(x::t++cs')):=s1.trans (a1.append_left X);have hxm:x∈F.ow:=hp.symm.subset (by simp);refine⟨⟨x,hxm,hx⟩,λF' lj=>?_⟩;rw[<-hx]at lj a2;obtain⟨u,t',b1,b2,b3,b4,b5,b6⟩:=TX hF kF hp a2 lj;rw[hx]at b1;have hvp:V.ow.Perm (P::iQ V.ow i):=by rw[hP];exact cU hi
 unfold gU at dX ⊢;rw[hb]at dX ⊢;simp only at dX ⊢;unfold Oj at dX ⊢;have hoP:owA V i=P:=hP.symm;rw[hoP]at dX ⊢;by_cases h3:P.k=3
 .rw[if_pos h3];obtain⟨y,hy,hyk⟩:=a3 (by omega);injection hy with US EJ;have hxk:x.k=3:=by rw[US];rcases kF y (by rw[<-US];exact hxm) with h|h;exact h;exact absurd h hyk
  have ht':=b6 hxk EJ;subst ht';have hu:u=val P.r:=by
   rcases b2 with⟨-,h⟩|h
   .exact h
   .exact h.elim
  have KE:(⟨3,c,P.r⟩:Pr)=P:=by rw[<-h3,<-hl]
  rw[nil_append,hu]at b1;have PI:mr val V.ow (⟨3,val c,val P.r⟩::cs'):=cN hvp.symm ⟨[⟨3,val c,val P.r⟩],cs',List.Perm.refl _,⟨by show val c=val P.l;rw[hl],rfl⟩,λ_=>⟨_,rfl,by show(3:Nat)≠4;decide⟩,a4⟩;refine⟨V,by simp,val,P.r,cs',iQ V.ow i,⟨⟨λj hj=>by rw[b4];exact h.cl j hj,λp hp l1 l2=>b3 _ _ (h.ap p hp l1 l2),⟨_,b1,PI⟩,λz hz=>by rw[b4];exact h.nm z hz⟩,by rw[KE];exact hvp,b1,a4⟩,rfl,b4,rfl⟩
 .rw[if_neg h3]at dX ⊢;have OT:P.k=4:=by rcases kV P FF with h|h;exact absurd h h3;exact h
  by_cases Cg:24<=aw V
  .rw[if_pos Cg]at dX;cases dX
  .rw[if_neg Cg];rcases b2 with⟨ht',hu⟩|b2
   .
    subst ht';have hs:(gp V i).ow.Perm (⟨3,c,P.r⟩::iQ V.ow i):=by
     show(V.ow.set i ⟨3,(owA V i).l,(owA V i).r⟩).Perm _;rw[hoP,hl];exact iW hi _
    rw[nil_append,hu]at b1;have PI:mr val (gp V i).ow (⟨3,val c,val P.r⟩::cs'):=cN hs.symm ⟨[⟨3,val c,val P.r⟩],cs',List.Perm.refl _,⟨rfl,rfl⟩,λ_=>⟨_,rfl,by show(3:Nat)≠4;decide⟩,a4⟩;exact⟨gp V i,by simp,val,P.r,cs',iQ V.ow i,⟨⟨λj hj=>by rw[b4];exact h.cl j hj,λp hp _ _=>b3 _ _ (h.ap p hp (hL p hp).1 (hL p hp).2),⟨_,b1,PI⟩,λz hz=>by rw[b4];exact h.nm z hz⟩,hs,b1,a4⟩,rfl,b4,rfl⟩
   .
    obtain⟨v',hv'⟩:∃v':Nat->Nat,v'=λa=>if a=aw V then u else val a:=⟨_,rfl⟩
    have hn:v' (aw V)=u:=(by rw[hv'];simp);have au:∀a,a<aw V->v' a=val a:=λa ha=>by rw[hv'];show(if a=aw V then u else val a)=_;rw[if_neg (by omega)]
    have dT:=(zx V FF).1;rw[hl]at dT;have hs:(oQ V c i).ow.Perm (⟨3,c,aw V⟩::(⟨4,aw V,P.r⟩::iQ V.ow i)):=by
     show(V.ow.set i (⟨3,c,aw V⟩:Pr)++[(⟨4,aw V,(owA V i).r⟩:Pr)]).Perm _;rw[hoP];exact((perm_append_comm (l₂:=[(⟨4,aw V,P.r⟩:Pr)])).trans ((iW hi (⟨3,c,aw V⟩:Pr)).cons _)).trans (List.Perm.swap _ _ _)
    have a4':mr v' (iQ V.ow i) cs':=yI (λp hp=>⟨au _ (zx V (nM hp)).1,au _ (zx V (nM hp)).2⟩) a4;have hsr:mr v' (⟨4,aw V,P.r⟩::iQ V.ow i) (t'++cs'):=⟨t',cs',List.Perm.refl _,by show lY t' (v' (aw V)) (v' P.r);rw[hn,au _ (zx V FF).2];exact b2,λh=>absurd rfl h,a4'⟩;have b1':F'.ow.Perm (X++(⟨3,v' c,v' (aw V)⟩::(t'++cs'))):=(by rw[hn,au _ dT];exact b1);have PI:mr v' (oQ V c i).ow (⟨3,v' c,v' (aw V)⟩::(t'++cs')):=cN hs.symm ⟨[⟨3,v' c,v' (aw V)⟩],t'++cs',List.Perm.refl _,⟨rfl,rfl⟩,λ_=>⟨_,rfl,by show(3:Nat)≠4;decide⟩,hsr⟩;refine⟨oQ V c i,by simp,v',aw V,t'++cs',⟨4,aw V,P.r⟩::iQ V.ow i,⟨⟨λj hj=>?_,λp hp _ _=>?_,⟨_,b1',PI⟩,λz hz=>by rw[b4];exact h.nm z hz⟩,hs,b1',hsr⟩,au _ dT,b4,rfl⟩
    .rw[b4];show v' (V.cl.getD j 0)=_;rw[au _ (wE V hj)];exact h.cl j hj
    .have hp:p∈V.ap:=hp;rw[au _ (Jg V hp).1,au _ (Jg V hp).2];exact b3 _ _ (h.ap p hp (hL p hp).1 (hL p hp).2)
end
def yB(F:CF)(val:Nat->Nat)(V:CF):Prop:=∀p∈V.ap,aV F (val p.l) (val p.r)=true
section
variable {r:Nat->Nat} {w:Nat} {F V:CF} {val:Nat->Nat} {X:List Pr}
theorem cX.apa(h:cX r w F val X V)(hL:Hd V):yB F val V:=λp hp=>h.ap p hp (hL p hp).1 (hL p hp).2
structure WQ(r:Nat->Nat)(w v v':Nat):Prop where
 e:1+v'=r (1+v)
 i:∀i,i<5->r i=r (1+v)->i=1+v
 hv:v<4
 hv':v'<4
 hw:v'≠w
theorem cX.setC(h5:F.cl.length=5)(Ud:V.cl.length=5)(h:cX r w F val X V)(ha:yB F val V){v v':Nat}(hv:WQ r w v v')(c:Nat):cX r w (Go.Proofs.YtciihepbeacppaaGreat.setC F (1+v') (val c)) val X (Go.Proofs.YtciihepbeacppaaGreat.setC V (1+v) c)/\yB (Go.Proofs.YtciihepbeacppaaGreat.setC F (1+v') (val c)) val (Go.Proofs.YtciihepbeacppaaGreat.setC V (1+v) c):=by
 have hg:∀j,(Go.Proofs.YtciihepbeacppaaGreat.setC F (1+v') (val c)).cl.getD j 0=if 1+v'=j then val c else F.cl.getD j 0:=λj=>wZ h5 (by have:=hv.hv';omega)
 have hg':∀j,(Go.Proofs.YtciihepbeacppaaGreat.setC V (1+v) c).cl.getD j 0=if 1+v=j then c else V.cl.getD j 0:=λj=>wZ Ud (by have:=hv.hv;omega)
 have hd:∀a b,aV F a b=true->aV (Go.Proofs.YtciihepbeacppaaGreat.setC F (1+v') (val c)) a b=true:=λa b=>jF (F:=F) (F':=Go.Proofs.YtciihepbeacppaaGreat.setC F (1+v') (val c)) (λp hp=>hp) (by rw[hg,if_neg (by omega)]) (λp hp=>⟨p,hp,rfl⟩);refine⟨⟨λi hi=>?_,λp hp _ _=>hd _ _ (ha p hp),h.sp,λx hx=>?_⟩,λp hp=>hd _ _ (ha p hp)⟩
 .rw[hg,hg'];by_cases e:1+v=i
  .rw[if_pos e,<-e,if_pos hv.e]
  .rw[if_neg e,if_neg (λe2=>e ((hv.i i hi (by rw[<-hv.e,e2])).symm))];exact h.cl i hi
 .rw[hg,hg,if_neg (by have:=hv.hw;omega),if_neg (by omega)];exact h.nm x hx
theorem cX.clT(h0:r 0=0)(h:cX r w F val X V){k i i':Nat}(hi:k=1->1+i'=r (1+i)/\i<4):val (Go.Proofs.YtciihepbeacppaaGreat.clT V k i)=Go.Proofs.YtciihepbeacppaaGreat.clT F k i':=by
 unfold Go.Proofs.YtciihepbeacppaaGreat.clT;by_cases hk:k=1
 .rw[if_pos hk,if_pos hk,(hi hk).1];exact h.cl _ (by have:=(hi hk).2;omega)
 .rw[if_neg hk,if_neg hk,h.cl 0 (by omega),h0]
theorem NM{a b x y:Nat}(h5:F.cl.length=5)(hn:aV F a b=false)(h:aV F x y=true):aV (mL F a b) (cM a b x) (cM a b y)=true:=by
 obtain⟨h1,h2⟩:=bZ.1 h;have aH:cM a b x≠cM a b y:=λe=>by
  have hc:(x=a/\y=b)\/(x=b/\y=a):=by
   unfold cM at e;by_cases e1:x=b <;> by_cases e2:y=b
   .exact absurd (e1.trans e2.symm) h1
   .rw[if_pos e1,if_neg e2]at e;exact zq1 ⟨e1,e.symm⟩
   .rw[if_neg e1,if_pos e2]at e;exact zq0 ⟨e,e2⟩
   .rw[if_neg e1,if_neg e2]at e;exact absurd e h1
  rcases hc with⟨rfl,rfl⟩|⟨rfl,rfl⟩
  .rw[h]at hn;cases hn
  .rw[iC h]at hn;cases hn
 have qM:∀c,(∃p∈F.ow,p.l=c)->∃p∈(mL F a b).ow,p.l=cM a b c:=λc=>by
  rintro⟨p,hp,rfl⟩;exact⟨mj a b p,mem_map.2 ⟨p,hp,rfl⟩,rfl⟩
 have h0:(mL F a b).cl.getD 0 0=cM a b (F.cl.getD 0 0):=gL h5 (by omega);rw[bZ];refine⟨aH,?_⟩;rcases h2 with⟨p,hp,h9⟩|h9
 .refine zq0 ⟨mj a b p,mem_map.2 ⟨p,hp,rfl⟩,?_⟩;rcases h9 with⟨rfl,rfl⟩|⟨rfl,rfl⟩
  .exact zq0 ⟨rfl,rfl⟩
  .exact zq1 ⟨rfl,rfl⟩
 .right;rw[fQ]at h9 ⊢;rw[h0];rcases h9 with⟨c,d|d⟩|⟨c,d⟩
  .exact zq0 ⟨qM _ c,zq0 (qM _ d)⟩
  .exact zq0 ⟨qM _ c,zq1 (by rw[d])⟩
  .exact zq1 ⟨qM _ c,by rw[d]⟩
theorem cX.jo(hr:∀i,i<5->r i<5)(hw:w<4)(h5:F.cl.length=5)(Ud:V.cl.length=5)(h:cX r w F val X V)(ha:yB F val V){a b:Nat}(hn:aV F (val a) (val b)=false):cX r w (mL F (val a) (val b)) (λc=>cM (val a) (val b) (val c)) (X.map (mj (val a) (val b))) (mL V a b):=by
 have hs:∀c,cM (val a) (val b) (val (cM a b c))=cM (val a) (val b) (val c):=λc=>by
  by_cases e:c=b
  .have e1:cM a b c=a:=(by unfold cM;rw[if_pos e]);rw[e1,e];unfold cM;rw[if_pos rfl];split <;> rfl
  .have e1:cM a b c=c:=(by unfold cM;rw[if_neg e]);rw[e1]
 refine⟨λi hi=>?_,λp hp _ _=>?_,?_,λx hx=>?_⟩
 .rw[gL Ud hi,gL h5 (hr i hi),<-h.cl i hi];exact hs _
 .obtain⟨q,hq,rfl⟩:=mem_map.1 (show p∈V.ap.map (mj a b) from hp);show aV _ (cM (val a) (val b) (val (cM a b q.l))) (cM (val a) (val b) (val (cM a b q.r)))=true;rw[hs,hs];exact NM h5 hn (ha q hq)
 .obtain⟨cs,s1,s2⟩:=h.sp;refine⟨cs.map (mj (val a) (val b)),?_,?_⟩
  .show(F.ow.map (mj (val a) (val b))).Perm _;rw[<-map_append];exact s1.map _
  .exact pG (val:=val) (g:=mj a b) (ph:=cM (val a) (val b)) (G:=mj (val a) (val b)) (λx=>⟨rfl,rfl,Iff.rfl⟩) (λp hp=>⟨λh=>h,hs _,hs _⟩) s2
 .obtain⟨y,hy,rfl⟩:=mem_map.1 hx;obtain⟨e1,e2⟩:=h.nm y hy;rw[gL h5 (by omega),gL h5 (by omega)];exact⟨by show cM _ _ y.l=_;rw[e1],by show cM _ _ y.r=_;rw[e2]⟩
theorem cX.pa(h:cX r w F val X V)(ha:yB F val V){a b:Nat}(hn:val a≠val b):cX r w (cf F (val a) (val b)) val X (cf V a b):=by
 have hd:∀x y,aV F x y=true->aV (cf F (val a) (val b)) x y=true:=λx y=>jF (F:=F) (F':=cf F (val a) (val b)) (λp hp=>mem_append_left _ hp) rfl (λp hp=>⟨p,hp,rfl⟩);refine⟨h.cl,λp hp _ _=>?_,h.sp,h.nm⟩;rcases mem_append.1 (show p∈V.ap++[⟨2,a,b⟩] from hp) with hp|hp
 .exact hd _ _ (ha p hp)
 .rw[mem_singleton.1 hp];rw[bZ];exact⟨hn,zq0 ⟨⟨2,val a,val b⟩,mem_append_right _ (by simp),zq0 ⟨rfl,rfl⟩⟩⟩
theorem cX.cr(h0:r 0=0)(h5:F.cl.length=5)(Ud:V.cl.length=5)(h:cX r w F val X V)(ha:yB F val V){v v':Nat}(hv:WQ r w v v'):∃val',cX r w (Et F v') val' X (Et V v):=by
 obtain⟨u,hu⟩:∃u:Nat->Nat,u=λa=>if a=aw V then aw F else val a:=⟨_,rfl⟩
 have hn:u (aw V)=aw F:=by rw[hu];simp
 have au:∀a,a<aw V->u a=val a:=λa ha=>by rw[hu];show(if a=aw V then aw F else val a)=_;rw[if_neg (by omega)]
 have hd:∀x y,aV F x y=true->aV (md F ⟨3,aw F,F.cl.getD 0 0⟩) x y=true:=λx y=>jF (F:=F) (F':=md F ⟨3,aw F,F.cl.getD 0 0⟩) (λp hp=>hp) rfl (λp hp=>⟨p,mem_append_left _ hp,rfl⟩);have Iz:yB (md F ⟨3,aw F,F.cl.getD 0 0⟩) u (md V ⟨3,aw V,V.cl.getD 0 0⟩):=λp hp=>by
  have hp:p∈V.ap:=hp;rw[au _ (Jg V hp).1,au _ (Jg V hp).2];exact hd _ _ (ha p hp)
 have h1:cX r w (md F ⟨3,aw F,F.cl.getD 0 0⟩) u X (md V ⟨3,aw V,V.cl.getD 0 0⟩):=by
  obtain⟨cs,s1,s2⟩:=h.sp;refine⟨λi hi=>?_,λp hp _ _=>Iz p hp,⟨⟨3,aw F,F.cl.getD 0 0⟩::cs,?_,?_⟩,h.nm⟩
  .show u (V.cl.getD i 0)=F.cl.getD (r i) 0;rw[au _ (wE V hi)];exact h.cl i hi
  .show(F.ow++[_]).Perm _;exact perm_append_comm.trans ((s1.cons _).trans perm_middle.symm)
  .show mr u (V.ow++[_]) _;refine cN (perm_append_comm (l₁:=[(⟨3,aw V,V.cl.getD 0 0⟩:Pr)])) ⟨[⟨3,aw F,F.cl.getD 0 0⟩],cs,List.Perm.refl _,⟨?_,?_⟩,λ_=>⟨_,rfl,by show(3:Nat)≠4;decide⟩,yI (λp hp=>⟨au _ (zx V hp).1,au _ (zx V hp).2⟩) s2⟩
   .exact hn.symm
   .show F.cl.getD 0 0=u (V.cl.getD 0 0);rw[au _ (wE V (by omega)),h.cl 0 (by omega),h0]
 have:=(h1.setC (F:=md F ⟨3,aw F,F.cl.getD 0 0⟩) (V:=md V ⟨3,aw V,V.cl.getD 0 0⟩) h5 Ud Iz hv (aw V)).1;rw[hn]at this;exact⟨u,this⟩
theorem nB{g:CF}{c u:Nat}{R:List Pr}(hl:lO g.ow)(hp:g.ow.Perm (⟨3,c,u⟩::R)):∃j,cD g.ow c=some j/\j<g.ow.length/\g.ow.getD j ay=⟨3,c,u⟩/\(iQ g.ow j).Perm R/\∀y:Pr,(g.ow.set j y).Perm (y::R):=by
 obtain⟨j,h1,h2,h3⟩:=Ht (F:=g) hl (x:=⟨3,c,u⟩) (hp.symm.subset (by simp));have ht:(iQ g.ow j).Perm R:=by
  have h4:=cU h2;rw[h3]at h4;exact(h4.symm.trans hp).cons_inv
 exact⟨j,h1,h2,h3,ht,λy=>(iW h2 y).trans (ht.cons y)⟩
theorem Sl.fo'{c u:Nat}{cr Vr:List Pr}(h:Sl r w F val X V c u cr Vr):F.ow.Perm (⟨3,val c,val u⟩::(X++cr)):=h.fo.trans perm_middle
theorem Sl.li(hF:aj F)(hV:aj V){c u t:Nat}{cr Vr:List Pr}(h:Sl r w F val X V c u cr Vr)(ha:yB F val V){j j':Nat}(hj:cD V.ow c=some j)(Xy:cD F.ow (val c)=some j'):cX r w (setO F j' ⟨3,val c,val t⟩) val X (setO V j ⟨3,c,t⟩):=by
 obtain⟨i,a1,-,-,-,a5⟩:=nB hV.lf h.vo;obtain⟨i',b1,-,-,-,b5⟩:=nB hF.lf h.fo';rw[hj]at a1;injection a1 with a1;rw[Xy]at b1;injection b1 with b1;subst a1;subst b1;have lj:(setO F j' ⟨3,val c,val t⟩).ow.Perm (X++(⟨3,val c,val t⟩::cr)):=(b5 _).trans perm_middle.symm;refine⟨h.em.cl,λp hp _ _=>?_,⟨_,lj,cN (a5 ⟨3,c,t⟩).symm ⟨[⟨3,val c,val t⟩],cr,List.Perm.refl _,⟨rfl,rfl⟩,λ_=>⟨_,rfl,by show(3:Nat)≠4;decide⟩,h.sp⟩⟩,h.em.nm⟩;refine jF (F:=F) (F':=setO F j' ⟨3,val c,val t⟩) (λp hp=>hp) rfl (λp hp=>?_) (ha p hp);rcases mem_cons.1 (h.fo'.subset hp) with rfl|hp
 .exact⟨_,(b5 _).symm.subset mem_cons_self,rfl⟩
 .exact⟨p,(b5 _).symm.subset (mem_cons_of_mem _ hp),rfl⟩
theorem Jl:∀(l:List Pr) (c:Nat) (h:CF),(l.foldl (λh p=>cf h c p.l) h).ap=h.ap++l.map (λp=>⟨2,c,p.l⟩)/\(l.foldl (λh p=>cf h c p.l) h).ow=h.ow/\(l.foldl (λh p=>cf h c p.l) h).cl=h.cl
 |[],_,h=>⟨by simp,rfl,rfl⟩
 |p::l,c,h=>by
  rw[foldl_cons];obtain⟨h1,h2,h3⟩:=Jl l c (cf h c p.l);refine⟨?_,h2,h3⟩;rw[h1];show(h.ap++[_])++_=_;simp
theorem rZ{g:CF}{v c j:Nat}(hc:c=g.cl.getD (1+v) 0)(hj:cD g.ow c=some j):(l8 g v).ow=iQ g.ow j/\(l8 g v).cl=g.cl/\(l8 g v).ap=(g.ap++[⟨2,c,g.cl.getD 0 0⟩])++(iQ g.ow j).map (λp=>⟨2,c,p.l⟩):=by
 have e:l8 g v=(gY g j).ow.foldl (λh p=>cf h c p.l) (cf (gY g j) c ((gY g j).cl.getD 0 0)):=by unfold l8;simp only;rw[<-hc];unfold qp;rw[hj];rfl
 rw[e];obtain⟨h1,h2,h3⟩:=Jl (gY g j).ow c (cf (gY g j) c ((gY g j).cl.getD 0 0));exact⟨h2,h3,h1⟩
end
def EnN(Q:CF->Prop)(s:Sr):Prop:=∀n,∀e∈bq s n,Q e.f
section
variable {c:Cd} {N n:Nat} {f:CF} {s:Sr} {Q:CF->Prop}
theorem aa7{al:List ci}(hf:gH (bW al)=false)(nv:Nat):fH (sV (bW al) nv):=by
 unfold gH at hf;rw[Bool.or_eq_false_iff,any_eq_false]at hf;refine⟨λp hp e=>?_,λp hp e=>?_⟩
 .have:=hf.1 p hp;simp[e]at this
 .have hd:∀(l:List Pr) (seen:List Nat),tG seen l=false->∀p∈l,p.l ∉ seen:=by
   intro l;induction l with
   |nil=>intro seen _ p hp;simp at hp
   |cons q r ih =>
    intro seen h p hp;unfold tG at h;split at h
    .cases h
    .rename_i hq;rcases mem_cons.1 hp with rfl|hp
     .exact hq
     .exact λhm=>ih _ h p hp (mem_cons_of_mem _ hm)
  exact hd _ _ hf.2 p hp (by rw[e];exact mem_singleton.2 rfl)
end
theorem Bi{f g:CF}(hc:g.cl=f.cl)(ho:∀p∈f.ow,p.l∈bL g/\p.r∈bL g){c:Nat}(h:c∈bL f):c∈bL g:=by
 rcases tt h with⟨i,hi,rfl⟩|⟨p,hp,rfl|rfl⟩
 .rw[<-hc];exact qa hi
 .exact(ho p hp).1
 .exact(ho p hp).2
theorem vH{f g:CF}{c:Nat}(hg:g∈(gU f c).1):g.cl=f.cl/\g.ap=f.ap/\(∀p∈f.ow,p.l∈bL g/\p.r∈bL g)/\(Kd f->Kd g):=by
 unfold gU at hg;split at hg
 .simp at hg
 .rename_i i hb;obtain⟨hi,hl⟩:=pJ hb;have hs:∀y:Pr,∀p∈f.ow,p=f.ow.getD i ay\/p∈f.ow.set i y:=λy p hp=>by
   rcases mem_cons.1 ((cU hi).subset hp) with h|h
   .exact zq0 h
   .exact zq1 ((iW hi y).symm.subset (mem_cons_of_mem _ h))
  have hy:∀y:Pr,y∈f.ow.set i y:=λy=>(iW hi y).symm.subset (by simp);have SE:∀y:Pr,y.k=3\/y.k=4->Kd f->∀p∈f.ow.set i y,p.k=3\/p.k=4:=λy h1 hk p hp=>by
   rcases mem_or_eq_of_mem_set hp with hp|rfl
   .exact hk p hp
   .exact h1
  have h1:(gp f i).cl=f.cl/\(gp f i).ap=f.ap/\(∀p∈f.ow,p.l∈bL (gp f i)/\p.r∈bL (gp f i))/\(Kd f->Kd (gp f i)):=by
   refine⟨rfl,rfl,λp hp=>?_,λhk=>SE _ (zq0 rfl) hk⟩;rcases hs ⟨3,(owA f i).l,(owA f i).r⟩ p hp with h|h
   .have h9:=dd (f:=gp f i) (p:=⟨3,(owA f i).l,(owA f i).r⟩) (hy _);rw[h];exact h9
   .exact dd (f:=gp f i) h
  unfold Oj at hg;split at hg
  .simp only[mem_singleton]at hg;rw[hg];exact⟨rfl,rfl,λp hp=>dd hp,λh=>h⟩
  .split at hg
   .simp only[mem_singleton]at hg;rw[hg];exact h1
   .simp only[mem_cons,not_mem_nil,or_false]at hg;rcases hg with rfl|rfl
    .exact h1
    .have ha:(⟨3,c,aw f⟩:Pr)∈(oQ f c i).ow:=mem_append_left _ (hy _);have aW:(⟨4,aw f,(owA f i).r⟩:Pr)∈(oQ f c i).ow:=mem_append_right _ (by simp);refine⟨rfl,rfl,λp hp=>?_,λhk p hp=>?_⟩
     .rcases hs ⟨3,c,aw f⟩ p hp with h|h
      .rw[h,hl];exact⟨(dd ha).1,(dd aW).2⟩
      .exact dd (f:=oQ f c i) (mem_append_left _ h)
     .rcases mem_append.1 (show p∈f.ow.set i ⟨3,c,aw f⟩++[⟨4,aw f,(owA f i).r⟩] from hp) with hp|hp
      .exact SE ⟨3,c,aw f⟩ (zq0 rfl) hk p hp
      .rw[mem_singleton.1 hp];exact zq1 rfl
theorem Ok{f g:CF}{c:Nat}(hL:Hd f)(hg:g∈(gU f c).1):Hd g:=by
 obtain⟨h1,h2,h3,-⟩:=vH hg;intro p hp;rw[h2]at hp;exact⟨Bi h1 h3 (hL p hp).1,Bi h1 h3 (hL p hp).2⟩
section
variable {r:Nat->Nat} {w:Nat} {F V:CF} {val:Nat->Nat} {X:List Pr}
theorem Sl.fr(h0:r 0=0)(hF:aj F)(hV:aj V)(nF:fH F){c u v v':Nat}{cr Vr:List Pr}(h:Sl r w F val X V c u cr Vr)(ha:yB F val V)(hc:c=V.cl.getD (1+v) 0)(KP:val c=F.cl.getD (1+v') 0):cX r w (l8 F v') val X (l8 V v):=by
 obtain⟨i,a1,-,-,a4,-⟩:=nB hV.lf h.vo;obtain⟨i',b1,-,-,b4,-⟩:=nB hF.lf h.fo';obtain⟨o1,o2,o3⟩:=rZ hc a1;obtain⟨p1,p2,p3⟩:=rZ KP b1;have dF:∀x∈X++cr,x.l≠val c:=by
  have h1:((⟨3,val c,val u⟩::(X++cr)).map (λx:Pr=>x.l)).Nodup:=(h.fo'.map (λx:Pr=>x.l)).nodup_iff.1 hF.lf;rw[map_cons,nodup_cons]at h1;intro x hx e;exact h1.1 (by show val c∈_;rw[<-e];exact mem_map_of_mem (f:=λx:Pr=>x.l) hx)
 have si:val c≠F.cl.getD 0 0:=nF.ow ⟨3,val c,val u⟩ (h.fo'.symm.subset (by simp));have hp0:(⟨2,val c,F.cl.getD 0 0⟩:Pr)∈(l8 F v').ap:=by rw[p3];exact mem_append_left _ (mem_append_right _ (by simp))
 have hpx:∀x∈X++cr,(⟨2,val c,x.l⟩:Pr)∈(l8 F v').ap:=λx hx=>by
  rw[p3];exact mem_append_right _ (mem_map.2 ⟨x,b4.symm.subset hx,rfl⟩)
 have ak6:(l8 F v').cl.getD 0 0=F.cl.getD 0 0:=by rw[p2]
 have qM:∀z,(∃p∈F.ow,p.l=z)->z=val c\/∃p∈(l8 F v').ow,p.l=z:=λz=>by
  rintro⟨p,hp,rfl⟩;rcases mem_cons.1 (h.fo'.subset hp) with rfl|hp
  .exact zq0 rfl
  .right;rw[p1];exact⟨p,b4.symm.subset hp,rfl⟩
 have hox:∀z,(∃p∈F.ow,p.l=z)->z=val c\/∃x∈X++cr,x.l=z:=λz=>by
  rintro⟨p,hp,rfl⟩;rcases mem_cons.1 (h.fo'.subset hp) with rfl|hp
  .exact zq0 rfl
  .exact zq1 ⟨p,hp,rfl⟩
 have FK:∀y,y≠val c->((∃p∈F.ow,p.l=y)\/y=F.cl.getD 0 0)->aV (l8 F v') (val c) y=true:=λy hy EJ=>by
  rw[bZ];refine⟨λe=>hy e.symm,zq0 ?_⟩;rcases EJ with EJ|rfl
  .rcases hox y EJ with e|⟨x,hx,rfl⟩
   .exact absurd e hy
   .exact⟨_,hpx x hx,zq0 ⟨rfl,rfl⟩⟩
  .exact⟨_,hp0,zq0 ⟨rfl,rfl⟩⟩
 have hd:∀a b,aV F a b=true->aV (l8 F v') a b=true:=λa b hd=>by
  obtain⟨aH,hd⟩:=bZ.1 hd;rcases hd with⟨p,hp,th⟩|hd
  .rw[bZ];exact⟨aH,zq0 ⟨p,by rw[p3];exact mem_append_left _ (mem_append_left _ hp),th⟩⟩
  .rw[fQ]at hd;by_cases ea:a=val c
   .subst ea;refine FK b (λe=>aH e.symm) ?_;rcases hd with⟨-,k|k⟩|⟨k,-⟩
    .exact zq0 k
    .exact zq1 k
    .exact zq0 k
   .by_cases eb:b=val c
    .subst eb;refine iC (FK a ea ?_);rcases hd with⟨k,-⟩|⟨-,k⟩
     .exact zq0 k
     .exact zq1 k
    .rw[bZ];refine⟨aH,zq1 (fQ.2 ?_)⟩;rw[ak6];rcases hd with⟨k,l|l⟩|⟨k,l⟩
     .exact zq0 ⟨(qM a k).resolve_left ea,zq0 ((qM b l).resolve_left eb)⟩
     .exact zq0 ⟨(qM a k).resolve_left ea,zq1 l⟩
     .exact zq1 ⟨(qM b k).resolve_left eb,l⟩
 refine⟨λj hj=>by rw[o2,p2];exact h.em.cl j hj,λp hp _ _=>?_,⟨cr,by rw[p1];exact b4,by rw[o1];exact cN a4.symm h.sp⟩,λx hx=>by rw[p2];exact h.em.nm x hx⟩;rw[o3]at hp;rcases mem_append.1 hp with hp|hp
 .rcases mem_append.1 hp with hp|hp
  .exact hd _ _ (ha p hp)
  .rw[mem_singleton.1 hp];show aV (l8 F v') (val c) (val (V.cl.getD 0 0))=true;have e0:=h.em.cl 0 (by omega);rw[h0]at e0;rw[e0];exact FK _ (λe=>si e.symm) (zq1 rfl)
 .obtain⟨q,hq,rfl⟩:=mem_map.1 hp;obtain⟨⟨x,hx,ex⟩,-⟩:=vi (a4.subset hq) h.sp;show aV (l8 F v') (val c) (val q.l)=true;rw[<-ex];have pU:x∈X++cr:=mem_append_right _ hx;exact FK _ (dF x pU) (zq0 ⟨x,h.fo'.symm.subset (mem_cons_of_mem _ pU),rfl⟩)
theorem cX.op(hF:aj F)(kF:Kd F)(nF:fH F)(hV:aj V)(kV:Kd V)(hL:Hd V)(h:cX r w F val X V){v v':Nat}(hv:WQ r w v v')(c1:(cZ V v).2.1=false)(c2:(cZ V v).2.2.1=false)(c3:(cZ V v).2.2.2=false):
  (cZ F v').2.1=false/\(cZ F v').2.2.1=false/\∀F'∈(cZ F v').1,∃V'∈(cZ V v).1,∃val' u cr Vr c,Sl r w F' val' X V' c u cr Vr/\yB F' val' V'/\c=V'.cl.getD (1+v) 0/\val' c=F'.cl.getD (1+v') 0/\fH F'/\F'.cl=F.cl/\V'.cl=V.cl:=by
 have Mi:val (V.cl.getD (1+v) 0)=F.cl.getD (1+v') 0:=by rw[h.cl _ (by have:=hv.hv;omega),<-hv.e]
 obtain⟨i,hb,eV⟩:∃i,cD V.ow (V.cl.getD (1+v) 0)=some i/\cZ V v=((gU V (V.cl.getD (1+v) 0)).1,false,false,(gU V (V.cl.getD (1+v) 0)).2):=by
  by_cases e1:V.cl.getD (1+v) 0=V.cl.getD 0 0
  .exfalso;unfold cZ at c1;rw[if_pos e1]at c1;cases c1
  .by_cases e2:(cD V.ow (V.cl.getD (1+v) 0)).isSome=true
   .obtain⟨i,hi⟩:=Option.isSome_iff_exists.1 e2;refine⟨i,hi,?_⟩;unfold cZ;rw[if_neg e1,if_pos e2]
   .exfalso;unfold cZ at c2;rw[if_neg e1,if_neg e2]at c2;cases c2
 rw[eV]at c3 ⊢;obtain⟨⟨x,hx,SL⟩,ho⟩:=h.opn hF kF hV kV hL hb c3;have eF:cZ F v'=((gU F (F.cl.getD (1+v') 0)).1,false,false,(gU F (F.cl.getD (1+v') 0)).2):=by
  obtain⟨j,hj,-⟩:=pL hF.lf hx;rw[SL,Mi]at hj;unfold cZ;rw[if_neg (by rw[<-Mi,<-SL];exact nF.ow x hx),if_pos (by rw[hj];rfl)]
 rw[eF];refine⟨rfl,rfl,λF' lj=>?_⟩;have lj:F'∈(gU F (F.cl.getD (1+v') 0)).1:=lj;rw[<-Mi]at lj;obtain⟨V',KK,val',u,cr,Vr,o1,o2,o3,o4⟩:=ho F' lj;exact⟨V',KK,val',u,cr,Vr,_,o1,o1.em.apa (Ok hL KK),by rw[o4],by rw[o2,Mi,o3],nF.fi lj,o3,o4⟩
end
section
variable {f g:CF}
theorem Kd.td(h:Kd f):Kd (aQ f):=by
 intro p hp;obtain⟨x,hx,rfl⟩:=mem_map.1 (show p∈f.ow.map (jk (df (cJ f))) from dG.1 (show p∈mm (wU (cJ f)).ow from hp));exact h x hx
theorem Kd.fo1{k:Nat}(h:Kd f):Kd (kk f k):=by
 intro p hp;have Mt:=nM (show p∈iQ (f.ow.map (Go.Proofs.YtciihepbeacppaaGreat.fo1 (f.ow.getD k ay).l (f.ow.getD k ay).r)) k from hp);obtain⟨q,hq,rfl⟩:=mem_map.1 Mt;unfold Go.Proofs.YtciihepbeacppaaGreat.fo1;split
 .exact zq1 rfl
 .exact h q hq
theorem Kd.fold:∀(n:Nat) {f:CF},Kd f->Kd (eE n f)
 |0,_,h=>h
 |n+1,f,h=>by
  unfold eE;split
  .exact h
  .exact Kd.fold n h.fo1
theorem Kd.setO{i:Nat}{q:Pr}(hq:q.k=3\/q.k=4)(h:Kd f):Kd (Go.Proofs.YtciihepbeacppaaGreat.setO f i q):=by
 intro p hp;rcases mem_or_eq_of_mem_set (show p∈f.ow.set i q from hp) with hp|rfl
 .exact h p hp
 .exact hq
theorem Kd.cr{v:Nat}(h:Kd f):Kd (Et f v):=by
 intro p hp;rcases mem_append.1 (show p∈f.ow++[⟨3,aw f,f.cl.getD 0 0⟩] from hp) with hp|hp
 .exact h p hp
 .rw[mem_singleton.1 hp];exact zq0 rfl
theorem Kd.jo{a b:Nat}(h:Kd f):Kd (mL f a b):=by
 intro p hp;obtain⟨q,hq,rfl⟩:=mem_map.1 (show p∈f.ow.map (mj a b) from hp);exact h q hq
theorem Kd.fr{v j:Nat}(h:Kd g)(h1:cD g.ow (g.cl.getD (1+v) 0)=some j):Kd (l8 g v):=by
 intro p hp;rw[(rZ rfl h1).1]at hp;exact h p (nM hp)
end
structure js(f:CF):Prop where
 k:Kd f
 l:Hd f
 n:fH f
theorem Gi{f:CF}(hk:aj f)(h:js f):js (aQ (As f)):=⟨(h.k.fold _).td,qb (dp _ hk).1,(h.n.fold _).td (dp _ hk).1⟩
structure NdR(r:Nat->Nat)(w:Nat)(nd nd':Nd):Prop where
 op:nd'.op=nd.op
 v:(nd.op=1\/nd.op=2\/nd.op=3\/nd.op=4\/nd.op=5\/nd.op=8\/nd.op=9)->WQ r w nd.v nd'.v
 ak:(nd.op=1\/nd.op=3\/nd.op=8\/nd.op=9)->nd'.ak=nd.ak
 ai:(nd.op=2\/((nd.op=1\/nd.op=3\/nd.op=8\/nd.op=9)/\nd.ak=1))->WQ r w nd.ai nd'.ai
structure RnV(r:Nat->Nat)(w:Nat):Prop where
 h0:r 0=0
 lt:∀i,i<5->r i<5
 w:w<4
