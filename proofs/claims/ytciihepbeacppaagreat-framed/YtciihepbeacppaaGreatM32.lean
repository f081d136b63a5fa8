import Derived.Test.YtciihepbeacppaaGreatM31
namespace Go.Proofs.YtciihepbeacppaaGreat
open Go.RowKit List
set_option linter.unusedVariables false
structure Ww(r:Nat->Nat)(w N:Nat)(c c':Cd)(S:Sr):Prop where
 rn:YB r w
 len:c.nds.length=N
 len':c'.nds.length=N
 hd:c'.hd=c.hd
 nd:∀n,Wu r w (c.nds.getD n aI) (c'.nds.getD n aI)/\(c'.nds.getD n aI).nx=(c.nds.getD n aI).nx/\((c'.nds.getD n aI).op=7\/(c'.nds.getD n aI).op=8\/(c'.nds.getD n aI).op=9->(c'.nds.getD n aI).ot=(c.nds.getD n aI).ot)
 o:uG c.nds
 o':uG c'.nds
 cl:∀n,∀e∈a7 S n,LH c S n e.f
 td:pY S
 kl:B5 BB S
 hn:xg S
structure jZ(r:Nat->Nat)(w N:Nat)(S s:Sr):Prop where
 sh:iS N s
 kn:∀n,∀e∈a7 s n,BB e.f/\xh S n (DV r w e.f)
 fl:∀n k,k=2\/k=3\/k=4->Cw s n k=false
structure Cov(r:Nat->Nat)(w:Nat)(c:Cd)(S:Sr)(n:Nat)(F:CF):Prop where
 td:Td F
 k:BB F
 v:∃V,aq V/\fx V/\DV r w F V/\∀P,LI P->P (bm c n V)->xh S n P
section
variable {r:Nat->Nat} {w N n:Nat} {c c':Cd} {S s:Sr} {F V:CF}
theorem UI(hf:aq F)(h:BB F):BB (bm c n F):=by
 unfold bm;split
 .exact PG hf h
 .exact h
theorem KL(hf:aq V)(h:fx (bm c n V)):fx V:=by
 unfold bm at h;split at h
 .exact(m6 _ hf).1 ((l7 (df _ hf).1).1 h)
 .exact h
theorem zJ(hS:xg S)(hV:aq V)(h:∀P,LI P->P (bm c n V)->xh S n P):fx V:=by
 obtain⟨e,he,h1⟩:=h (λx=>fx x->fx (bm c n V)) ⟨λ_ hg hw h2 h3=>h2 (vz hg hw h3)⟩ (λh=>h);exact KL hV (h1 (hS n e he))
theorem UP(hP:Ww r w N c c' S)(hn:n<N)(hs:jZ r w N S s)(hF:Cov r w c S n F):jZ r w N S (bF c' n F s):=by
 obtain⟨V,v1,v2,v3,v4⟩:=hF.v;obtain⟨-,h2,-⟩:=ub (c:=c') hF.td hs.sh hn;have hg:Td (bm c' n F):=ua hF.td;have hk:BB (bm c' n F):=UI hF.td.ok hF.k;have fJ:n<s.kn.length:=by rw[hs.sh.kn];exact hn
 refine⟨h2,?_,λm k hk=>?_⟩
 .unfold bF;split
  .exact hs.kn
  .intro m e he;have hkA:a7 (pU c' (nk n (bm c' n F) (mG c' s (2*(a7 s n).length)))) m=if n=m then (a7 s n).filter (λe=>!xF e.f (bm c' n F))++[⟨bm c' n F,false⟩] else a7 s m:=gK fJ m
   rw[hkA]at he;by_cases e0:n=m
   .subst e0;rw[if_pos rfl]at he;rcases mem_append.1 he with he|he
    .exact hs.kn n e (mem_filter.1 he).1
    .rw[mem_singleton.1 he];exact⟨hk,v4 _ (S0 hP.rn hg.ok hk.n) (UM hP.rn hP.hd hF.td.ok v1 v2 v3)⟩
   .rw[if_neg e0]at he;exact hs.kn m e he
 .have h9:Cw (bF c' n F s) m k=Cw s m k:=by unfold bF;split <;> rfl
  rw[h9];exact hs.fl m k hk
theorem MV{fuel a:Nat}(hP:Ww r w N c c' S)(hn:n<N)(hs:jZ r w N S s)(hF:Cov r w c S n F):jZ r w N S (dJ c' fuel a n F s):=by
 obtain⟨V,v1,v2,⟨val,X,v3⟩,v4⟩:=hF.v;have hl:fj F=[]:=PN hF.td.ok hF.k.n.ow (v3.hng hP.rn v2);unfold dJ;rw[if_pos (zq1 hl)];exact UP hP hn hs hF
theorem zx{fuel a:Nat}(hP:Ww r w N c c' S):∀(l:List CF) {s:Sr},(l≠[]->n<N)->(∀x∈l,Cov r w c S n x)->jZ r w N S s->jZ r w N S (l.foldl (λs g=>dJ c' fuel a n g s) s)
 |[],_,_,_,h=>h
 |g::l,s,hn,hl,h=>by
  rw[foldl_cons];have hN:=hn (by simp);exact zx hP l (λ_=>hN) (λx hx=>hl x (by simp[hx])) (MV hP hN h (hl g (by simp)))
theorem aca{fuel:Nat}(hP:Ww r w N c c' S)(hn:n<N)(hs:jZ r w N S s)(hF:Td F)(kF:BB F)(hK:xh S n (DV r w F)):jZ r w N S (oE c' fuel n F s):=by
 obtain⟨e,he,val,X,hE⟩:=hK;have hE':DV r w F e.f:=⟨val,X,hE⟩;have dp:=hP.cl n e he;have BW:=hP.td.at n e he;have j5:=hP.kl n e he;have hhn:=hP.hn n e he;obtain⟨c9,vA,Me⟩:=hP.nd n;obtain⟨hv,ha⟩:=hP.o.v n;obtain⟨hv',tp⟩:=hP.o'.v n;obtain⟨q1,q2,q3,q4⟩:=Y2 hP.rn hF.ok kF BW.ok j5 c9 hv ha hv' tp hE' dp.nu dp.da dp.fu;obtain⟨t1,t2⟩:=lY hv' tp hF;obtain⟨k1,k2⟩:=PF hF.ok hv' tp kF q1 q2;have hl:fj F=[]:=PN hF.ok kF.n.ow (hE.hng hP.rn hhn);unfold oE;simp only;have e2:(decide ((c'.nds.getD n aI).op=0)&&!decide (fj F=[]))=false:=by rw[hl];simp
 rw[e2,q1,q2];have h0:jZ r w N S (fuS (bL (c'.nds.getD n aI) F).fu (wrI false n 4 (wrI false n 3 (wrI false n 2 s)))):=⟨(vh _ hs.sh).2.1,hs.kn,hs.fl⟩;have bH:(bL (c'.nds.getD n aI) F).nx≠[]->(c'.nds.getD n aI).nx<N:=λh=>by rw[<-hP.len'];exact hP.o'.nx n (by rw[hP.len'];exact hn) (rM h)
 have aU:(bL (c'.nds.getD n aI) F).ot≠[]->(c'.nds.getD n aI).ot<N:=λh=>by rw[<-hP.len'];exact hP.o'.ot n (by rw[hP.len'];exact hn) (mQ h)
 have h1:=zx (fuel:=fuel) (a:=n) (n:=(c'.nds.getD n aI).nx) hP (bL (c'.nds.getD n aI) F).nx bH (λx hx=>by
  obtain⟨y,hy,hxy⟩:=q3 x hx;obtain⟨y1,y2⟩:=dp.nx y hy;rw[<-vA]at y2;exact⟨t1 x hx,k1 x hx,y,y1,zJ hP.hn y1 y2,hxy,y2⟩) h0
 exact zx (fuel:=fuel) (a:=n) (n:=(c'.nds.getD n aI).ot) hP (bL (c'.nds.getD n aI) F).ot aU (λx hx=>by
  obtain⟨y,hy,hxy⟩:=q4 x hx;obtain⟨y1,y2⟩:=dp.ot y hy;rw[<-Me (mQ (ne_nil_of_mem hx))]at y2;exact⟨t2 x hx,k2 x hx,y,y1,zJ hP.hn y1 y2,hxy,y2⟩) h1
theorem JD{fuel:Nat}(hP:Ww r w N c c' S)(hn:n<N):∀(l:List CF) {s:Sr},(∀x∈l,Td x/\BB x/\xh S n (DV r w x))->jZ r w N S s->jZ r w N S (mJ c' fuel n l s)
 |[],_,_,h=>h
 |f::l,s,hl,h=>by
  unfold mJ;split
  .exact h
  .obtain⟨h1,h2,h3⟩:=hl f (by simp);exact JD hP hn l (λx hx=>hl x (by simp[hx])) (aca hP hn h h1 h2 h3)
theorem VX{fuel:Nat}(hP:Ww r w N c c' S)(hn:n<N)(h:jZ r w N S s):jZ r w N S (rp c' fuel n s):=by
 have fJ:n<s.kn.length:=by rw[h.sh.kn];exact hn
 obtain⟨s0,r8⟩:∃s0:Sr,s0={ s with kn:=s.kn.set n ((a7 s n).map (λe:gT=>(⟨e.f,true⟩:gT))) }:=⟨_,rfl⟩;have hkA:∀m,a7 s0 m=if n=m then (a7 s n).map (λe=>⟨e.f,true⟩) else a7 s m:=λm=>by rw[r8];exact gK fJ m
 have Fp:iS N s0:=by
  rw[r8];refine⟨by show(s.kn.set n _).length=N;rw[length_set];exact h.sh.kn,h.sh.wr,h.sh.rw,λl hl e he=>?_⟩;rcases mem_or_eq_of_mem_set (show l∈s.kn.set n _ from hl) with h1|rfl
  .exact h.sh.td l h1 e he
  .obtain⟨x,hx,rfl⟩:=mem_map.1 he;exact h.sh.td.at n x hx
 have h0:jZ r w N S s0:=by
  refine⟨Fp,λm e he=>?_,by rw[r8];exact h.fl⟩;rw[hkA]at he;by_cases e0:n=m
  .subst e0;rw[if_pos rfl]at he;obtain⟨x,hx,rfl⟩:=mem_map.1 he;exact h.kn n x hx
  .rw[if_neg e0]at he;exact h.kn m e he
 have e1:rp c' fuel n s=mJ c' fuel n (lJ (a7 s n)) s0:=by rw[r8];rfl
 rw[e1];refine JD hP hn _ (λx hx=>?_) h0;obtain⟨e,he,rfl⟩:=mem_map.1 hx;have he:=(mem_filter.1 he).1;exact⟨h.sh.td.at n e he,h.kn n e he⟩
theorem Jk{fuel:Nat}(hP:Ww r w N c c' S):∀(k:Nat) {s:Sr},jZ r w N S s->jZ r w N S (pS c' fuel k s)
 |0,_,h=>⟨⟨h.sh.kn,h.sh.wr,h.sh.rw,h.sh.td⟩,h.kn,h.fl⟩
 |k+1,s,h=>by
  unfold pS;split
  .exact h
  .rename_i n hp;have hn:n<N:=by
    unfold Et at hp;obtain⟨h1,-⟩:=findIdx?_eq_some_iff_getElem.1 hp;rw[<-h.sh.kn];exact h1
   split
   .exact h
   .exact Jk hP k (VX hP hn h)
theorem jZ.al(h:jZ r w N S s):LS s.wr=[]:=by
 unfold LS;rw[flatMap_eq_nil_iff];intro n _;rw[map_eq_nil_iff,filter_eq_nil_iff];intro k hk;have hk:k=2\/k=3\/k=4:=by simpa using hk
 have:=h.fl n k hk;unfold Cw at this;rw[this];simp
theorem jZ.vd(h:jZ r w N S s):(DF s).vd=0\/(DF s).vd=2:=by
 unfold DF;split
 .exact zq1 rfl
 .left;show(if LS s.wr=[] then 0 else 1)=0;rw[if_pos h.al]
end
def Tn(m t:Nat):Prop:=t<=m\/5<=t
section
variable {m nv:Nat} {al:List cn}
theorem aa6(ht:rF al)(hT:∀a∈al,Tn m (tm a).l/\Tn m (tm a).r):(gS al).length=13/\(∀t,t<13->¬ Tn m t->(gS al).getD t 0=t)/\∀t,t<13->Tn m t->Tn m ((gS al).getD t 0):=by
 have key:∀(l:List cn) (c:List Nat),(∀a∈l,a∈al)->c.length=13->(∀t,t<13->¬ Tn m t->c.getD t 0=t)->(∀t,t<13->Tn m t->Tn m (c.getD t 0))->(l.foldl j9 c).length=13/\(∀t,t<13->¬ Tn m t->(l.foldl j9 c).getD t 0=t)/\∀t,t<13->Tn m t->Tn m ((l.foldl j9 c).getD t 0):=by
  intro l;induction l with
  |nil=>intro c _ h1 h2 h3;exact⟨h1,h2,h3⟩
  |cons a l ih =>
   intro c hl h1 h2 h3;rw[foldl_cons];have ha:=hl a (by simp);obtain⟨b1,b2⟩:=ht a ha;obtain⟨d1,d2⟩:=hT a ha;have hL:Tn m (c.getD (nK a.lk a.li) 0):=h3 _ b1 d1;have hR:Tn m (c.getD (nK a.rk a.ri) 0):=h3 _ b2 d2;refine ih _ (λx hx=>hl x (by simp[hx])) ?_ (λt ht hn=>?_) (λt ht hn=>?_)
   .unfold j9;split
    .simpa using h1
    .exact h1
   .unfold j9;split
    .have e:(c.map (λx=>if x=c.getD (nK a.rk a.ri) 0 then c.getD (nK a.lk a.li) 0 else x)).getD t 0=if c.getD t 0=c.getD (nK a.rk a.ri) 0 then c.getD (nK a.lk a.li) 0 else c.getD t 0:=by
      rw[getD_eq_getElem?_getD,getElem?_map,getD_eq_getElem?_getD (l:=c) (i:=t),getElem?_eq_getElem (by omega)];rfl
     rw[e,h2 t ht hn,if_neg (λe=>hn (by rw[e];exact hR))]
    .exact h2 t ht hn
   .unfold j9;split
    .have e:(c.map (λx=>if x=c.getD (nK a.rk a.ri) 0 then c.getD (nK a.lk a.li) 0 else x)).getD t 0=if c.getD t 0=c.getD (nK a.rk a.ri) 0 then c.getD (nK a.lk a.li) 0 else c.getD t 0:=by
      rw[getD_eq_getElem?_getD,getElem?_map,getD_eq_getElem?_getD (l:=c) (i:=t),getElem?_eq_getElem (by omega)];rfl
     rw[e];split
     .exact hL
     .exact h3 t ht hn
    .exact h3 t ht hn
 have hr:∀t,t<13->(range 13).getD t 0=t:=λt ht=>by rw[getD_eq_getElem?_getD,getElem?_range ht];rfl
 exact key al (range 13) (λ_ h=>h) (by simp) (λt ht _=>hr t ht) (λt ht h=>by rw[hr t ht];exact h)
theorem MG{val:Nat->Nat}:∀{l:List Pr},(∀p∈l,val p.l=p.l/\val p.r=p.r)->nM val l l
 |[],_=>rfl
 |p::l,h=>⟨[p],l,List.Perm.refl _,⟨((h p (by simp)).1).symm,((h p (by simp)).2).symm⟩,λhk=>⟨p,rfl,hk⟩,MG (λx hx=>h x (by simp[hx]))⟩
def oM(m:Nat):cn:=⟨3,1,m,0,0⟩
theorem U3:gS (al++[oM m])=gS al:=by
 unfold gS;rw[foldl_append];rfl
theorem zD:bf (al++[oM m])={ bf al with ow:=(bf al).ow++[⟨3,(gS al).getD (1+m) 0,(gS al).getD 0 0⟩] }:=by
 unfold bf;rw[U3];have e1:(al++[oM m]).filter (λa=>a.k==2)=al.filter (λa=>a.k==2):=by rw[filter_append];simp[oM]
 have e2:(al++[oM m]).filter (λa=>a.k==3||a.k==4)=al.filter (λa=>a.k==3||a.k==4)++[oM m]:=by rw[filter_append];simp[oM]
 rw[e1,e2,map_append];rfl
theorem Hj{f:CF}{i:Nat}(hi:i<5):(oO f nv).cl.getD i 0=if nv<i then f.cl.getD 0 0 else f.cl.getD i 0:=by
 show((range 5).map (λi=>if nv<i then f.cl.getD 0 0 else f.cl.getD i 0)).getD i 0=_;rw[getD_eq_getElem?_getD,getElem?_map,getElem?_range hi];rfl
theorem zE(hl:(gS al).length=13){i:Nat}(hi:i<5):(bf al).cl.getD i 0=(gS al).getD i 0:=by
 show((gS al).take 5).getD i 0=_;rw[getD_eq_getElem?_getD,getElem?_take,if_pos hi,getD_eq_getElem?_getD]
def Ew(m nv i:Nat):Nat:=if i<=m then i else if i<=nv then i+1 else 0
theorem Gq(h1:m<=nv)(h2:nv<=3):YB (Ew m nv) m:=⟨by unfold Ew;rw[if_pos (zq5 m)],λi hi=>by unfold Ew;split;omega;split;omega;omega,by omega⟩
theorem SV(h1:m<=nv)(h2:nv<=3)(ht:rF al)(hT:∀a∈al,Tn m (tm a).l/\Tn m (tm a).r)(hf:eE (bf al)=false):∃val X,el (Ew m nv) m (oO (bf (al++[oM m])) (nv+1)) val X (oO (bf al) nv):=by
 obtain⟨m1,m2,m3⟩:=aa6 ht hT;have dp:∀i,i<5->(oO (bf (al++[oM m])) (nv+1)).cl.getD i 0=if nv+1<i then (gS al).getD 0 0 else (gS al).getD i 0:=λi hi=>by
  rw[Hj hi,zD];show(if nv+1<i then (bf al).cl.getD 0 0 else (bf al).cl.getD i 0)=_;rw[zE m1 hi,zE m1 (by omega)]
 have ak1:∀i,i<5->(oO (bf al) nv).cl.getD i 0=if nv<i then (gS al).getD 0 0 else (gS al).getD i 0:=λi hi=>by
  rw[Hj hi,zE m1 hi,zE m1 (by omega)]
 obtain⟨val,Pq⟩:∃val:Nat->Nat,val=λc=>if m<c/\c<5 then c+1 else c:=⟨_,rfl⟩
 have OM:∀{c},Tn m c->val c=c:=fun {c} h=>by
  rw[Pq];show(if m<c/\c<5 then c+1 else c)=c;rw[if_neg (by unfold Tn at h;omega)]
 have hmv:∀{c},¬ Tn m c->val c=c+1:=fun {c} h=>by
  rw[Pq];show(if m<c/\c<5 then c+1 else c)=c+1;rw[if_pos (by unfold Tn at h;omega)]
 have hM:∀t,t<13->Tn m t->val ((gS al).getD t 0)=(gS al).getD t 0:=λt h3 h4=>OM (m3 t h3 h4);have h0:(Ew m nv) 0=0:=(Gq h1 h2).h0;have eU:∀p∈(bf al).ap,Tn m p.l/\Tn m p.r:=λp hp=>by
  obtain⟨a,ha,rfl⟩:=mem_map.1 (show p∈(al.filter (λa=>a.k==2)).map (iP (gS al)) from hp);have ha:=(mem_filter.1 ha).1;exact⟨m3 _ (ht a ha).1 (hT a ha).1,m3 _ (ht a ha).2 (hT a ha).2⟩
 have oZ:∀p∈(bf al).ow,Tn m p.l/\Tn m p.r:=λp hp=>by
  obtain⟨a,ha,rfl⟩:=mem_map.1 (show p∈(al.filter (λa=>a.k==3||a.k==4)).map (iP (gS al)) from hp);have ha:=(mem_filter.1 ha).1;exact⟨m3 _ (ht a ha).1 (hT a ha).1,m3 _ (ht a ha).2 (hT a ha).2⟩
 have hnf:=P8 hf nv;have RP:(oO (bf (al++[oM m])) (nv+1)).ow=(bf al).ow++[⟨3,(gS al).getD (1+m) 0,(gS al).getD 0 0⟩]:=by rw[zD];rfl
 have akU:(oO (bf (al++[oM m])) (nv+1)).ap=(bf al).ap:=by rw[zD];rfl
 refine⟨val,[⟨3,(gS al).getD (1+m) 0,(gS al).getD 0 0⟩],λi hi=>?_,λp hp _ _=>?_,⟨(bf al).ow,by rw[RP];exact perm_append_comm,MG (λp hp=>⟨OM (oZ p hp).1,OM (oZ p hp).2⟩)⟩,λx hx=>?_⟩
 .rw[ak1 i hi,dp _ ((Gq h1 h2).lt i hi)];unfold Ew;by_cases a1:i<=m
  .rw[if_pos a1,if_neg (by omega),if_neg (by omega)];exact hM i (by omega) (zq0 a1)
  .rw[if_neg a1];by_cases a2:i<=nv
   .rw[if_pos a2,if_neg (by omega),if_neg (by omega),m2 i (by omega) (by unfold Tn;omega),m2 (i+1) (by omega) (by unfold Tn;omega)];exact hmv (by unfold Tn;omega)
   .rw[if_neg a2,if_pos (by omega),if_neg (by omega)];exact hM 0 (by omega) (zq0 (zq5 _))
 .have hp:p∈(bf al).ap:=hp;rw[OM (eU p hp).1,OM (eU p hp).2,de];exact⟨hnf.ap p hp,zq0 ⟨p,by rw[akU];exact hp,zq0 ⟨rfl,rfl⟩⟩⟩
 .rw[mem_singleton.1 hx,dp _ (by omega),dp 0 (by omega),if_neg (by omega),if_neg (by omega)];exact⟨rfl,rfl⟩
theorem Cs:∀(l:List Pr) (x:Pr) (seen:List Nat),mP seen (l++[x])=false->mP seen l=false
 |[],_,_,_=>rfl
 |p::l,x,seen,h=>by
  rw[cons_append]at h;unfold mP at h ⊢;split at h
  .cases h
  .rename_i hp;rw[if_neg hp];exact Cs l x _ h
theorem To(h:eE (bf (al++[oM m]))=false):eE (bf al)=false:=by
 rw[zD]at h;unfold eE at h ⊢;rw[Bool.or_eq_false_iff]at h ⊢;exact⟨h.1,Cs _ _ _ h.2⟩
theorem ag7:Kd (oO (bf al) nv):=by
 intro p hp;obtain⟨a,ha,rfl⟩:=mem_map.1 (show p∈(al.filter (λa=>a.k==3||a.k==4)).map (iP (gS al)) from hp);have:=(mem_filter.1 ha).2;show a.k=3\/a.k=4;simpa using this
theorem PE(ht:rF al)(hf:eE (bf al)=false):BB (aZ (oO (bf al) nv)):=by
 have eP:=gE (jz ht hf) nv;exact⟨ag7.td,FZ eP,(P8 hf nv).td eP⟩
end
theorem JZ {l l':List UInt8} {m:Nat} (h:lA l=0) (h':lA l'=0) (hv:(GY (b9 l)).vd=0) (hm:m<=(bO l).vars.length) (BT:(bO l').vars.length=(bO l).vars.length+1)
  (qc:bf (eW (b9 l') aX)=bf (eW (b9 l) aX++[oM m])) (hT:∀a∈eW (b9 l) aX,Tn m (tm a).l/\Tn m (tm a).r) (Xn:(bO l').nodes.length=(bO l).nodes.length) (hhd:OJ (bO l').nodes=OJ (bO l).nodes)
  (c9:∀n,Wu (Ew m (bO l).vars.length) m ((bO l).nodes.getD n aI) ((bO l').nodes.getD n aI)/\((bO l').nodes.getD n aI).nx=((bO l).nodes.getD n aI).nx/\(((bO l').nodes.getD n aI).op=7\/((bO l').nodes.getD n aI).op=8\/((bO l').nodes.getD n aI).op=9->((bO l').nodes.getD n aI).ot=((bO l).nodes.getD n aI).ot)) :
  (GY (b9 l')).vd=0\/(GY (b9 l')).vd=2:=by
 have hA:=lP h;have hA':=lP h';have sQ:(bO l).vars.length<=3:=by have:=hA'.v;omega
 have hr:=Gq hm sQ;obtain⟨hS,hB⟩:=DI hA hv;have hH:=QO h hv;have hK:B5 BB (tM (bO l).nodes (bO l).vars.length (eW (b9 l) aX)):=abS h hv (aaU hA.n) (λhf=>PE hA.a.tm hf);obtain⟨c,hc⟩:∃c,c=xN (bO l).nodes (bO l).vars.length (eW (b9 l) aX):=⟨_,rfl⟩;obtain⟨c',CN⟩:∃c',c'=xN (bO l').nodes (bO l').vars.length (eW (b9 l') aX):=⟨_,rfl⟩;obtain⟨S,LZ⟩:∃S,S=tM (bO l).nodes (bO l).vars.length (eW (b9 l) aX):=⟨_,rfl⟩;rw[<-hc]at hS hB;rw[<-LZ]at hS hB hH hK;have fZ:c.nds=(bO l).nodes:=by rw[hc];rfl
 have ZY:c'.nds=(bO l').nodes:=by rw[CN];rfl
 have hP:Ww (Ew m (bO l).vars.length) m (bO l).nodes.length c c' S:=⟨hr,by rw[fZ],by rw[ZY,Xn],by rw[hc,CN];exact hhd,by rw[fZ,ZY];exact c9,by rw[fZ];exact hA.n,by rw[ZY];exact hA'.n,hS.cl,hS.td,hK,hH⟩;have hz:jZ (Ew m (bO l).vars.length) m (bO l).nodes.length S (kL (bO l').nodes):=by
  refine⟨by rw[<-Xn];exact uq _,λn e he=>by rw[Bl]at he;simp at he,λn k _=>?_⟩;unfold Cw kL;simp only[getD_eq_getElem?_getD,getElem?_replicate];split
  .simp only[Option.getD_some,getElem?_replicate];split <;> rfl
  .rfl
 have hE:jZ (Ew m (bO l).vars.length) m (bO l).nodes.length S (er c' 4000 (bO l').vars.length (eW (b9 l') aX) (kL (bO l').nodes)):=by
  unfold er;split
  .exact hz
  .rename_i kH;have ry:eE (bf (eW (b9 l') aX))=false:=(by simpa using kH);have hf:eE (bf (eW (b9 l) aX))=false:=(by rw[qc]at ry;exact To ry);have OO:=gE (jz hA'.a.tm ry) (bO l').vars.length;have eP:=gE (jz hA.a.tm hf) (bO l).vars.length;refine MV hP hA.p hz ⟨OO.tidy,PE hA'.a.tm ry,aZ (oO (bf (eW (b9 l) aX)) (bO l).vars.length),eP.td,zJ hH eP.td (hB hf),?_,hB hf⟩;obtain⟨val,X,hem⟩:=SV hm sQ hA.a.tm hT hf;rw[<-qc,<-BT]at hem;exact hem.emt hr OO eP
 have rW:=Jk (fuel:=4000) hP 1000000 hE;have Xy:=rW.vd;rw[CN]at Xy;exact Xy
theorem a6{x k:ByteArray}:aW x k=true↔x=k:=by
 constructor
 .intro h;have h1:x.toList=k.toList:=by simpa[aW] using h
  rw[ByteArray.toList_eq,ByteArray.toList_eq]at h1;obtain⟨⟨a⟩⟩:=x;obtain⟨⟨b⟩⟩:=k;simp only at h1;rw[h1]
 .rintro rfl;simp[aW]
theorem bB{x k:ByteArray}(h:x≠k):aW x k=false:=by
 cases hk:aW x k with
 |false=>rfl
 |true=>exact absurd (a6.1 hk) h
theorem aR(k:ByteArray):aW k k=true:=a6.2 rfl
theorem eJ{x k:ByteArray}(h:aF x=true)(hk:aF k=false):x≠k:=by
 rintro rfl;rw[h]at hk;cases hk
theorem am{x k:ByteArray}(h:x.data.toList≠k.data.toList):x≠k:=λe=>h (by rw[e])
theorem nB{r q:List ByteArray}:B0 r=some q↔∃x,aF x=true/\r=x::q:=by
 cases r with
 |nil=>simp[B0]
 |cons y r =>
  show(if aF y=true then some r else none)=some q↔_;by_cases h:aF y=true
  .rw[if_pos h];exact⟨λe=>by cases e;exact⟨y,h,rfl⟩,λ⟨x,_,e⟩=>by cases e;rfl⟩
  .rw[if_neg h];exact⟨λe=>(by cases e),λ⟨x,hx,e⟩=>by cases e;exact absurd hx h⟩
theorem om{r q:List ByteArray}:kK r=some q↔∃x,(x=bZ\/aF x=true)/\r=x::q:=by
 cases r with
 |nil=>simp[kK,gW,B0]
 |cons y r =>
  show(if aW y bZ=true then some r else B0 (y::r))=some q↔_;by_cases h:aW y bZ=true
  .rw[if_pos h];exact⟨λe=>by cases e;exact⟨y,zq0 (a6.1 h),rfl⟩,λ⟨x,_,e⟩=>by cases e;rfl⟩
  .rw[if_neg h,nB];constructor
   .rintro⟨x,hx,e⟩;exact⟨x,zq1 hx,e⟩
   .rintro⟨x,hx|hx,e⟩
    .cases e;exact absurd (a6.2 hx) h
    .exact⟨x,hx,e⟩
theorem fS{k:ByteArray}{r q:List ByteArray}:lK k r=some q↔r=k::q:=by
 rw[jO];exact⟨λ⟨x,hx,e⟩=>by rw[e,a6.1 hx],λe=>⟨k,aR k,e⟩⟩
theorem qW(k:ByteArray)(q:List ByteArray):lK k (k::q)=some q:=fS.2 rfl
theorem yY{r q:List ByteArray}:Le r=some q↔∃x,(x=bW\/x=kJ)/\r=x::q:=by
 cases r with
 |nil=>simp[Le,gW,lK]
 |cons y r =>
  show(if aW y kJ=true then some r else lK bW (y::r))=some q↔_;by_cases h:aW y kJ=true
  .rw[if_pos h];exact⟨λe=>by cases e;exact⟨y,zq1 (a6.1 h),rfl⟩,λ⟨x,_,e⟩=>by cases e;rfl⟩
  .rw[if_neg h,fS];constructor
   .intro e;exact⟨bW,zq0 rfl,e⟩
   .rintro⟨x,hx|hx,e⟩
    .rw[e,hx]
    .cases e;exact absurd (a6.2 hx) h
def px(l:List ByteArray):Prop :=
 ∀R:List ByteArray->Prop,R [aQ]->(∀{a b c:ByteArray},aF a=true->(b=bW\/b=kJ)->(c=bZ\/aF c=true)->R [a,b,c])->R l
theorem px.star:px [aQ]:=λ_ h _=>h
theorem px.two{a b c:ByteArray}(ha:aF a=true)(hb:b=bW\/b=kJ)(hc:c=bZ\/aF c=true):px [a,b,c]:=λ_ _ h=>h ha hb hc
theorem px.ind {motive:(l:List ByteArray)->px l->Prop} (star:motive [aQ] px.star)
  (two:∀{a b c:ByteArray} (ha:aF a=true) (hb:b=bW\/b=kJ) (hc:c=bZ\/aF c=true),motive [a,b,c] (px.two ha hb hc)) {l:List ByteArray} (h:px l):motive l h:=by
 obtain⟨_,h2⟩:=h (λl=>∃h,motive l h) ⟨_,star⟩ (λha hb hc=>⟨_,two ha hb hc⟩);exact h2
theorem ai0{l:List ByteArray}:rcB l=true↔px l:=by
 constructor
 .intro h;match l,h with
  |[a],h=>rw[a6.1 (show aW a aQ=true from h)];exact px.star
  |[a,b,c],h =>
   simp only[rcB,Bool.and_eq_true,Bool.or_eq_true,a6]at h;exact px.two h.1.1 h.2 (h.1.2.symm)
 .intro h;cases h using px.ind with
  |star=>exact aR _
  |two ha hb hc=>simp only[rcB,Bool.and_eq_true,Bool.or_eq_true,a6];exact⟨⟨ha,hc.symm⟩,hb⟩
theorem Dr{r q:List ByteArray}:pCo r=some q↔∃c,px c/\r=c++q:=by
 constructor
 .intro h;cases r with
  |nil=>simp[pCo,gW,B0]at h
  |cons y r =>
   change (if aW y aQ=true then some r else ((B0 (y::r)).bind Le).bind kK)=some q at h
   by_cases h1:aW y aQ=true
   .rw[if_pos h1]at h;cases h;rw[a6.1 h1];exact⟨_,px.star,rfl⟩
   .rw[if_neg h1]at h;obtain⟨r2,h,h3⟩:=Option.bind_eq_some_iff.1 h;obtain⟨r1,h1,h2⟩:=Option.bind_eq_some_iff.1 h;obtain⟨a,ha,e⟩:=nB.1 h1;obtain⟨b,hb,rfl⟩:=yY.1 h2;obtain⟨c,hc,rfl⟩:=om.1 h3;exact⟨_,px.two ha hb hc,e⟩
 .rintro⟨c,hc,rfl⟩;cases hc using px.ind with
  |star=>show(if aW aQ aQ=true then some q else _)=some q;rw[if_pos (aR _)]
  |@two a b c ha hb hc =>
   show(if aW a aQ=true then some (b::c::q) else ((B0 (a::b::c::q)).bind Le).bind kK)=some q;rw[if_neg (by rw[bB (eJ ha rfl)];simp),nB.2 ⟨a,ha,rfl⟩,Option.bind_some,yY.2 ⟨b,hb,rfl⟩,Option.bind_some,om.2 ⟨c,hc,rfl⟩]
theorem Dv{r q:List ByteArray}:pTs r=some q↔∃c,px c/\r=ug::(c++sG::q):=by
 constructor
 .intro h;unfold pTs at h;obtain⟨r2,h,h3⟩:=Option.bind_eq_some_iff.1 h;obtain⟨r1,h1,h2⟩:=Option.bind_eq_some_iff.1 h;obtain⟨c,hc,rfl⟩:=Dr.1 h2;have e3:=fS.1 h3;subst e3;exact⟨c,hc,fS.1 h1⟩
 .rintro⟨c,hc,rfl⟩;show((lK ug (ug::(c++sG::q))).bind pCo).bind (lK sG)=some q;rw[qW,Option.bind_some,Dr.2 ⟨c,hc,rfl⟩,Option.bind_some,qW]
def mB(l:List ByteArray):Prop :=
 ∀R:List ByteArray->Prop,R [gh]->(∀{b:ByteArray},aF b=true->R [fW,b])->(∀{a c:ByteArray},aF a=true->(c=mb\/c=bZ\/aF c=true)->R [a,bW,c]) ->
  (∀{a c:ByteArray},aF a=true->aF c=true->R [a,bW,c,a8,nW])->(∀{a e:ByteArray},aF a=true->(e=bZ\/aF e=true)->R [a,a8,nW,bW,e])->R l
theorem mB.skip:mB [gh]:=λ_ h _ _ _ _=>h
theorem mB.free{b:ByteArray}(hb:aF b=true):mB [fW,b]:=λ_ _ h _ _ _=>h hb
theorem mB.val{a c:ByteArray}(ha:aF a=true)(hc:c=mb\/c=bZ\/aF c=true):mB [a,bW,c]:=λ_ _ _ h _ _=>h ha hc
theorem mB.load{a c:ByteArray}(ha:aF a=true)(hc:aF c=true):mB [a,bW,c,a8,nW]:=λ_ _ _ _ h _=>h ha hc
theorem mB.store{a e:ByteArray}(ha:aF a=true)(he:e=bZ\/aF e=true):mB [a,a8,nW,bW,e]:=λ_ _ _ _ _ h=>h ha he
theorem mB.ind {motive:(l:List ByteArray)->mB l->Prop} (skip:motive [gh] mB.skip) (free:∀{b:ByteArray} (hb:aF b=true),motive [fW,b] (mB.free hb))
  (val:∀{a c:ByteArray} (ha:aF a=true) (hc:c=mb\/c=bZ\/aF c=true),motive [a,bW,c] (mB.val ha hc)) (load:∀{a c:ByteArray} (ha:aF a=true) (hc:aF c=true),motive [a,bW,c,a8,nW] (mB.load ha hc))
  (store:∀{a e:ByteArray} (ha:aF a=true) (he:e=bZ\/aF e=true),motive [a,a8,nW,bW,e] (mB.store ha he)) {l:List ByteArray} (h:mB l):motive l h:=by
 obtain⟨_,h2⟩:=h (λl=>∃h,motive l h) ⟨_,skip⟩ (λhb=>⟨_,free hb⟩) (λha hc=>⟨_,val ha hc⟩) (λha hc=>⟨_,load ha hc⟩) (λha he=>⟨_,store ha he⟩);exact h2
theorem Y0:aW a8 bW=false:=bB (am (by simp[a8,bW]))
theorem Qg{r q:List ByteArray}(h:(pAs r).bind (lK su)=some q):(∃c,(c=mb\/c=bZ\/aF c=true)/\r=c::su::q)\/∃c,aF c=true/\r=c::a8::nW::su::q:=by
 cases r with
 |nil=>simp[pAs,gW,kK,B0]at h
 |cons c r =>
  obtain⟨r1,h1,h2⟩:=Option.bind_eq_some_iff.1 h;have e2:=fS.1 h2;change (if aW c mb=true then some r else if (!(aW c bZ)&&(match kK (c::r) with|some q=>gW a8 q|none=>false))=true then (kK (c::r)).bind (λq=>lK nW q.tail) else kK (c::r))=some r1 at h1
  by_cases hn:aW c mb=true
  .rw[if_pos hn]at h1;cases h1;exact zq0 ⟨c,zq0 (a6.1 hn),by rw[e2]⟩
  .rw[if_neg hn]at h1;cases hp:kK (c::r) with
   |none=>rw[hp]at h1;simp at h1
   |some r2 =>
    obtain⟨x,hx,e⟩:=om.1 hp;cases e
    rw[hp]at h1;dsimp only at h1;by_cases hd:(!(aW c bZ)&&gW a8 r)=true
    .rw[if_pos hd]at h1;simp only[Option.bind_some]at h1;have e1:=fS.1 h1;rw[e2]at e1;simp only[Bool.and_eq_true,Bool.not_eq_true']at hd;right;refine⟨c,?_,?_⟩
     .rcases hx with rfl|hx
      .rw[aR]at hd;cases hd.1
      .exact hx
     .cases r with
      |nil=>cases hd.2
      |cons y r=>rw[a6.1 (show aW y a8=true from hd.2)];simp only[tail_cons]at e1;rw[e1]
    .rw[if_neg hd]at h1;cases h1
     exact zq0 ⟨c,zq1 hx,by rw[e2]⟩
theorem Gu{r q:List ByteArray}(h:(pSi r).bind (lK je)=some q):∃p,mB p/\r=p++su::q:=by
 cases r with
 |nil=>simp[pSi,gW,B0]at h
 |cons a r =>
  obtain⟨r1,h1,h2⟩:=Option.bind_eq_some_iff.1 h;have e2:r1=su::q:=fS.1 h2;change (if aW a gh=true then some r else if aW a fW=true then B0 r else (B0 (a::r)).bind Vf)=some r1 at h1
  by_cases hs:aW a gh=true
  .rw[if_pos hs]at h1;cases h1;rw[a6.1 hs,e2];exact⟨_,mB.skip,rfl⟩
  .rw[if_neg hs]at h1;by_cases hf:aW a fW=true
   .rw[if_pos hf]at h1;obtain⟨b,hb,rfl⟩:=nB.1 h1;rw[a6.1 hf,e2];exact⟨_,mB.free hb,rfl⟩
   .rw[if_neg hf]at h1;obtain⟨r2,h3,h4⟩:=Option.bind_eq_some_iff.1 h1;obtain⟨x,ha,e⟩:=nB.1 h3;cases e
    cases r with
    |nil=>simp[Vf,gW,lK]at h4
    |cons b r =>
     change (if aW b a8=true then (((lK nW r).bind (lK bW)).bind kK) else (lK bW (b::r)).bind pAs)=some r1 at h4
     by_cases hd:aW b a8=true
     .rw[if_pos hd]at h4;obtain⟨r3,h5,h6⟩:=Option.bind_eq_some_iff.1 h4;obtain⟨r4,h7,h8⟩:=Option.bind_eq_some_iff.1 h5;obtain⟨e,he,rfl⟩:=om.1 h6;have e7:=fS.1 h7;have e8:=fS.1 h8;subst e8;subst e7;rw[a6.1 hd,e2];exact⟨_,mB.store ha he,rfl⟩
     .rw[if_neg hd]at h4;obtain⟨r3,h5,h6⟩:=Option.bind_eq_some_iff.1 h4;have e5:=fS.1 h5;cases e5
      have h7:(pAs r).bind (lK su)=some q:=(by rw[h6,Option.bind_some];exact fS.2 e2);rcases Qg h7 with⟨c,hc,rfl⟩|⟨c,hc,rfl⟩
      .exact⟨_,mB.val ha hc,rfl⟩
      .exact⟨_,mB.load ha hc,rfl⟩
theorem QR:aW su a8=false:=bB (am (by simp[a8,su]))
theorem Hm:aW bW a8=false:=bB (am (by simp[a8,bW]))
theorem U7:aW bZ mb=false:=bB (am (by simp[bZ,mb]))
theorem Kg:aW fW gh=false:=bB (am (by simp[fW,gh]))
def iV(l:List ByteArray)(k:Nat):Prop :=
 ∀R:List ByteArray->Nat->Prop,R [] 0->(∀{p r:List ByteArray} {k:Nat},mB p->R r k->R (p++su::r) (k+1)) ->
  (∀{c b r:List ByteArray} {j k:Nat},px c->R b j->R r k->R (yg::ug::(c++sG::dR::(b++fE::r))) (j+2+k))->(∀{c b r:List ByteArray} {j k:Nat},px c->R b j->R r k->R (sT::ug::(c++sG::dR::(b++fE::r))) (j+1+k)) ->
  (∀{c b d r:List ByteArray} {j i k:Nat},px c->R b j->R d i->R r k->R (sT::ug::(c++sG::dR::(b++fE::tR::dR::(d++fE::r)))) (j+2+i+k))->R l k
theorem iV.nil:iV [] 0:=λ_ h _ _ _ _=>h
theorem iV.sim{p r:List ByteArray}{k:Nat}(hp:mB p)(hr:iV r k):iV (p++su::r) (k+1):=λR h1 h2 h3 h4 h5=>h2 hp (hr R h1 h2 h3 h4 h5)
theorem iV.whl{c b r:List ByteArray}{j k:Nat}(hc:px c)(hb:iV b j)(hr:iV r k):iV (yg::ug::(c++sG::dR::(b++fE::r))) (j+2+k):=λR h1 h2 h3 h4 h5=>h3 hc (hb R h1 h2 h3 h4 h5) (hr R h1 h2 h3 h4 h5)
theorem iV.ife{c b r:List ByteArray}{j k:Nat}(hc:px c)(hb:iV b j)(hr:iV r k):iV (sT::ug::(c++sG::dR::(b++fE::r))) (j+1+k):=λR h1 h2 h3 h4 h5=>h4 hc (hb R h1 h2 h3 h4 h5) (hr R h1 h2 h3 h4 h5)
theorem iV.ifl{c b d r:List ByteArray}{j i k:Nat}(hc:px c)(hb:iV b j)(hd:iV d i)(hr:iV r k):iV (sT::ug::(c++sG::dR::(b++fE::tR::dR::(d++fE::r)))) (j+2+i+k):=λR h1 h2 h3 h4 h5=>h5 hc (hb R h1 h2 h3 h4 h5) (hd R h1 h2 h3 h4 h5) (hr R h1 h2 h3 h4 h5)
theorem iV.ind {motive:(l:List ByteArray)->(k:Nat)->iV l k->Prop} (nil:motive [] 0 iV.nil) (sim:∀{p r:List ByteArray} {k:Nat} (hp:mB p) (hr:iV r k),motive r k hr->motive _ _ (iV.sim hp hr))
  (whl:∀{c b r:List ByteArray} {j k:Nat} (hc:px c) (hb:iV b j) (hr:iV r k),motive b j hb->motive r k hr->motive _ _ (iV.whl hc hb hr))
  (ife:∀{c b r:List ByteArray} {j k:Nat} (hc:px c) (hb:iV b j) (hr:iV r k),motive b j hb->motive r k hr->motive _ _ (iV.ife hc hb hr))
  (ifl:∀{c b d r:List ByteArray} {j i k:Nat} (hc:px c) (hb:iV b j) (hd:iV d i) (hr:iV r k),motive b j hb->motive d i hd->motive r k hr->motive _ _ (iV.ifl hc hb hd hr))
  {l:List ByteArray} {k:Nat} (h:iV l k):motive l k h:=by
 obtain⟨_,h2⟩:=h (λl k=>∃h,motive l k h) ⟨_,nil⟩ (λhp ⟨hr,ih⟩=>⟨_,sim hp hr ih⟩) (λhc ⟨hb,ib⟩ ⟨hr,ir⟩=>⟨_,whl hc hb hr ib ir⟩) (λhc ⟨hb,ib⟩ ⟨hr,ir⟩=>⟨_,ife hc hb hr ib ir⟩) (λhc ⟨hb,ib⟩ ⟨hd,id⟩ ⟨hr,ir⟩=>⟨_,ifl hc hb hd hr ib id ir⟩);exact h2
theorem dX{f g:List ByteArray->Option (List ByteArray × Nat)}{r p:List ByteArray}{n:Nat}:DQ f g r=some (p,n)↔∃q k j,f r=some (q,k)/\g q=some (p,j)/\n=k+j:=by
 unfold DQ;cases hf:f r with
 |none=>simp
 |some qk =>
  obtain⟨q,k⟩:=qk;dsimp only;cases hg:g q with
  |none =>
   constructor
   .intro h;cases h
   .rintro⟨q',k',j,e,h,_⟩;cases e;rw[hg]at h;cases h
  |some pj =>
   obtain⟨p',j⟩:=pj;constructor
   .intro h;cases h;exact⟨q,k,j,rfl,hg,rfl⟩
   .rintro⟨q',k',j',e,h,rfl⟩;cases e;rw[hg]at h;cases h;rfl
theorem n8{f:List ByteArray->Option (List ByteArray)}{r p:List ByteArray}{n:Nat}:n0 f r=some (p,n)↔f r=some p/\n=0:=by
 unfold n0;cases f r with
 |none=>simp
 |some q=>simp only[Option.map_some,Option.some.injEq,Prod.mk.injEq];exact⟨λh=>⟨h.1,h.2.symm⟩,λh=>⟨h.1,h.2.symm⟩⟩
theorem AL{f:List ByteArray->Option (List ByteArray)}{r p:List ByteArray}{n:Nat}:n1 f r=some (p,n)↔f r=some p/\n=1:=by
 unfold n1;cases f r with
 |none=>simp
 |some q=>simp only[Option.map_some,Option.some.injEq,Prod.mk.injEq];exact⟨λh=>⟨h.1,h.2.symm⟩,λh=>⟨h.1,h.2.symm⟩⟩
theorem CO{k:ByteArray}{r:List ByteArray}(h:gW k r=true):r=k::r.tail:=by
 cases r with
 |nil=>cases h
 |cons x r=>rw[a6.1 (show aW x k=true from h)];rfl
theorem Ds{k:ByteArray}{pb:List ByteArray->Option (List ByteArray × Nat)}{r q:List ByteArray}{n:Nat}:
  pHd k pb r=some (q,n)↔∃c t j,px c/\r=k::ug::(c++sG::t)/\pb t=some (q,j)/\n=1+j:=by
 unfold pHd;rw[dX];constructor
 .rintro⟨t,a,j,h1,h2,rfl⟩;obtain⟨s,a1,a2,h3,h4,rfl⟩:=dX.1 h1;obtain⟨h5,rfl⟩:=n8.1 h3;obtain⟨h6,rfl⟩:=AL.1 h4;obtain⟨c,hc,rfl⟩:=Dv.1 h6;exact⟨c,t,j,hc,fS.1 h5,h2,by omega⟩
 .rintro⟨c,t,j,hc,rfl,h2,rfl⟩;exact⟨t,0+1,j,dX.2 ⟨_,0,1,n8.2 ⟨qW _ _,rfl⟩,AL.2 ⟨Dv.2 ⟨c,hc,rfl⟩,rfl⟩,rfl⟩,h2,by omega⟩
def BlR(r q:List ByteArray)(k:Nat):Prop:=∃b,iV b k/\r=dR::(b++fE::q)
theorem Nn{pb:List ByteArray->Option (List ByteArray × Nat)}{f:Nat}(hb:∀r q k,r.length<f->pb r=some (q,k)->BlR r q k)(n:Nat):
  ∀r q k,r.length<f->pCs (pCm pb) n r=some (q,k)->∃b,iV b k/\r=b++q:=by
 induction n with
 |zero=>intro r q k _ h;cases h;exact⟨[],iV.nil,rfl⟩
 |succ n ih =>
  intro r q k hr h;simp only[pCs]at h;by_cases h1:gW kU r=true
  .rw[if_pos h1]at h;cases h;exact⟨[],iV.nil,rfl⟩
  .rw[if_neg h1]at h;obtain⟨t,a,j,h2,h3,rfl⟩:=dX.1 h;unfold pCm at h2;by_cases hi:gW mu r=true
   .rw[if_pos hi]at h2;obtain⟨u,a1,a2,h4,h5,rfl⟩:=dX.1 h2;obtain⟨c,v,j1,hc,rfl,h6,rfl⟩:=Ds.1 h4;have hv:v.length<f:=(by simp only[length_cons,length_append]at hr;omega);obtain⟨b,hB,rfl⟩:=hb _ _ _ hv h6;unfold pEl at h5;by_cases he:gW iK u=true
    .rw[if_pos he]at h5;obtain⟨u1,b1,b2,h7,h8,rfl⟩:=dX.1 h5;cases h7
     have hu:=CO he;rw[hu]at hr hv ⊢;obtain⟨d,hD,e8⟩:=hb _ _ _ (by simp only[length_cons,length_append]at hv;omega) h8;rw[e8]at hr ⊢;obtain⟨z,hZ,rfl⟩:=ih _ _ _ (by simp only[length_cons,length_append]at hr;omega) h3;have hK:=iV.ifl hc hB hD hZ;rw[show j1+2+b2+j=1+j1+(1+b2)+j by omega]at hK;exact⟨_,hK,by simp[show mu=sT from rfl,show iK=tR from rfl]⟩
    .rw[if_neg he]at h5;cases h5
     obtain⟨z,hZ,rfl⟩:=ih _ _ _ (by simp only[length_cons,length_append]at hr;omega) h3;have hK:=iV.ife hc hB hZ;rw[show j1+1+j=1+j1+0+j by omega]at hK;exact⟨_,hK,by simp[show mu=sT from rfl]⟩
   .rw[if_neg hi]at h2;by_cases hw:gW bY r=true
    .rw[if_pos hw]at h2;obtain⟨u,a1,a2,h4,h5,rfl⟩:=dX.1 h2;obtain⟨c,v,j1,hc,rfl,h6,rfl⟩:=Ds.1 h4;have hv:v.length<f:=(by simp only[length_cons,length_append]at hr;omega);obtain⟨b,hB,rfl⟩:=hb _ _ _ hv h6;cases h5
     obtain⟨z,hZ,rfl⟩:=ih _ _ _ (by simp only[length_cons,length_append]at hr;omega) h3;have hK:=iV.whl hc hB hZ;rw[show j1+2+j=1+j1+1+j by omega]at hK;exact⟨_,hK,by simp[show bY=yg from rfl]⟩
    .rw[if_neg hw]at h2;obtain⟨h4,rfl⟩:=AL.1 h2;obtain⟨p,hp,rfl⟩:=Gu h4;obtain⟨z,hZ,rfl⟩:=ih _ _ _ (by simp only[length_cons,length_append]at hr;omega) h3;have hK:=iV.sim hp hZ;rw[show j+1=1+j by omega]at hK;exact⟨_,hK,by simp⟩
theorem M4(N:Nat)(f:Nat):∀r q k,r.length<f->pBl N f r=some (q,k)->BlR r q k:=by
 induction f with
 |zero=>intro r q k h;omega
 |succ f ih =>
  intro r q k hr h;simp only[pBl]at h;obtain⟨t,a1,a2,h1,h2,rfl⟩:=dX.1 h;obtain⟨u,b1,b2,h3,h4,rfl⟩:=dX.1 h1;obtain⟨h5,rfl⟩:=n8.1 h3;obtain⟨h6,rfl⟩:=n8.1 h2;have e3:=fS.1 h5;have e2:=fS.1 h6;subst e3;obtain⟨b,hB,rfl⟩:=Nn ih N u t b2 (by simp only[length_cons]at hr;omega) h4;subst e2;exact⟨b,by rw[show 0+b2+0=b2 by omega];exact hB,rfl⟩
theorem um{p:List ByteArray}(h:mB p){k:ByteArray}(h1:k≠gh)(h2:k≠fW)(h3:k≠bW)(h4:k≠mb)(h5:k≠bZ)(h6:k≠a8)(h7:k≠nW)(h8:aF k=false):∀x∈p,x≠k:=by
 intro x hx;cases h using mB.ind with
 |skip=>simp only[mem_cons,not_mem_nil,or_false]at hx;subst hx;exact h1.symm
 |free hb =>
  simp only[mem_cons,not_mem_nil,or_false]at hx;rcases hx with rfl|rfl
  .exact h2.symm
  .exact eJ hb h8
 |val ha hc =>
  simp only[mem_cons,not_mem_nil,or_false]at hx;rcases hx with rfl|rfl|rfl
  .exact eJ ha h8
  .exact h3.symm
  .rcases hc with rfl|rfl|hc
   .exact h4.symm
   .exact h5.symm
   .exact eJ hc h8
 |load ha hc =>
  simp only[mem_cons,not_mem_nil,or_false]at hx;rcases hx with rfl|rfl|rfl|rfl|rfl
  .exact eJ ha h8
  .exact h3.symm
  .exact eJ hc h8
  .exact h6.symm
  .exact h7.symm
 |store ha hc =>
  simp only[mem_cons,not_mem_nil,or_false]at hx;rcases hx with rfl|rfl|rfl|rfl|rfl
  .exact eJ ha h8
  .exact h6.symm
  .exact h7.symm
  .exact h3.symm
  .rcases hc with rfl|hc
   .exact h5.symm
   .exact eJ hc h8
theorem ab2{p:List ByteArray}(h:mB p):∀x∈p,x≠fE:=um h (am (by simp[fE,gh])) (am (by simp[fE,fW])) (am (by simp[fE,bW])) (am (by simp[fE,mb])) (am (by simp[fE,bZ])) (am (by simp[fE,a8])) (am (by simp[fE,nW])) rfl
theorem ab1{p:List ByteArray}(h:mB p):∀x∈p,x≠sT:=um h (am (by simp[sT,gh])) (am (by simp[sT,fW])) (am (by simp[sT,bW])) (am (by simp[sT,mb])) (am (by simp[sT,bZ])) (am (by simp[sT,a8])) (am (by simp[sT,nW])) rfl
theorem ab3{p:List ByteArray}(h:mB p):∀x∈p,x≠yg:=um h (am (by simp[yg,gh])) (am (by simp[yg,fW])) (am (by simp[yg,bW])) (am (by simp[yg,mb])) (am (by simp[yg,bZ])) (am (by simp[yg,a8])) (am (by simp[yg,nW])) rfl
theorem ab0{p:List ByteArray}(h:mB p):∀x∈p,x≠tR:=um h (am (by simp[tR,gh])) (am (by simp[tR,fW])) (am (by simp[tR,bW])) (am (by simp[tR,mb])) (am (by simp[tR,bZ])) (am (by simp[tR,a8])) (am (by simp[tR,nW])) rfl
theorem ww{p:List ByteArray}(h:mB p):∃x t,p=x::t:=by cases h using mB.ind <;> exact⟨_,_,rfl⟩
theorem ahw:aW yg sT=false:=bB (am (by simp[yg,sT]))
theorem XC:aW sT tR=false:=bB (am (by simp[tR,sT]))
theorem ahv:aW yg tR=false:=bB (am (by simp[tR,yg]))
theorem DB:aW fE tR=false:=bB (am (by simp[tR,fE]))
theorem YO{b:List ByteArray}{k:Nat}(h:iV b k){q:List ByteArray}(hq:gW tR q=false):gW tR (b++q)=false:=by
 induction h using iV.ind with
 |nil=>exact hq
 |sim hp _ =>
  obtain⟨x,t,rfl⟩:=ww hp;exact bB (ab0 hp x (by simp))
 |whl=>exact ahv
 |ife=>exact XC
 |ifl=>exact XC
theorem ahu:yg≠fE:=am (by simp[yg,fE])
theorem XB:sT≠fE:=am (by simp[sT,fE])
def lG(l:List ByteArray):Prop :=
 ∀R:List ByteArray->Prop,(∀{p:List ByteArray},ss p=true->R p)->(∀{p r:List ByteArray},ss p=true->R r->R (p++aQ::r))->R l
theorem lG.one{p:List ByteArray}(hp:ss p=true):lG p:=λ_ h _=>h hp
theorem lG.more{p r:List ByteArray}(hp:ss p=true)(hr:lG r):lG (p++aQ::r):=λR h1 h2=>h2 hp (hr R h1 h2)
theorem lG.ind{motive:(l:List ByteArray)->lG l->Prop}(one:∀{p:List ByteArray} (hp:ss p=true),motive p (lG.one hp))(more:∀{p r:List ByteArray} (hp:ss p=true) (hr:lG r),motive r hr->motive _ (lG.more hp hr)){l:List ByteArray}(h:lG l):motive l h:=by
 obtain⟨_,h2⟩:=h (λl=>∃h,motive l h) (λhp=>⟨_,one hp⟩) (λhp ⟨hr,ih⟩=>⟨_,more hp hr ih⟩);exact h2
theorem Rc{x k:ByteArray}(h:kW x=true)(hk:kW k=false):x≠k:=by
 rintro rfl;rw[h]at hk;cases hk
theorem lw{x k:ByteArray}(h:gf x=true)(h1:k≠bZ)(h2:aF k=false)(h3:kW k=false):x≠k:=by
 simp only[gf,Bool.or_eq_true,a6]at h;rcases h with(rfl|h)|h
 .exact h1.symm
 .exact eJ h h2
 .exact Rc h h3
theorem Cg{p:List ByteArray}(h:ss p=true){k:ByteArray}(h1:k≠qq)(h2:k≠Eq)(h3:k≠ug)(h4:k≠WF)(h5:k≠sG)(h6:k≠bW)(h7:k≠kJ)(h8:k≠B4)(h9:k≠bZ)(hl:aF k=false)(hu:kW k=false):∀x∈p,x≠k:=by
 intro x hx;match p,h with
 |[a],h =>
  have e:=a6.1 (show aW a qq=true from h);simp only[mem_cons,not_mem_nil,or_false]at hx;subst hx;subst e;exact h1.symm
 |[a,b,c],h =>
  simp only[ss,Bool.and_eq_true,Bool.or_eq_true,a6]at h;obtain⟨⟨ha,hc⟩,hb⟩:=h;simp only[mem_cons,not_mem_nil,or_false]at hx;rcases hx with rfl|rfl|rfl
  .exact lw ha h9 hl hu
  .rcases hb with(rfl|rfl)|rfl
   .exact h6.symm
   .exact h7.symm
   .exact h8.symm
  .exact lw hc h9 hl hu
 |[a,b,c,d,e,f],h =>
  simp only[ss,Bool.and_eq_true,a6]at h;obtain⟨⟨⟨⟨rfl,rfl⟩,rfl⟩,rfl⟩,hc,he⟩:=h;simp only[mem_cons,not_mem_nil,or_false]at hx;rcases hx with rfl|rfl|rfl|rfl|rfl|rfl
  .exact h2.symm
  .exact h3.symm
  .exact lw hc h9 hl hu
  .exact h4.symm
  .exact lw he h9 hl hu
  .exact h5.symm
theorem nP{p:List ByteArray}(h:ss p=true):∀x∈p,x≠aQ :=
 Cg h (am (by simp[aQ,qq])) (am (by simp[aQ,Eq])) (am (by simp[aQ,ug])) (am (by simp[aQ,WF])) (am (by simp[aQ,sG])) (am (by simp[aQ,bW])) (am (by simp[aQ,kJ])) (am (by simp[aQ,B4])) (am (by simp[aQ,bZ])) rfl rfl
theorem G6{p:List ByteArray}(h:ss p=true):∀x∈p,x≠dR :=
 Cg h (am (by simp[dR,qq])) (am (by simp[dR,Eq])) (am (by simp[dR,ug])) (am (by simp[dR,WF])) (am (by simp[dR,sG])) (am (by simp[dR,bW])) (am (by simp[dR,kJ])) (am (by simp[dR,B4])) (am (by simp[dR,bZ])) rfl rfl
theorem WK{f:List ByteArray}(h:lG f):∀x∈f,x≠dR:=by
 induction h using lG.ind with
 |one h=>exact G6 h
 |more h _ ih =>
  intro x hx;simp only[mem_append,mem_cons]at hx;rcases hx with hx|rfl|hx
  .exact G6 h x hx
  .exact am (by simp[aQ,dR])
  .exact ih x hx
theorem Ka(n:Nat):∀{r q:List ByteArray},Lf n r=some q->r=q\/∃f,lG f/\r=aQ::(f++q):=by
 induction n with
 |zero=>intro r q h;cases h;exact zq0 rfl
 |succ n ih =>
  intro r q h;simp only[Lf]at h;by_cases h1:gW dq r=true
  .rw[if_pos h1]at h;obtain⟨t,h2,h3⟩:=Option.bind_eq_some_iff.1 h;obtain⟨p,hp,e⟩:=jN.1 h2;have e1:r=aQ::r.tail:=CO h1;right;rcases ih h3 with rfl|⟨f,hf,rfl⟩
   .exact⟨p,lG.one hp,by rw[e1,e]⟩
   .exact⟨_,lG.more hp hf,by rw[e1,e];simp⟩
  .rw[if_neg h1]at h;cases h;exact zq0 rfl
theorem Kb{n:Nat}{r q:List ByteArray}(h:Lg n r=some q):∃f,lG f/\r=f++q:=by
 obtain⟨t,h2,h3⟩:=Option.bind_eq_some_iff.1 h;obtain⟨p,hp,rfl⟩:=jN.1 h2;rcases Ka n h3 with rfl|⟨f,hf,rfl⟩
 .exact⟨p,lG.one hp,rfl⟩
 .exact⟨_,lG.more hp hf,by simp⟩
theorem zT{f:List ByteArray}(h:lG f):∀{n:Nat} {q:List ByteArray},f.length<=n->gW aQ q=false->Lg n (f++q)=some q:=by
 induction h using lG.ind with
 |one hp =>
  intro n q _ hq;unfold Lg;rw[jN.2 ⟨_,hp,rfl⟩,Option.bind_some];cases n with
  |zero=>rfl
  |succ n=>show(if gW aQ q=true then _ else some q)=_;rw[hq,if_neg (by simp)]
 |@more p r hp _ ih =>
  intro n q hn hq;simp only[length_append,length_cons]at hn;unfold Lg;rw[append_assoc,jN.2 ⟨_,hp,rfl⟩,Option.bind_some];cases n with
  |zero=>omega
  |succ n =>
   show(if aW aQ aQ=true then (pq (r++q)).bind (Lf n) else _)=_;rw[if_pos (aR _)];exact ih (by omega) hq
theorem uk{p:List ByteArray}(h:∀x∈p,x≠aQ):∀cur r,DD cur (p++r)=DD (cur++p) r:=by
 induction p with
 |nil=>intro cur r;rw[append_nil];rfl
 |cons x p ih =>
  intro cur r;show DD cur (x::(p++r))=_;simp only[DD];rw[bB (h x (by simp)),if_neg (by simp),ih (λy hy=>h y (by simp[hy])),append_assoc];rfl
def Pgm(ws:List ByteArray)(k:Nat):Prop:=∃f b,lG f/\iV b k/\ws=cV::(f++dR::(b++[fE]))
theorem Qt{ws:List ByteArray}{k:Nat}(h:pPr ws.length ws=some ([],k)):∃j,Pgm ws j/\k=j+1:=by
 unfold pPr at h;obtain⟨t,a1,a2,h1,h2,rfl⟩:=dX.1 h;obtain⟨u,b1,b2,h3,h4,rfl⟩:=dX.1 h1;obtain⟨v,c1,c2,h5,h6,rfl⟩:=dX.1 h3;obtain⟨h7,rfl⟩:=n8.1 h5;obtain⟨h8,rfl⟩:=n8.1 h6;cases h2
 have e7:ws=cV::v:=fS.1 h7;obtain⟨f,hf,e8⟩:=Kb h8;have hl:u.length<ws.length+1:=by rw[e7,e8];simp only[length_cons,length_append];omega
 obtain⟨b,hB,e9⟩:=M4 _ _ _ _ _ hl h4;exact⟨b2,⟨f,b,hf,hB,by rw[e7,e8,e9]⟩,by omega⟩
def bh(c:UInt8):ByteArray:=⟨#[c]⟩
theorem AB{x:ByteArray}(h:aF x=true):x=bh (BN x):=by
 obtain⟨⟨l⟩⟩:=x;match l,h with
 |[c],_=>rfl
theorem GB{x:ByteArray}(h:kW x=true):x=bh (BN x):=by
 obtain⟨⟨l⟩⟩:=x;match l,h with
 |[c],_=>rfl
theorem Tz(l:List UInt8)(c:UInt8):tj (l.map bh) (bh c)=plc l c:=by
 induction l with
 |nil=>rfl
 |cons a l ih =>
  show(if aW (bh a) (bh c)=true then 0 else tj (l.map bh) (bh c)+1)=if a=c then 0 else plc l c+1
  by_cases h:a=c
  .rw[if_pos h,if_pos (by rw[h];exact aR _)]
  .rw[if_neg h,if_neg,ih];intro e;have:=a6.1 e;simp only[bh,ByteArray.mk.injEq,Array.mk.injEq,List.cons.injEq,and_true]at this;exact h this
theorem GV(l:List UInt8)(c:UInt8):dl true (l.map bh) (bh c)=(put l c).map bh:=by
 have h1:=wg l c;unfold dl put amI;rw[Tz];simp only[length_map,Bool.true_and];by_cases h:plc l c=l.length
 .rw[if_pos h,if_pos (by rw[h];simp)];simp
 .rw[if_neg h,if_neg];rw[if_pos (by omega)];simp
def Bz(ws:List ByteArray)(s:PS):Prop :=
 s.failed=false->aeC ws s.pos=false/\R3 ws s.pos=s.vars.map bh/\RZ ws s.pos=s.hid.map bh
def dU(ws:List ByteArray)(F:PS->PS):Prop:=∀s,Bz ws s->Bz ws (F s)
theorem qF(ws:List ByteArray)(s:PS):Bz ws s.fail:=λh=>(by cases h)
theorem Dw{ws:List ByteArray}{s:PS}(h:s.failed=false):pk ws s=ws[s.pos]?.getD em:=by
 unfold pk;rw[if_neg (by simp[h])];rfl
theorem EI{ws:List ByteArray}{s:PS}{k:ByteArray}(h:bR ws k s=true):pk ws s=k:=a6.1 h
theorem XK{ws:List ByteArray}{n:Nat}(hl:aF (ws[n]?.getD em)=false)(hu:kW (ws[n]?.getD em)=false):R3 ws (n+1)=R3 ws n/\RZ ws (n+1)=RZ ws n:=by
 constructor
 .show dl (aF (ws[n]?.getD em)&&!aeC ws n) _ _=_;rw[hl];rfl
 .show dl (kW (ws[n]?.getD em)) _ _=_;rw[hu];rfl
theorem dG{ws:List ByteArray}{s:PS}{k:ByteArray}(h:Bz ws s)(ha:bR ws k s=true)(hl:aF k=false)(hu:kW k=false)(hd:k≠a8):Bz ws s.adv:=by
 intro hf;have ry:s.failed=false:=hf;have hk:=(Dw (ws:=ws) ry).symm.trans (EI ha);obtain⟨_,h2,h3⟩:=h ry;have hn:=XK (ws:=ws) (n:=s.pos) (by rw[hk];exact hl) (by rw[hk];exact hu);refine⟨?_,hn.1.trans h2,hn.2.trans h3⟩;show aW (ws[s.pos]?.getD em) a8=false;rw[hk];exact bB hd
theorem gJ{ws:List ByteArray}{k:ByteArray}(hl:aF k=false)(hu:kW k=false)(hd:k≠a8):dU ws (aG ws k):=by
 intro s h;unfold aG;by_cases ha:bR ws k s=true
 .rw[if_pos ha];exact dG h ha hl hu hd
 .rw[if_neg ha];exact qF _ _
theorem C9{ws:List ByteArray}{s:PS}(h:Bz ws s)(ha:bR ws iJ s=true):Bz ws (aG ws kN s.adv):=by
 unfold aG;by_cases hb:bR ws kN s.adv=true
 .rw[if_pos hb];intro hf;have ry:s.failed=false:=hf;have mE:s.adv.failed=false:=hf;have hk:ws[s.pos]?.getD em=a8:=(Dw (ws:=ws) ry).symm.trans (EI ha);have mF:ws[s.pos+1]?.getD em=nW:=(Dw (ws:=ws) mE).symm.trans (EI hb);obtain⟨_,h2,h3⟩:=h ry;have hn:=XK (ws:=ws) (n:=s.pos) (by rw[hk];rfl) (by rw[hk];rfl);refine⟨?_,?_,?_⟩
  .show aW (ws[s.pos+1]?.getD em) a8=false;rw[mF];exact bB (am (by simp[nW,a8]))
  .show dl (aF (ws[s.pos+1]?.getD em)&&!(aW (ws[s.pos]?.getD em) a8)) (R3 ws (s.pos+1)) _=_;rw[hk,aR,Bool.not_true,Bool.and_false];exact hn.1.trans h2
  .show dl (kW (ws[s.pos+1]?.getD em)) (RZ ws (s.pos+1)) _=_;rw[mF];exact hn.2.trans h3
 .rw[if_neg hb];exact qF _ _
theorem qM{ws:List ByteArray}:dU ws (bK ws):=by
 intro s h;unfold bK;by_cases hl:aF (pk ws s)=true
 .rw[if_pos hl];intro hf;have ry:s.failed=false:=hf;obtain⟨h1,h2,h3⟩:=h ry;have hk:=Dw (ws:=ws) ry;rw[hk]at hl;have ho:=AB hl;refine⟨?_,?_,?_⟩
  .show aW (ws[s.pos]?.getD em) a8=false;exact bB (eJ hl rfl)
  .show dl (aF (ws[s.pos]?.getD em)&&!aeC ws s.pos) (R3 ws s.pos) (ws[s.pos]?.getD em)=(put s.vars (BN (pk ws s))).map bh;rw[h1,hl,h2,hk];conv=>lhs;rw[ho]
   exact GV _ _
  .show dl (kW (ws[s.pos]?.getD em)) (RZ ws s.pos) _=_;rw[vO _ hl];exact h3
 .rw[if_neg hl];exact qF _ _
theorem nj{ws:List ByteArray}:dU ws (ce ws):=by
 intro s h;unfold ce;by_cases ha:bR ws j8 s=true
 .rw[if_pos ha];exact dG h ha rfl rfl (am (by simp[j8,a8]))
 .rw[if_neg ha];exact qM s h
theorem t6{ws:List ByteArray}:dU ws (fA ws):=by
 intro s h;unfold fA;by_cases hl:kW (pk ws s)=true
 .rw[if_pos hl];intro hf;have ry:s.failed=false:=hf;obtain⟨h1,h2,h3⟩:=h ry;have hk:=Dw (ws:=ws) ry;rw[hk]at hl;have ho:=GB hl;have vx:aF (ws[s.pos]?.getD em)=false:=by
   cases hx:aF (ws[s.pos]?.getD em) with
   |false=>rfl
   |true=>rw[vO _ hx]at hl;cases hl
  refine⟨?_,?_,?_⟩
  .show aW (ws[s.pos]?.getD em) a8=false;exact bB (Rc hl rfl)
  .show dl (aF (ws[s.pos]?.getD em)&&!aeC ws s.pos) (R3 ws s.pos) (ws[s.pos]?.getD em)=_;rw[vx];exact h2
  .show dl (kW (ws[s.pos]?.getD em)) (RZ ws s.pos) (ws[s.pos]?.getD em)=(put s.hid (BN (pk ws s))).map bh;rw[hl,h3,hk];conv=>lhs;rw[ho]
   exact GV _ _
 .rw[if_neg hl];exact nj s h
theorem eI{ws:List ByteArray}{k:ByteArray}{A B:PS->PS}(hA:∀s,Bz ws s->bR ws k s=true->Bz ws (A s))(hB:dU ws B):dU ws (λs=>if bR ws k s then A s else B s):=by
 intro s h;dsimp only;by_cases ha:bR ws k s=true
 .rw[if_pos ha];exact hA s h ha
 .rw[if_neg ha];exact hB s h
theorem XU{ws:List ByteArray}:dU ws (aG ws gb):=gJ rfl rfl (am (by simp[gb,a8]))
theorem Rr{ws:List ByteArray}:dU ws (aG ws iY):=gJ rfl rfl (am (by simp[iY,a8]))
theorem aco{ws:List ByteArray}:dU ws (aG ws ni):=gJ rfl rfl (am (by simp[ni,a8]))
theorem xTo{ws:List ByteArray}:dU ws (aG ws XD):=gJ rfl rfl (am (by simp[XD,a8]))
theorem xEq{ws:List ByteArray}:dU ws (aG ws gR):=gJ rfl rfl (am (by simp[gR,a8]))
theorem ahy{ws:List ByteArray}:dU ws (aG ws je):=gJ rfl rfl (am (by simp[je,a8]))
theorem xLB{ws:List ByteArray}:dU ws (aG ws mw):=gJ rfl rfl (am (by simp[mw,a8]))
theorem xRB{ws:List ByteArray}:dU ws (aG ws kU):=gJ rfl rfl (am (by simp[kU,a8]))
theorem xIf{ws:List ByteArray}:dU ws (aG ws mu):=gJ rfl rfl (am (by simp[mu,a8]))
theorem acp{ws:List ByteArray}:dU ws (aG ws bY):=gJ rfl rfl (am (by simp[bY,a8]))
theorem ahx{ws:List ByteArray}:dU ws (aG ws eH):=gJ rfl rfl (am (by simp[eH,a8]))
theorem PD{ws:List ByteArray}:dU ws (eY ws) :=
 eI (λ_ h ha=>dG h ha rfl rfl (am (by simp[gR,a8]))) (eI (λ_ h ha=>dG h ha rfl rfl (am (by simp[sU,a8]))) xTo)
theorem UD{ws:List ByteArray}:dU ws (AA ws):=λ_ h=>Rr _ (t6 _ (aco _ (t6 _ (XU _ h))))
theorem Iy{ws:List ByteArray}:dU ws (ep ws) :=
 eI (λ_ h ha=>dG h ha rfl rfl (am (by simp[pN,a8]))) (eI (λ_ h ha=>UD _ (dG h ha rfl rfl (am (by simp[Ix,a8])))) (λ_ h=>t6 _ (PD _ (t6 _ h))))
theorem PC{ws:List ByteArray}(n:Nat):dU ws (λs=>(jm ws n s).2):=by
 induction n with
 |zero=>exact λ_ h=>h
 |succ n ih =>
  intro s h;simp only[jm];by_cases ha:bR ws dq s=true
  .rw[if_pos ha];exact ih _ (Iy _ (dG h ha rfl rfl (am (by simp[dq,a8]))))
  .rw[if_neg ha];exact h
theorem Iz{ws:List ByteArray}:dU ws (pF ws):=λs h=>PC (ws.length+1) _ (Iy s h)
theorem PB{ws:List ByteArray}:dU ws (yz ws):=eI (λ_ h ha=>dG h ha rfl rfl (am (by simp[sU,a8]))) xEq
theorem UB{ws:List ByteArray}:dU ws (ti ws):=eI (λ_ h ha=>dG h ha rfl rfl (am (by simp[dq,a8]))) (λ_ h=>nj _ (PB _ (qM _ h)))
theorem IA{ws:List ByteArray}:dU ws (gl ws):=λs h=>(show Bz ws (Mj ws s) from Rr _ (UB _ (XU _ h)))
theorem Ux{ws:List ByteArray}:dU ws (oL ws):=by
 refine eI (λ_ h ha=>dG h ha rfl rfl (am (by simp[oU,a8]))) (λs h=>?_);by_cases ha:D7 ws s=true
 .rw[if_pos ha];unfold D7 at ha;simp only[Bool.and_eq_true]at ha;exact C9 (nj s h) ha.2
 .rw[if_neg ha];exact nj s h
theorem UH{ws:List ByteArray}:dU ws (io ws):=by
 refine eI (λ_ h ha=>dG h ha rfl rfl (am (by simp[ie,a8]))) (eI (λ_ h ha=>qM _ (dG h ha rfl rfl (am (by simp[jd,a8])))) (λs h=>?_));by_cases ha:bR ws iJ (bK ws s)=true
 .rw[if_pos ha];exact nj _ (xEq _ (C9 (qM s h) ha))
 .rw[if_neg ha];exact Ux _ (xEq _ (qM s h))
theorem UG{ws:List ByteArray}:dU ws (sW ws):=λs h=>(show Bz ws (aG ws je (io ws s)) from ahy _ (UH s h))
theorem UE{ws:List ByteArray}{blk:PS->PS}(hb:dU ws blk):dU ws (xE blk ws):=λs h=>(show Bz ws (ny blk ws s) from hb _ (IA _ (acp s h)))
theorem Uz{ws:List ByteArray}{blk:PS->PS}(hb:dU ws blk):dU ws (pE blk ws):=by
 intro s h;have h1:Bz ws (cE blk ws s):=hb _ (IA _ (xIf s h));unfold pE;by_cases ha:bR ws iK (cE blk ws s)=true
 .rw[if_pos ha];exact(show Bz ws (blk (lI s.nodes.length (cE blk ws s))) from hb _ (show Bz ws (cE blk ws s).adv from dG h1 ha rfl rfl (am (by simp[iK,a8]))))
 .rw[if_neg ha];exact h1
theorem UA{ws:List ByteArray}{blk:PS->PS}(hb:dU ws blk):dU ws (kQ blk ws):=eI (λs h _=>Uz hb s h) (eI (λs h _=>UE hb s h) UG)
theorem UC{ws:List ByteArray}{c:PS->PS}(hc:dU ws c)(n:Nat):dU ws (ji c ws n):=by
 induction n with
 |zero=>exact λ_ h=>h
 |succ n ih =>
  intro s h;simp only[ji];split
  .exact h
  .exact ih _ (hc s h)
theorem Uy{ws:List ByteArray}(f:Nat):dU ws (cJ ws f):=by
 induction f with
 |zero=>exact λ_ h=>h
 |succ f ih=>exact λs h=>xRB _ (UC (UA ih) _ _ (xLB s h))
theorem UF{ws:List ByteArray}:dU ws (fn ws):=by
 intro s h;have h1:Bz ws (Eu ws s):=(show Bz ws (cJ ws (ws.length+1) (pF ws (aG ws eH s))) from Uy _ _ (Iz _ (ahx s h)));unfold fn;split
 .exact h1
 .exact qF _ _
theorem Iu(ws:List ByteArray):Bz ws aX:=λ_=>⟨rfl,rfl,rfl⟩
