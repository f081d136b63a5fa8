import Derived.Test.YtciihepbeacppaaGreatM30
namespace Go.Proofs.YtciihepbeacppaaGreat
open Go.RowKit List
set_option linter.unusedVariables false
def LG(F:CF)(val:Nat->Nat)(V:CF):Prop:=∀p∈V.ap,bj F (val p.l) (val p.r)=true
section
variable {r:Nat->Nat} {w:Nat} {F V:CF} {val:Nat->Nat} {X:List Pr}
theorem el.apa(h:el r w F val X V)(hL:Wt V):LG F val V:=λp hp=>h.ap p hp (hL p hp).1 (hL p hp).2
structure JS(r:Nat->Nat)(w v v':Nat):Prop where
 e:1+v'=r (1+v)
 i:∀i,i<5->r i=r (1+v)->i=1+v
 hv:v<4
 hv':v'<4
 hw:v'≠w
theorem el.setC(h5:F.cl.length=5)(Zq:V.cl.length=5)(h:el r w F val X V)(ha:LG F val V){v v':Nat}(hv:JS r w v v')(c:Nat):el r w (Go.Proofs.YtciihepbeacppaaGreat.setC F (1+v') (val c)) val X (Go.Proofs.YtciihepbeacppaaGreat.setC V (1+v) c)/\LG (Go.Proofs.YtciihepbeacppaaGreat.setC F (1+v') (val c)) val (Go.Proofs.YtciihepbeacppaaGreat.setC V (1+v) c):=by
 have hg:∀j,(Go.Proofs.YtciihepbeacppaaGreat.setC F (1+v') (val c)).cl.getD j 0=if 1+v'=j then val c else F.cl.getD j 0:=λj=>nH h5 (by have:=hv.hv';omega)
 have hg':∀j,(Go.Proofs.YtciihepbeacppaaGreat.setC V (1+v) c).cl.getD j 0=if 1+v=j then c else V.cl.getD j 0:=λj=>nH Zq (by have:=hv.hv;omega)
 have hd:∀a b,bj F a b=true->bj (Go.Proofs.YtciihepbeacppaaGreat.setC F (1+v') (val c)) a b=true:=λa b=>k6 (F:=F) (F':=Go.Proofs.YtciihepbeacppaaGreat.setC F (1+v') (val c)) (λp hp=>hp) (by rw[hg,if_neg (by omega)]) (λp hp=>⟨p,hp,rfl⟩);refine⟨⟨λi hi=>?_,λp hp _ _=>hd _ _ (ha p hp),h.sp,λx hx=>?_⟩,λp hp=>hd _ _ (ha p hp)⟩
 .rw[hg,hg'];by_cases e:1+v=i
  .rw[if_pos e,<-e,if_pos hv.e]
  .rw[if_neg e,if_neg (λe2=>e ((hv.i i hi (by rw[<-hv.e,e2])).symm))];exact h.cl i hi
 .rw[hg,hg,if_neg (by have:=hv.hw;omega),if_neg (by omega)];exact h.nm x hx
theorem el.clT(h0:r 0=0)(h:el r w F val X V){k i i':Nat}(hi:k=1->1+i'=r (1+i)/\i<4):val (Go.Proofs.YtciihepbeacppaaGreat.clT V k i)=Go.Proofs.YtciihepbeacppaaGreat.clT F k i':=by
 unfold Go.Proofs.YtciihepbeacppaaGreat.clT;by_cases hk:k=1
 .rw[if_pos hk,if_pos hk,(hi hk).1];exact h.cl _ (by have:=(hi hk).2;omega)
 .rw[if_neg hk,if_neg hk,h.cl 0 (by omega),h0]
theorem YY{a b x y:Nat}(h5:F.cl.length=5)(hn:bj F a b=false)(h:bj F x y=true):bj (qe F a b) (ek a b x) (ek a b y)=true:=by
 obtain⟨h1,h2⟩:=de.1 h;have aL:ek a b x≠ek a b y:=λe=>by
  have hc:(x=a/\y=b)\/(x=b/\y=a):=by
   unfold ek at e;by_cases e1:x=b <;> by_cases e2:y=b
   .exact absurd (e1.trans e2.symm) h1
   .rw[if_pos e1,if_neg e2]at e;exact zq1 ⟨e1,e.symm⟩
   .rw[if_neg e1,if_pos e2]at e;exact zq0 ⟨e,e2⟩
   .rw[if_neg e1,if_neg e2]at e;exact absurd e h1
  rcases hc with⟨rfl,rfl⟩|⟨rfl,rfl⟩
  .rw[h]at hn;cases hn
  .rw[qp h]at hn;cases hn
 have oZ:∀c,(∃p∈F.ow,p.l=c)->∃p∈(qe F a b).ow,p.l=ek a b c:=λc=>by
  rintro⟨p,hp,rfl⟩;exact⟨qh a b p,mem_map.2 ⟨p,hp,rfl⟩,rfl⟩
 have h0:(qe F a b).cl.getD 0 0=ek a b (F.cl.getD 0 0):=ng h5 (by omega);rw[de];refine⟨aL,?_⟩;rcases h2 with⟨p,hp,h9⟩|h9
 .refine zq0 ⟨qh a b p,mem_map.2 ⟨p,hp,rfl⟩,?_⟩;rcases h9 with⟨rfl,rfl⟩|⟨rfl,rfl⟩
  .exact zq0 ⟨rfl,rfl⟩
  .exact zq1 ⟨rfl,rfl⟩
 .right;rw[gD]at h9 ⊢;rw[h0];rcases h9 with⟨c,d|d⟩|⟨c,d⟩
  .exact zq0 ⟨oZ _ c,zq0 (oZ _ d)⟩
  .exact zq0 ⟨oZ _ c,zq1 (by rw[d])⟩
  .exact zq1 ⟨oZ _ c,by rw[d]⟩
theorem el.jo(hr:∀i,i<5->r i<5)(hw:w<4)(h5:F.cl.length=5)(Zq:V.cl.length=5)(h:el r w F val X V)(ha:LG F val V){a b:Nat}(hn:bj F (val a) (val b)=false):el r w (qe F (val a) (val b)) (λc=>ek (val a) (val b) (val c)) (X.map (qh (val a) (val b))) (qe V a b):=by
 have hs:∀c,ek (val a) (val b) (val (ek a b c))=ek (val a) (val b) (val c):=λc=>by
  by_cases e:c=b
  .have e1:ek a b c=a:=(by unfold ek;rw[if_pos e]);rw[e1,e];unfold ek;rw[if_pos rfl];split <;> rfl
  .have e1:ek a b c=c:=(by unfold ek;rw[if_neg e]);rw[e1]
 refine⟨λi hi=>?_,λp hp _ _=>?_,?_,λx hx=>?_⟩
 .rw[ng Zq hi,ng h5 (hr i hi),<-h.cl i hi];exact hs _
 .obtain⟨q,hq,rfl⟩:=mem_map.1 (show p∈V.ap.map (qh a b) from hp);show bj _ (ek (val a) (val b) (val (ek a b q.l))) (ek (val a) (val b) (val (ek a b q.r)))=true;rw[hs,hs];exact YY h5 hn (ha q hq)
 .obtain⟨cs,s1,s2⟩:=h.sp;refine⟨cs.map (qh (val a) (val b)),?_,?_⟩
  .show(F.ow.map (qh (val a) (val b))).Perm _;rw[<-map_append];exact s1.map _
  .exact uL (val:=val) (g:=qh a b) (ph:=ek (val a) (val b)) (G:=qh (val a) (val b)) (λx=>⟨rfl,rfl,Iff.rfl⟩) (λp hp=>⟨λh=>h,hs _,hs _⟩) s2
 .obtain⟨y,hy,rfl⟩:=mem_map.1 hx;obtain⟨e1,e2⟩:=h.nm y hy;rw[ng h5 (by omega),ng h5 (by omega)];exact⟨by show ek _ _ y.l=_;rw[e1],by show ek _ _ y.r=_;rw[e2]⟩
theorem el.pa(h:el r w F val X V)(ha:LG F val V){a b:Nat}(hn:val a≠val b):el r w (b7 F (val a) (val b)) val X (b7 V a b):=by
 have hd:∀x y,bj F x y=true->bj (b7 F (val a) (val b)) x y=true:=λx y=>k6 (F:=F) (F':=b7 F (val a) (val b)) (λp hp=>mem_append_left _ hp) rfl (λp hp=>⟨p,hp,rfl⟩);refine⟨h.cl,λp hp _ _=>?_,h.sp,h.nm⟩;rcases mem_append.1 (show p∈V.ap++[⟨2,a,b⟩] from hp) with hp|hp
 .exact hd _ _ (ha p hp)
 .rw[mem_singleton.1 hp];rw[de];exact⟨hn,zq0 ⟨⟨2,val a,val b⟩,mem_append_right _ (by simp),zq0 ⟨rfl,rfl⟩⟩⟩
theorem el.cr(h0:r 0=0)(h5:F.cl.length=5)(Zq:V.cl.length=5)(h:el r w F val X V)(ha:LG F val V){v v':Nat}(hv:JS r w v v'):∃val',el r w (zK F v') val' X (zK V v):=by
 obtain⟨u,hu⟩:∃u:Nat->Nat,u=λa=>if a=aw V then aw F else val a:=⟨_,rfl⟩
 have hn:u (aw V)=aw F:=by rw[hu];simp
 have ar:∀a,a<aw V->u a=val a:=λa ha=>by rw[hu];show(if a=aw V then aw F else val a)=_;rw[if_neg (by omega)]
 have hd:∀x y,bj F x y=true->bj (ll F ⟨3,aw F,F.cl.getD 0 0⟩) x y=true:=λx y=>k6 (F:=F) (F':=ll F ⟨3,aw F,F.cl.getD 0 0⟩) (λp hp=>hp) rfl (λp hp=>⟨p,mem_append_left _ hp,rfl⟩);have tp:LG (ll F ⟨3,aw F,F.cl.getD 0 0⟩) u (ll V ⟨3,aw V,V.cl.getD 0 0⟩):=λp hp=>by
  have hp:p∈V.ap:=hp;rw[ar _ (IX V hp).1,ar _ (IX V hp).2];exact hd _ _ (ha p hp)
 have h1:el r w (ll F ⟨3,aw F,F.cl.getD 0 0⟩) u X (ll V ⟨3,aw V,V.cl.getD 0 0⟩):=by
  obtain⟨cs,s1,s2⟩:=h.sp;refine⟨λi hi=>?_,λp hp _ _=>tp p hp,⟨⟨3,aw F,F.cl.getD 0 0⟩::cs,?_,?_⟩,h.nm⟩
  .show u (V.cl.getD i 0)=F.cl.getD (r i) 0;rw[ar _ (sd V hi)];exact h.cl i hi
  .show(F.ow++[_]).Perm _;exact perm_append_comm.trans ((s1.cons _).trans perm_middle.symm)
  .show nM u (V.ow++[_]) _;refine dC (perm_append_comm (l₁:=[(⟨3,aw V,V.cl.getD 0 0⟩:Pr)])) ⟨[⟨3,aw F,F.cl.getD 0 0⟩],cs,List.Perm.refl _,⟨?_,?_⟩,λ_=>⟨_,rfl,by show(3:Nat)≠4;decide⟩,yl (λp hp=>⟨ar _ (lu V hp).1,ar _ (lu V hp).2⟩) s2⟩
   .exact hn.symm
   .show F.cl.getD 0 0=u (V.cl.getD 0 0);rw[ar _ (sd V (by omega)),h.cl 0 (by omega),h0]
 have:=(h1.setC (F:=ll F ⟨3,aw F,F.cl.getD 0 0⟩) (V:=ll V ⟨3,aw V,V.cl.getD 0 0⟩) h5 Zq tp hv (aw V)).1;rw[hn]at this;exact⟨u,this⟩
theorem nA{g:CF}{c u:Nat}{R:List Pr}(hl:mM g.ow)(hp:g.ow.Perm (⟨3,c,u⟩::R)):∃j,cU g.ow c=some j/\j<g.ow.length/\g.ow.getD j ax=⟨3,c,u⟩/\(jr g.ow j).Perm R/\∀y:Pr,(g.ow.set j y).Perm (y::R):=by
 obtain⟨j,h1,h2,h3⟩:=G8 (F:=g) hl (x:=⟨3,c,u⟩) (hp.symm.subset (by simp));have ht:(jr g.ow j).Perm R:=by
  have h4:=dZ h2;rw[h3]at h4;exact(h4.symm.trans hp).cons_inv
 exact⟨j,h1,h2,h3,ht,λy=>(pT h2 y).trans (ht.cons y)⟩
theorem SE.fo'{c u:Nat}{cr Vr:List Pr}(h:SE r w F val X V c u cr Vr):F.ow.Perm (⟨3,val c,val u⟩::(X++cr)):=h.fo.trans perm_middle
theorem SE.li(hF:aq F)(hV:aq V){c u t:Nat}{cr Vr:List Pr}(h:SE r w F val X V c u cr Vr)(ha:LG F val V){j j':Nat}(hj:cU V.ow c=some j)(Xk:cU F.ow (val c)=some j'):el r w (setO F j' ⟨3,val c,val t⟩) val X (setO V j ⟨3,c,t⟩):=by
 obtain⟨i,a1,-,-,-,a5⟩:=nA hV.lf h.vo;obtain⟨i',b1,-,-,-,b5⟩:=nA hF.lf h.fo';rw[hj]at a1;injection a1 with a1;rw[Xk]at b1;injection b1 with b1;subst a1;subst b1;have rx:(setO F j' ⟨3,val c,val t⟩).ow.Perm (X++(⟨3,val c,val t⟩::cr)):=(b5 _).trans perm_middle.symm;refine⟨h.em.cl,λp hp _ _=>?_,⟨_,rx,dC (a5 ⟨3,c,t⟩).symm ⟨[⟨3,val c,val t⟩],cr,List.Perm.refl _,⟨rfl,rfl⟩,λ_=>⟨_,rfl,by show(3:Nat)≠4;decide⟩,h.sp⟩⟩,h.em.nm⟩;refine k6 (F:=F) (F':=setO F j' ⟨3,val c,val t⟩) (λp hp=>hp) rfl (λp hp=>?_) (ha p hp);rcases mem_cons.1 (h.fo'.subset hp) with rfl|hp
 .exact⟨_,(b5 _).symm.subset mem_cons_self,rfl⟩
 .exact⟨p,(b5 _).symm.subset (mem_cons_of_mem _ hp),rfl⟩
theorem I4:∀(l:List Pr) (c:Nat) (h:CF),(l.foldl (λh p=>b7 h c p.l) h).ap=h.ap++l.map (λp=>⟨2,c,p.l⟩)/\(l.foldl (λh p=>b7 h c p.l) h).ow=h.ow/\(l.foldl (λh p=>b7 h c p.l) h).cl=h.cl
 |[],_,h=>⟨by simp,rfl,rfl⟩
 |p::l,c,h=>by
  rw[foldl_cons];obtain⟨h1,h2,h3⟩:=I4 l c (b7 h c p.l);refine⟨?_,h2,h3⟩;rw[h1];show(h.ap++[_])++_=_;simp
theorem rS{g:CF}{v c j:Nat}(hc:c=g.cl.getD (1+v) 0)(hj:cU g.ow c=some j):(kh g v).ow=jr g.ow j/\(kh g v).cl=g.cl/\(kh g v).ap=(g.ap++[⟨2,c,g.cl.getD 0 0⟩])++(jr g.ow j).map (λp=>⟨2,c,p.l⟩):=by
 have e:kh g v=(gY g j).ow.foldl (λh p=>b7 h c p.l) (b7 (gY g j) c ((gY g j).cl.getD 0 0)):=by unfold kh;simp only;rw[<-hc];unfold pZ;rw[hj];rfl
 rw[e];obtain⟨h1,h2,h3⟩:=I4 (gY g j).ow c (b7 (gY g j) c ((gY g j).cl.getD 0 0));exact⟨h2,h3,h1⟩
end
def B5(Q:CF->Prop)(s:Sr):Prop:=∀n,∀e∈a7 s n,Q e.f
structure SF(c:Cd)(Q:CF->Prop):Prop where
 ef:∀n f,Td f->Q f->(bL (c.nds.getD n aI) f).nu=false->(bL (c.nds.getD n aI) f).da=false->(∀x∈(bL (c.nds.getD n aI) f).nx,Q x)/\∀x∈(bL (c.nds.getD n aI) f).ot,Q x
 ly:∀f,aq f->Q f->Q (aZ (Eb f))
section
variable {c:Cd} {N n:Nat} {f:CF} {s:Sr} {Q:CF->Prop}
theorem Tc{nd:Nd}(hk:aq f)(hv:nd.v<4)(ha:nd.ai<4)(h:gU f)(cnu:(bL nd f).nu=false)(cda:(bL nd f).da=false):(∀x∈(bL nd f).nx,gU x)/\∀x∈(bL nd f).ot,gU x:=by
 have opn:∀{w:Nat} {G:CF->CF},w<4->(dP f w).2.1=false->(dP f w).2.2.1=false->(∀x,aq x->gU x->∀j,cU x.ow (x.cl.getD (1+w) 0)=some j->aq (G x)/\gU (G x))->∀x∈(dP f w).1.map (λx=>aZ (G x)),gU x:=by
  intro w G hw g1 g2 hG x hx;obtain⟨y,hy,rfl⟩:=mem_map.1 hx;have Ep:=im (N:=f.ap.length) hw hk (zq4 _) _ hy;have Us:gU y:=by
   unfold dP at g1 g2 hy;by_cases e0:f.cl.getD (1+w) 0=f.cl.getD 0 0
   .rw[if_pos e0]at g1;cases g1
   .rw[if_neg e0]at g1 g2 hy;by_cases eb:(cU f.ow (f.cl.getD (1+w) 0)).isSome=true
    .rw[if_pos eb]at hy;exact h.fi hy
    .rw[if_neg eb]at g2;cases g2
  obtain⟨j,hj⟩:=Option.isSome_iff_exists.1 Ep.bg;obtain⟨k1,k2⟩:=hG y Ep.ok Us j hj;exact k2.td k1
 have BW:=h.td hk;have mC:(∀x∈(jW f nd).1,gU x)/\∀x∈(jW f nd).2,gU x:=by
  unfold jW;simp only;refine⟨λx hx=>?_,λx hx=>?_⟩
  .split at hx
   .simp at hx
   .rename_i hd;have hd:bj f (f.cl.getD (1+nd.v) 0) (clT f nd.ak nd.ai)=false:=(by simpa using hd);rw[mem_singleton.1 hx];exact(h.jo hk.c5 hd).td (hk.jo (hk.get _) (eR hd))
  .split at hx
   .simp at hx
   .rename_i aL;rw[mem_singleton.1 hx];exact(h.par aL).td (hk.pa (hk.get _) (hk.cT _ _))
 unfold bL at cnu cda ⊢;by_cases o0:nd.op=0
 .rw[if_pos o0];exact⟨by simp[sk],by simp[sk]⟩
 rw[if_neg o0]at cnu cda ⊢;by_cases o1:nd.op=1
 .rw[if_pos o1];exact⟨λx hx=>by rw[mem_singleton.1 hx];exact(h.setC hk.c5 hv).td (hk.sC _ (hk.cT _ _)),by simp⟩
 rw[if_neg o1]at cnu cda ⊢;by_cases o2:nd.op=2
 .rw[if_pos o2]at cnu cda ⊢;exact⟨opn ha cnu cda (λx k1 k2 j _=>⟨by unfold eG;exact k1.sC _ (k1.oA _).2,by unfold eG;exact k2.setC k1.c5 hv⟩),by simp[bt]⟩
 rw[if_neg o2]at cnu cda ⊢;by_cases o3:nd.op=3
 .rw[if_pos o3]at cnu cda ⊢;exact⟨opn hv cnu cda (λx k1 k2 j hj=>⟨by unfold mx;exact k1.sO (λ_=>rfl) (k1.cT _ _) (k1.oA _).1,by unfold mx;simp only;rw[kz hj];exact k2.setO (lR hj).1 rfl⟩),by simp[bt]⟩
 rw[if_neg o3]at cnu cda ⊢;by_cases o4:nd.op=4
 .rw[if_pos o4];split
  .exact⟨by simp,by simp⟩
  .rename_i hn;exact⟨λx hx=>by rw[mem_singleton.1 hx];exact(h.cr hk.c5 hv).td (mN hk (by omega)),by simp⟩
 rw[if_neg o4]at cnu cda ⊢;by_cases o5:nd.op=5
 .rw[if_pos o5]at cnu cda ⊢;exact⟨opn hv cnu cda (λx k1 k2 j hj=>⟨(mV (N:=x.ap.length) ⟨k1,zq4 _,by rw[hj];rfl⟩).1,k2.fr k1 hj⟩),by simp[bt]⟩
 rw[if_neg o5];by_cases o7:nd.op=7
 .rw[if_pos o7];exact⟨λx hx=>by rw[mem_singleton.1 hx];exact BW,λx hx=>by rw[mem_singleton.1 hx];exact BW⟩
 rw[if_neg o7];by_cases o8:nd.op=8
 .rw[if_pos o8];exact mC
 rw[if_neg o8];by_cases o9:nd.op=9
 .rw[if_pos o9];exact⟨mC.2,mC.1⟩
 rw[if_neg o9];exact⟨λx hx=>by rw[mem_singleton.1 hx];exact BW,by simp⟩
theorem ahk(hQ:SF c Q)(h:Q f)(hf:aq f):Q (bm c n f):=by
 unfold bm;split
 .exact hQ.ly f hf h
 .exact h
theorem IH(hQ:SF c Q)(hn:n<s.kn.length)(hf:aq f)(h:Q f)(hs:B5 Q s):B5 Q (bF c n f s):=by
 unfold bF;split
 .exact hs
 .intro m e he;have hkA:a7 (pU c (nk n (bm c n f) (mG c s (2*(a7 s n).length)))) m=if n=m then (a7 s n).filter (λe=>!xF e.f (bm c n f))++[⟨bm c n f,false⟩] else a7 s m:=gK hn m
  rw[hkA]at he;by_cases e0:n=m
  .rw[if_pos e0]at he;rcases mem_append.1 he with he|he
   .exact hs n e (mem_filter.1 he).1
   .rw[mem_singleton.1 he];exact ahk hQ h hf
  .rw[if_neg e0]at he;exact hs m e he
theorem EP(hQ:SF c Q){fuel a b:Nat}(ha:a<N):∀(l:List CF) {s:Sr},(l≠[]->b<N)->cX l->(∀x∈l,Q x)->iS N s->Sf (l.foldl (λs g=>dJ c fuel a b g s) s)->B5 Q s->B5 Q (l.foldl (λs g=>dJ c fuel a b g s) s)
 |[],_,_,_,_,_,_,h=>h
 |g::l,s,hb,hl,hx,hs,hS,h=>by
  rw[foldl_cons]at hS ⊢;have hbN:=hb (by simp);obtain⟨-,h2,-⟩:=pB (c:=c) (fuel:=fuel) (hl g (by simp)) hs ha hbN;obtain⟨h4,-,-⟩:=ky (c:=c) (fuel:=fuel) ha l (λ_=>hbN) (λx hx=>hl x (by simp[hx])) h2;obtain⟨-,e⟩:=zz (hl g (by simp)) hs ha hbN (h4.sf hS);refine EP hQ ha l (λ_=>hbN) (λx hx=>hl x (by simp[hx])) (λx tD=>hx x (by simp[tD])) h2 hS ?_;rw[e];exact IH hQ (by rw[hs.kn];exact hbN) (hl g (by simp)).ok (hx g (by simp)) h
theorem ab9(hQ:SF c Q){fuel:Nat}(hN:c.nds.length=N)(hO:uG c.nds)(hn:n<N)(hf:Td f)(hq:Q f)(hs:iS N s)(hS:Sf (oE c fuel n f s))(h:B5 Q s):B5 Q (oE c fuel n f s):=by
 obtain⟨hv,ha⟩:=hO.v n;obtain⟨t1,t2⟩:=lY hv ha hf;obtain⟨-,-,dp⟩:=Bm (fuel:=fuel) hN hO hn hf hs;obtain⟨q1,q2⟩:=hQ.ef n f hf hq (dp hS).nu (dp hS).da;have jX:n<c.nds.length:=by rw[hN];exact hn
 have cf:(bL (c.nds.getD n aI) f).nx≠[]->(c.nds.getD n aI).nx<N:=λh=>by rw[<-hN];exact hO.nx n jX (rM h)
 have xq:(bL (c.nds.getD n aI) f).ot≠[]->(c.nds.getD n aI).ot<N:=λh=>by rw[<-hN];exact hO.ot n jX (mQ h)
 unfold oE at hS ⊢;simp only at hS ⊢;obtain⟨-,a2,-⟩:=fM (b:=decide ((c.nds.getD n aI).op=0)&&!decide (fj f=[])) (k:=2) hs hn (by omega);obtain⟨-,b2,-⟩:=fM (b:=(bL (c.nds.getD n aI) f).nu) (k:=3) a2 hn (by omega);obtain⟨-,d2,-⟩:=fM (b:=(bL (c.nds.getD n aI) f).da) (k:=4) b2 hn (by omega);obtain⟨-,e2,-⟩:=vh (bL (c.nds.getD n aI) f).fu d2;obtain⟨-,g2,-⟩:=ky (c:=c) (fuel:=fuel) (b:=(c.nds.getD n aI).nx) hn (bL (c.nds.getD n aI) f).nx cf t1 e2;obtain⟨k1,-,-⟩:=ky (c:=c) (fuel:=fuel) (b:=(c.nds.getD n aI).ot) hn (bL (c.nds.getD n aI) f).ot xq t2 g2;refine EP hQ hn _ xq t2 q2 g2 hS (EP hQ hn _ cf t1 q1 e2 (k1.sf hS) ?_);intro m e he;refine h m e ?_;have e1:(fuS (bL (c.nds.getD n aI) f).fu (wrI (bL (c.nds.getD n aI) f).da n 4 (wrI (bL (c.nds.getD n aI) f).nu n 3 (wrI (decide ((c.nds.getD n aI).op=0)&&!decide (fj f=[])) n 2 s)))).kn=s.kn:=by
  show(wrI _ n 4 (wrI _ n 3 (wrI _ n 2 s))).kn=s.kn;rw[iu,iu,iu]
 unfold a7 at he ⊢;rw[e1]at he;exact he
theorem Ri(hQ:SF c Q){fuel:Nat}(hN:c.nds.length=N)(hO:uG c.nds)(hn:n<N):∀(l:List CF) {s:Sr},cX l->(∀x∈l,Q x)->iS N s->Sf (mJ c fuel n l s)->B5 Q s->B5 Q (mJ c fuel n l s)
 |[],_,_,_,_,_,h=>h
 |f::r,s,hl,hx,hs,hS,h=>by
  unfold mJ at hS ⊢;split
  .exact h
  .rename_i dK;rw[if_neg dK]at hS;obtain⟨-,h2,-⟩:=Bm (fuel:=fuel) hN hO hn (hl f (by simp)) hs;obtain⟨h4,-,-⟩:=Br (fuel:=fuel) hN hO hn r (λx hx=>hl x (by simp[hx])) h2;exact Ri hQ hN hO hn r (λx hx=>hl x (by simp[hx])) (λx hxr=>hx x (by simp[hxr])) h2 hS (ab9 hQ hN hO hn (hl f (by simp)) (hx f (by simp)) hs (h4.sf hS) h)
theorem ach(hQ:SF c Q){fuel:Nat}(hN:c.nds.length=N)(hO:uG c.nds)(hn:n<N)(hs:iS N s)(hS:Sf (rp c fuel n s))(h:B5 Q s):B5 Q (rp c fuel n s):=by
 have fJ:n<s.kn.length:=by rw[hs.kn];exact hn
 obtain⟨s0,r8⟩:∃s0:Sr,s0={ s with kn:=s.kn.set n ((a7 s n).map (λe:gT=>(⟨e.f,true⟩:gT))) }:=⟨_,rfl⟩;have hkA:∀m,a7 s0 m=if n=m then (a7 s n).map (λe=>⟨e.f,true⟩) else a7 s m:=λm=>by rw[r8];exact gK fJ m
 have Fp:iS N s0:=by
  rw[r8];refine⟨by show(s.kn.set n _).length=N;rw[length_set];exact hs.kn,hs.wr,hs.rw,λl hl e he=>?_⟩;rcases mem_or_eq_of_mem_set (show l∈s.kn.set n _ from hl) with h1|rfl
  .exact hs.td l h1 e he
  .obtain⟨x,hx,rfl⟩:=mem_map.1 he;exact hs.td.at n x hx
 have iX:cX (lJ (a7 s n)):=λg hg=>by
  obtain⟨e,he,rfl⟩:=mem_map.1 hg;exact hs.td.at n e (mem_filter.1 he).1
 have hfn:∀x∈lJ (a7 s n),Q x:=λg hg=>by
  obtain⟨e,he,rfl⟩:=mem_map.1 hg;exact h n e (mem_filter.1 he).1
 have e1:rp c fuel n s=mJ c fuel n (lJ (a7 s n)) s0:=by rw[r8];rfl
 rw[e1]at hS ⊢;refine Ri hQ hN hO hn _ iX hfn Fp hS (λm e he=>?_);rw[hkA]at he;by_cases e0:n=m
 .rw[if_pos e0]at he;obtain⟨x,hx,rfl⟩:=mem_map.1 he;exact h n x hx
 .rw[if_neg e0]at he;exact h m e he
theorem QM(hQ:SF c Q){fuel:Nat}(hN:c.nds.length=N)(hO:uG c.nds):∀(k:Nat) {s:Sr},iS N s->Sf (pS c fuel k s)->B5 Q s->B5 Q (pS c fuel k s)
 |0,_,_,_,h=>h
 |k+1,s,hs,hS,h=>by
  unfold pS at hS ⊢;split
  .exact h
  .rename_i n pL;rw[pL]at hS;simp only at hS;have hn:n<N:=by
    unfold Et at pL;obtain⟨h1,-⟩:=findIdx?_eq_some_iff_getElem.1 pL;rw[<-hs.kn];exact h1
   split
   .exact h
   .rename_i dK;rw[if_neg dK]at hS;obtain⟨-,h2,-⟩:=GC (fuel:=fuel) hN hO hn hs;obtain⟨h4,-,-⟩:=oy (fuel:=fuel) hN hO k h2;exact QM hQ hN hO k h2 hS (ach hQ hN hO hn hs (h4.sf hS) h)
theorem P8{al:List cn}(hf:eE (bf al)=false)(nv:Nat):gU (oO (bf al) nv):=by
 unfold eE at hf;rw[Bool.or_eq_false_iff,any_eq_false]at hf;refine⟨λp hp e=>?_,λp hp e=>?_⟩
 .have:=hf.1 p hp;simp[e]at this
 .have hd:∀(l:List Pr) (seen:List Nat),mP seen l=false->∀p∈l,p.l ∉ seen:=by
   intro l;induction l with
   |nil=>intro seen _ p hp;simp at hp
   |cons q r ih =>
    intro seen h p hp;unfold mP at h;split at h
    .cases h
    .rename_i hq;rcases mem_cons.1 hp with rfl|hp
     .exact hq
     .exact λhm=>ih _ h p hp (mem_cons_of_mem _ hm)
  exact hd _ _ hf.2 p hp (by rw[e];exact mem_singleton.2 rfl)
end
theorem abS{l:List UInt8}(h:lA l=0)(hv:(GY (b9 l)).vd=0){Q:CF->Prop}(hQ:SF (xN (bO l).nodes (bO l).vars.length (eW (b9 l) aX)) Q)(hq0:eE (bf (eW (b9 l) aX))=false->Q (aZ (oO (bf (eW (b9 l) aX)) (bO l).vars.length))):B5 Q (tM (bO l).nodes (bO l).vars.length (eW (b9 l) aX)):=by
 have hA:=lP h;obtain⟨c,hc⟩:∃c,c=xN (bO l).nodes (bO l).vars.length (eW (b9 l) aX):=⟨_,rfl⟩;have fZ:c.nds=(bO l).nodes:=by rw[hc];rfl
 have hS:Sf (tM (bO l).nodes (bO l).vars.length (eW (b9 l) aX)):=by
  have hv:(JU (bO l).nodes (bO l).vars.length (eW (b9 l) aX)).vd=0:=hv;unfold JU DF at hv;split at hv
  .cases hv
  .rename_i dK;refine⟨by simpa using dK,EK ?_⟩;apply Classical.byContradiction;intro h0;have hv:(if LS (tM (bO l).nodes (bO l).vars.length (eW (b9 l) aX)).wr=[] then 0 else 1)=0:=hv;rw[if_neg h0]at hv;cases hv
 unfold tM at hS ⊢;rw[<-hc]at hS hQ ⊢;have h0:=uq (bO l).nodes;have oY:(bO l).nodes.length-1<(bO l).nodes.length:=by have:=hA.p;omega
 have hE:iS (bO l).nodes.length (er c 4000 (bO l).vars.length (eW (b9 l) aX) (kL (bO l).nodes))/\(Sf (er c 4000 (bO l).vars.length (eW (b9 l) aX) (kL (bO l).nodes))->B5 Q (er c 4000 (bO l).vars.length (eW (b9 l) aX) (kL (bO l).nodes))):=by
  have oS:B5 Q (kL (bO l).nodes):=λn e he=>by rw[Bl]at he;simp at he
  unfold er;split
  .exact⟨h0,λ_=>oS⟩
  .rename_i kH;have hfb:eE (bf (eW (b9 l) aX))=false:=(by simpa using kH);have eP:=gE (jz hA.a.tm hfb) (bO l).vars.length;rw[fZ];obtain⟨-,k2,-⟩:=pB (c:=c) (fuel:=4000) (a:=(bO l).nodes.length-1) (b:=0) eP.tidy h0 oY hA.p;refine⟨k2,λhS=>?_⟩;obtain⟨-,e⟩:=zz eP.tidy h0 oY hA.p hS;rw[e];exact IH hQ (by rw[h0.kn];exact hA.p) eP.td (hq0 hfb) oS
 obtain⟨r1,-,-⟩:=oy (c:=c) (fuel:=4000) (by rw[fZ]) (by rw[fZ];exact hA.n) 1000000 hE.1;exact QM hQ (by rw[fZ]) (by rw[fZ];exact hA.n) 1000000 hE.1 hS (hE.2 (r1.sf hS))
theorem IQ{f g:CF}(hc:g.cl=f.cl)(ho:∀p∈f.ow,p.l∈bQ g/\p.r∈bQ g){c:Nat}(h:c∈bQ f):c∈bQ g:=by
 rcases yU h with⟨i,hi,rfl⟩|⟨p,hp,rfl|rfl⟩
 .rw[<-hc];exact vP hi
 .exact(ho p hp).1
 .exact(ho p hp).2
theorem Cv{f g:CF}{c:Nat}(hg:g∈(jk f c).1):g.cl=f.cl/\g.ap=f.ap/\(∀p∈f.ow,p.l∈bQ g/\p.r∈bQ g)/\(Kd f->Kd g):=by
 unfold jk at hg;split at hg
 .simp at hg
 .rename_i i hb;obtain⟨hi,hl⟩:=lR hb;have hs:∀y:Pr,∀p∈f.ow,p=f.ow.getD i ax\/p∈f.ow.set i y:=λy p hp=>by
   rcases mem_cons.1 ((dZ hi).subset hp) with h|h
   .exact zq0 h
   .exact zq1 ((pT hi y).symm.subset (mem_cons_of_mem _ h))
  have hy:∀y:Pr,y∈f.ow.set i y:=λy=>(pT hi y).symm.subset (by simp);have Xl:∀y:Pr,y.k=3\/y.k=4->Kd f->∀p∈f.ow.set i y,p.k=3\/p.k=4:=λy h1 hk p hp=>by
   rcases mem_or_eq_of_mem_set hp with hp|rfl
   .exact hk p hp
   .exact h1
  have h1:(fO f i).cl=f.cl/\(fO f i).ap=f.ap/\(∀p∈f.ow,p.l∈bQ (fO f i)/\p.r∈bQ (fO f i))/\(Kd f->Kd (fO f i)):=by
   refine⟨rfl,rfl,λp hp=>?_,λhk=>Xl _ (zq0 rfl) hk⟩;rcases hs ⟨3,(owA f i).l,(owA f i).r⟩ p hp with h|h
   .have h9:=fR (f:=fO f i) (p:=⟨3,(owA f i).l,(owA f i).r⟩) (hy _);rw[h];exact h9
   .exact fR (f:=fO f i) h
  unfold J7 at hg;split at hg
  .simp only[mem_singleton]at hg;rw[hg];exact⟨rfl,rfl,λp hp=>fR hp,λh=>h⟩
  .split at hg
   .simp only[mem_singleton]at hg;rw[hg];exact h1
   .simp only[mem_cons,not_mem_nil,or_false]at hg;rcases hg with rfl|rfl
    .exact h1
    .have ha:(⟨3,c,aw f⟩:Pr)∈(oP f c i).ow:=mem_append_left _ (hy _);have aU:(⟨4,aw f,(owA f i).r⟩:Pr)∈(oP f c i).ow:=mem_append_right _ (by simp);refine⟨rfl,rfl,λp hp=>?_,λhk p hp=>?_⟩
     .rcases hs ⟨3,c,aw f⟩ p hp with h|h
      .rw[h,hl];exact⟨(fR ha).1,(fR aU).2⟩
      .exact fR (f:=oP f c i) (mem_append_left _ h)
     .rcases mem_append.1 (show p∈f.ow.set i ⟨3,c,aw f⟩++[⟨4,aw f,(owA f i).r⟩] from hp) with hp|hp
      .exact Xl ⟨3,c,aw f⟩ (zq0 rfl) hk p hp
      .rw[mem_singleton.1 hp];exact zq1 rfl
theorem Zc{f g:CF}{c:Nat}(hL:Wt f)(hg:g∈(jk f c).1):Wt g:=by
 obtain⟨h1,h2,h3,-⟩:=Cv hg;intro p hp;rw[h2]at hp;exact⟨IQ h1 h3 (hL p hp).1,IQ h1 h3 (hL p hp).2⟩
section
variable {r:Nat->Nat} {w:Nat} {F V:CF} {val:Nat->Nat} {X:List Pr}
theorem SE.fr(h0:r 0=0)(hF:aq F)(hV:aq V)(nF:gU F){c u v v':Nat}{cr Vr:List Pr}(h:SE r w F val X V c u cr Vr)(ha:LG F val V)(hc:c=V.cl.getD (1+v) 0)(CN:val c=F.cl.getD (1+v') 0):el r w (kh F v') val X (kh V v):=by
 obtain⟨i,a1,-,-,a4,-⟩:=nA hV.lf h.vo;obtain⟨i',b1,-,-,b4,-⟩:=nA hF.lf h.fo';obtain⟨o1,o2,o3⟩:=rS hc a1;obtain⟨p1,p2,p3⟩:=rS CN b1;have c9:∀x∈X++cr,x.l≠val c:=by
  have h1:((⟨3,val c,val u⟩::(X++cr)).map (λx:Pr=>x.l)).Nodup:=(h.fo'.map (λx:Pr=>x.l)).nodup_iff.1 hF.lf;rw[map_cons,nodup_cons]at h1;intro x hx e;exact h1.1 (by show val c∈_;rw[<-e];exact mem_map_of_mem (f:=λx:Pr=>x.l) hx)
 have oS:val c≠F.cl.getD 0 0:=nF.ow ⟨3,val c,val u⟩ (h.fo'.symm.subset (by simp));have hp0:(⟨2,val c,F.cl.getD 0 0⟩:Pr)∈(kh F v').ap:=by rw[p3];exact mem_append_left _ (mem_append_right _ (by simp))
 have hpx:∀x∈X++cr,(⟨2,val c,x.l⟩:Pr)∈(kh F v').ap:=λx hx=>by
  rw[p3];exact mem_append_right _ (mem_map.2 ⟨x,b4.symm.subset hx,rfl⟩)
 have ak2:(kh F v').cl.getD 0 0=F.cl.getD 0 0:=by rw[p2]
 have oZ:∀z,(∃p∈F.ow,p.l=z)->z=val c\/∃p∈(kh F v').ow,p.l=z:=λz=>by
  rintro⟨p,hp,rfl⟩;rcases mem_cons.1 (h.fo'.subset hp) with rfl|hp
  .exact zq0 rfl
  .right;rw[p1];exact⟨p,b4.symm.subset hp,rfl⟩
 have hox:∀z,(∃p∈F.ow,p.l=z)->z=val c\/∃x∈X++cr,x.l=z:=λz=>by
  rintro⟨p,hp,rfl⟩;rcases mem_cons.1 (h.fo'.subset hp) with rfl|hp
  .exact zq0 rfl
  .exact zq1 ⟨p,hp,rfl⟩
 have Fv:∀y,y≠val c->((∃p∈F.ow,p.l=y)\/y=F.cl.getD 0 0)->bj (kh F v') (val c) y=true:=λy hy Ep=>by
  rw[de];refine⟨λe=>hy e.symm,zq0 ?_⟩;rcases Ep with Ep|rfl
  .rcases hox y Ep with e|⟨x,hx,rfl⟩
   .exact absurd e hy
   .exact⟨_,hpx x hx,zq0 ⟨rfl,rfl⟩⟩
  .exact⟨_,hp0,zq0 ⟨rfl,rfl⟩⟩
 have hd:∀a b,bj F a b=true->bj (kh F v') a b=true:=λa b hd=>by
  obtain⟨aL,hd⟩:=de.1 hd;rcases hd with⟨p,hp,pL⟩|hd
  .rw[de];exact⟨aL,zq0 ⟨p,by rw[p3];exact mem_append_left _ (mem_append_left _ hp),pL⟩⟩
  .rw[gD]at hd;by_cases ea:a=val c
   .subst ea;refine Fv b (λe=>aL e.symm) ?_;rcases hd with⟨-,k|k⟩|⟨k,-⟩
    .exact zq0 k
    .exact zq1 k
    .exact zq0 k
   .by_cases eb:b=val c
    .subst eb;refine qp (Fv a ea ?_);rcases hd with⟨k,-⟩|⟨-,k⟩
     .exact zq0 k
     .exact zq1 k
    .rw[de];refine⟨aL,zq1 (gD.2 ?_)⟩;rw[ak2];rcases hd with⟨k,l|l⟩|⟨k,l⟩
     .exact zq0 ⟨(oZ a k).resolve_left ea,zq0 ((oZ b l).resolve_left eb)⟩
     .exact zq0 ⟨(oZ a k).resolve_left ea,zq1 l⟩
     .exact zq1 ⟨(oZ b k).resolve_left eb,l⟩
 refine⟨λj hj=>by rw[o2,p2];exact h.em.cl j hj,λp hp _ _=>?_,⟨cr,by rw[p1];exact b4,by rw[o1];exact dC a4.symm h.sp⟩,λx hx=>by rw[p2];exact h.em.nm x hx⟩;rw[o3]at hp;rcases mem_append.1 hp with hp|hp
 .rcases mem_append.1 hp with hp|hp
  .exact hd _ _ (ha p hp)
  .rw[mem_singleton.1 hp];show bj (kh F v') (val c) (val (V.cl.getD 0 0))=true;have e0:=h.em.cl 0 (by omega);rw[h0]at e0;rw[e0];exact Fv _ (λe=>oS e.symm) (zq1 rfl)
 .obtain⟨q,hq,rfl⟩:=mem_map.1 hp;obtain⟨⟨x,hx,ex⟩,-⟩:=uJ (a4.subset hq) h.sp;show bj (kh F v') (val c) (val q.l)=true;rw[<-ex];have r9:x∈X++cr:=mem_append_right _ hx;exact Fv _ (c9 x r9) (zq0 ⟨x,h.fo'.symm.subset (mem_cons_of_mem _ r9),rfl⟩)
theorem el.op(hF:aq F)(kF:Kd F)(nF:gU F)(hV:aq V)(kV:Kd V)(hL:Wt V)(h:el r w F val X V){v v':Nat}(hv:JS r w v v')(c1:(dP V v).2.1=false)(c2:(dP V v).2.2.1=false)(c3:(dP V v).2.2.2=false):
  (dP F v').2.1=false/\(dP F v').2.2.1=false/\∀F'∈(dP F v').1,∃V'∈(dP V v).1,∃val' u cr Vr c,SE r w F' val' X V' c u cr Vr/\LG F' val' V'/\c=V'.cl.getD (1+v) 0/\val' c=F'.cl.getD (1+v') 0/\gU F'/\F'.cl=F.cl/\V'.cl=V.cl:=by
 have Xd:val (V.cl.getD (1+v) 0)=F.cl.getD (1+v') 0:=by rw[h.cl _ (by have:=hv.hv;omega),<-hv.e]
 obtain⟨i,hb,eV⟩:∃i,cU V.ow (V.cl.getD (1+v) 0)=some i/\dP V v=((jk V (V.cl.getD (1+v) 0)).1,false,false,(jk V (V.cl.getD (1+v) 0)).2):=by
  by_cases e1:V.cl.getD (1+v) 0=V.cl.getD 0 0
  .exfalso;unfold dP at c1;rw[if_pos e1]at c1;cases c1
  .by_cases e2:(cU V.ow (V.cl.getD (1+v) 0)).isSome=true
   .obtain⟨i,hi⟩:=Option.isSome_iff_exists.1 e2;refine⟨i,hi,?_⟩;unfold dP;rw[if_neg e1,if_pos e2]
   .exfalso;unfold dP at c2;rw[if_neg e1,if_neg e2]at c2;cases c2
 rw[eV]at c3 ⊢;obtain⟨⟨x,hx,tD⟩,ho⟩:=h.opn hF kF hV kV hL hb c3;have eF:dP F v'=((jk F (F.cl.getD (1+v') 0)).1,false,false,(jk F (F.cl.getD (1+v') 0)).2):=by
  obtain⟨j,hj,-⟩:=uR hF.lf hx;rw[tD,Xd]at hj;unfold dP;rw[if_neg (by rw[<-Xd,<-tD];exact nF.ow x hx),if_pos (by rw[hj];rfl)]
 rw[eF];refine⟨rfl,rfl,λF' rx=>?_⟩;have rx:F'∈(jk F (F.cl.getD (1+v') 0)).1:=rx;rw[<-Xd]at rx;obtain⟨V',hV',val',u,cr,Vr,o1,o2,o3,o4⟩:=ho F' rx;exact⟨V',hV',val',u,cr,Vr,_,o1,o1.em.apa (Zc hL hV'),by rw[o4],by rw[o2,Xd,o3],nF.fi rx,o3,o4⟩
end
section
variable {f g:CF}
theorem Kd.td(h:Kd f):Kd (aZ f):=by
 intro p hp;obtain⟨x,hx,rfl⟩:=mem_map.1 (show p∈f.ow.map (jf (b8 (dm f))) from dA.1 (show p∈mh (qg (dm f)).ow from hp));exact h x hx
theorem Kd.fo1{k:Nat}(h:Kd f):Kd (jD f k):=by
 intro p hp;have Xs:=pV (show p∈jr (f.ow.map (Go.Proofs.YtciihepbeacppaaGreat.fo1 (f.ow.getD k ax).l (f.ow.getD k ax).r)) k from hp);obtain⟨q,hq,rfl⟩:=mem_map.1 Xs;unfold Go.Proofs.YtciihepbeacppaaGreat.fo1;split
 .exact zq1 rfl
 .exact h q hq
theorem Kd.fold:∀(n:Nat) {f:CF},Kd f->Kd (dM n f)
 |0,_,h=>h
 |n+1,f,h=>by
  unfold dM;split
  .exact h
  .exact Kd.fold n h.fo1
theorem Kd.setO{i:Nat}{q:Pr}(hq:q.k=3\/q.k=4)(h:Kd f):Kd (Go.Proofs.YtciihepbeacppaaGreat.setO f i q):=by
 intro p hp;rcases mem_or_eq_of_mem_set (show p∈f.ow.set i q from hp) with hp|rfl
 .exact h p hp
 .exact hq
theorem Kd.cr{v:Nat}(h:Kd f):Kd (zK f v):=by
 intro p hp;rcases mem_append.1 (show p∈f.ow++[⟨3,aw f,f.cl.getD 0 0⟩] from hp) with hp|hp
 .exact h p hp
 .rw[mem_singleton.1 hp];exact zq0 rfl
theorem Kd.jo{a b:Nat}(h:Kd f):Kd (qe f a b):=by
 intro p hp;obtain⟨q,hq,rfl⟩:=mem_map.1 (show p∈f.ow.map (qh a b) from hp);exact h q hq
theorem Kd.fr{v j:Nat}(h:Kd g)(h1:cU g.ow (g.cl.getD (1+v) 0)=some j):Kd (kh g v):=by
 intro p hp;rw[(rS rfl h1).1]at hp;exact h p (pV hp)
theorem S9{R:CF->Prop}{nd:Nd}(hk:aq f)(hv:nd.v<4)(ha:nd.ai<4)(h:Kd f)(hR:∀x,aq x->Kd x->R (aZ x))(cnu:(bL nd f).nu=false)(cda:(bL nd f).da=false):(∀x∈(bL nd f).nx,R x)/\∀x∈(bL nd f).ot,R x:=by
 have opn:∀{w:Nat} {G:CF->CF},w<4->(dP f w).2.1=false->(dP f w).2.2.1=false->(∀x,aq x->Kd x->∀j,cU x.ow (x.cl.getD (1+w) 0)=some j->aq (G x)/\Kd (G x))->∀x∈(dP f w).1.map (λx=>aZ (G x)),R x:=by
  intro w G hw g1 g2 hG x hx;obtain⟨y,hy,rfl⟩:=mem_map.1 hx;have Ep:=im (N:=f.ap.length) hw hk (zq4 _) _ hy;have Us:Kd y:=by
   unfold dP at g1 g2 hy;by_cases e0:f.cl.getD (1+w) 0=f.cl.getD 0 0
   .rw[if_pos e0]at g1;cases g1
   .rw[if_neg e0]at g1 g2 hy;by_cases eb:(cU f.ow (f.cl.getD (1+w) 0)).isSome=true
    .rw[if_pos eb]at hy;exact(Cv hy).2.2.2 h
    .rw[if_neg eb]at g2;cases g2
  obtain⟨j,hj⟩:=Option.isSome_iff_exists.1 Ep.bg;obtain⟨k1,k2⟩:=hG y Ep.ok Us j hj;exact hR _ k1 k2
 have BW:=hR f hk h;have mC:(∀x∈(jW f nd).1,R x)/\∀x∈(jW f nd).2,R x:=by
  unfold jW;simp only;refine⟨λx hx=>?_,λx hx=>?_⟩
  .split at hx
   .simp at hx
   .rename_i hd;have hd:bj f (f.cl.getD (1+nd.v) 0) (clT f nd.ak nd.ai)=false:=(by simpa using hd);rw[mem_singleton.1 hx];exact hR _ (hk.jo (hk.get _) (eR hd)) h.jo
  .split at hx
   .simp at hx
   .rename_i aL;rw[mem_singleton.1 hx];exact hR _ (hk.pa (hk.get _) (hk.cT _ _)) h
 unfold bL at cnu cda ⊢;by_cases o0:nd.op=0
 .rw[if_pos o0];exact⟨by simp[sk],by simp[sk]⟩
 rw[if_neg o0]at cnu cda ⊢;by_cases o1:nd.op=1
 .rw[if_pos o1];exact⟨λx hx=>by rw[mem_singleton.1 hx];exact hR _ (hk.sC _ (hk.cT _ _)) h,by simp⟩
 rw[if_neg o1]at cnu cda ⊢;by_cases o2:nd.op=2
 .rw[if_pos o2]at cnu cda ⊢;exact⟨opn ha cnu cda (λx k1 k2 j _=>⟨by unfold eG;exact k1.sC _ (k1.oA _).2,k2⟩),by simp[bt]⟩
 rw[if_neg o2]at cnu cda ⊢;by_cases o3:nd.op=3
 .rw[if_pos o3]at cnu cda ⊢;exact⟨opn hv cnu cda (λx k1 k2 j hj=>⟨by unfold mx;exact k1.sO (λ_=>rfl) (k1.cT _ _) (k1.oA _).1,by unfold mx;simp only;rw[kz hj];exact k2.setO (k2 (x.ow.getD j ax) (bG (lR hj).1))⟩),by simp[bt]⟩
 rw[if_neg o3]at cnu cda ⊢;by_cases o4:nd.op=4
 .rw[if_pos o4];split
  .exact⟨by simp,by simp⟩
  .rename_i hn;exact⟨λx hx=>by rw[mem_singleton.1 hx];exact hR _ (mN hk (by omega)) h.cr,by simp⟩
 rw[if_neg o4]at cnu cda ⊢;by_cases o5:nd.op=5
 .rw[if_pos o5]at cnu cda ⊢;exact⟨opn hv cnu cda (λx k1 k2 j hj=>⟨(mV (N:=x.ap.length) ⟨k1,zq4 _,by rw[hj];rfl⟩).1,k2.fr hj⟩),by simp[bt]⟩
 rw[if_neg o5];by_cases o7:nd.op=7
 .rw[if_pos o7];exact⟨λx hx=>by rw[mem_singleton.1 hx];exact BW,λx hx=>by rw[mem_singleton.1 hx];exact BW⟩
 rw[if_neg o7];by_cases o8:nd.op=8
 .rw[if_pos o8];exact mC
 rw[if_neg o8];by_cases o9:nd.op=9
 .rw[if_pos o9];exact⟨mC.2,mC.1⟩
 rw[if_neg o9];exact⟨λx hx=>by rw[mem_singleton.1 hx];exact BW,by simp⟩
end
structure BB(f:CF):Prop where
 k:Kd f
 l:Wt f
 n:gU f
theorem PF{f:CF}{nd:Nd}(hk:aq f)(hv:nd.v<4)(ha:nd.ai<4)(h:BB f)(cnu:(bL nd f).nu=false)(cda:(bL nd f).da=false):(∀x∈(bL nd f).nx,BB x)/\∀x∈(bL nd f).ot,BB x:=by
 obtain⟨a1,a2⟩:=S9 (R:=λx=>Kd x/\Wt x) hk hv ha h.k (λx h1 h2=>⟨h2.td,FZ h1⟩) cnu cda;obtain⟨b1,b2⟩:=Tc hk hv ha h.n cnu cda;exact⟨λx hx=>⟨(a1 x hx).1,(a1 x hx).2,b1 x hx⟩,λx hx=>⟨(a2 x hx).1,(a2 x hx).2,b2 x hx⟩⟩
theorem PG{f:CF}(hk:aq f)(h:BB f):BB (aZ (Eb f)):=⟨(h.k.fold _).td,FZ (df _ hk).1,(h.n.fold _).td (df _ hk).1⟩
theorem aaU{c:Cd}(hO:uG c.nds):SF c BB:=⟨λn _ hf h a b=>PF hf.ok (hO.v n).1 (hO.v n).2 h a b,λ_ hf h=>PG hf h⟩
structure Wu(r:Nat->Nat)(w:Nat)(nd nd':Nd):Prop where
 op:nd'.op=nd.op
 v:(nd.op=1\/nd.op=2\/nd.op=3\/nd.op=4\/nd.op=5\/nd.op=8\/nd.op=9)->JS r w nd.v nd'.v
 ak:(nd.op=1\/nd.op=3\/nd.op=8\/nd.op=9)->nd'.ak=nd.ak
 ai:(nd.op=2\/((nd.op=1\/nd.op=3\/nd.op=8\/nd.op=9)/\nd.ak=1))->JS r w nd.ai nd'.ai
structure YB(r:Nat->Nat)(w:Nat):Prop where
 h0:r 0=0
 lt:∀i,i<5->r i<5
 w:w<4
section
variable {r:Nat->Nat} {w:Nat} {F V:CF} {nd nd':Nd}
theorem el.emt{val:Nat->Nat}{X:List Pr}(hr:YB r w)(hF:aq F)(hV:aq V)(h:el r w F val X V):DV r w (aZ F) (aZ V):=by
 obtain⟨v2,h2⟩:=h.tdV hV;exact⟨_,_,h2.tdF' hr.lt hr.w hF⟩
theorem Y2(hr:YB r w)(hF:aq F)(kF:BB F)(hV:aq V)(kV:BB V)(hN:Wu r w nd nd')(hv:nd.v<4)(ha:nd.ai<4)(hv':nd'.v<4)(tp:nd'.ai<4)(h:DV r w F V)(cnu:(bL nd V).nu=false)(cda:(bL nd V).da=false)(cfu:(bL nd V).fu=false):
  (bL nd' F).nu=false/\(bL nd' F).da=false/\(∀x∈(bL nd' F).nx,∃y∈(bL nd V).nx,DV r w x y)/\∀x∈(bL nd' F).ot,∃y∈(bL nd V).ot,DV r w x y:=by
 obtain⟨val,X,h⟩:=h;have eU:LG F val V:=h.apa kV.l;have c0:val (V.cl.getD 0 0)=F.cl.getD 0 0:=by rw[h.cl 0 (by omega),hr.h0]
 have Ii:∀{F V:CF} {val:Nat->Nat} {X:List Pr},el r w F val X V->(nd.op=1\/nd.op=3\/nd.op=8\/nd.op=9)->val (clT V nd.ak nd.ai)=clT F nd'.ak nd'.ai:=λh9 ho=>by
  rw[hN.ak ho];exact h9.clT hr.h0 (λhk=>⟨(hN.ai (zq1 ⟨ho,hk⟩)).e,ha⟩)
 have qD:DV r w (aZ F) (aZ V):=h.emt hr hF hV;have opn:∀{v v':Nat} {G G':CF->CF},JS r w v v'->(dP V v).2.1=false->(dP V v).2.2.1=false->(dP V v).2.2.2=false ->
   (∀{F V:CF} {val:Nat->Nat} {u c:Nat} {cr Vr:List Pr} {j j':Nat},aq F->aq V->gU F->SE r w F val X V c u cr Vr->LG F val V->c=V.cl.getD (1+v) 0->val c=F.cl.getD (1+v') 0->cU V.ow c=some j->cU F.ow (val c)=some j'->aq (G' F)/\aq (G V)/\el r w (G' F) val X (G V)) ->
   (dP F v').2.1=false/\(dP F v').2.2.1=false/\∀x∈(dP F v').1.map (λx=>aZ (G' x)),∃y∈(dP V v).1.map (λx=>aZ (G x)),DV r w x y:=by
  intro v v' G G' Pt g1 g2 g3 hG;obtain⟨q1,q2,q3⟩:=h.op hF kF.k kF.n hV kV.k kV.l Pt g1 g2 g3;refine⟨q1,q2,λx hx=>?_⟩;obtain⟨F',rx,rfl⟩:=mem_map.1 hx;obtain⟨V',hV',val',u,cr,Vr,c,o1,o2,o3,o4,o5,o6,o7⟩:=q3 F' rx;have kF':=im (N:=F.ap.length) Pt.hv' hF (zq4 _) _ rx;have kV':=im (N:=V.ap.length) Pt.hv hV (zq4 _) _ hV';obtain⟨j,hj⟩:=Option.isSome_iff_exists.1 kV'.bg;obtain⟨j',Xk⟩:=Option.isSome_iff_exists.1 kF'.bg;rw[<-o3]at hj;rw[<-o4]at Xk;obtain⟨a1,a2,a3⟩:=hG kF'.ok kV'.ok o5 o1 o2 o3 o4 hj Xk;exact⟨_,mem_map.2 ⟨V',hV',rfl⟩,a3.emt hr a1 a2⟩
 have mC:(nd.op=8\/nd.op=9)->(∀x∈(jW F nd').1,∃y∈(jW V nd).1,DV r w x y)/\∀x∈(jW F nd').2,∃y∈(jW V nd).2,DV r w x y:=λho=>by
  have Pt:=hN.v (by rcases ho with h|h <;> simp[h]);have ea:val (V.cl.getD (1+nd.v) 0)=F.cl.getD (1+nd'.v) 0:=by rw[h.cl _ (by omega),<-Pt.e]
  have eb:=Ii h (by rcases ho with h|h <;> simp[h]);unfold jW;simp only;rw[<-ea,<-eb];refine⟨λx hx=>?_,λx hx=>?_⟩
  .split at hx
   .simp at hx
   .rename_i hd;have hd:bj F (val (V.cl.getD (1+nd.v) 0)) (val (clT V nd.ak nd.ai))=false:=(by simpa using hd);have hd':bj V (V.cl.getD (1+nd.v) 0) (clT V nd.ak nd.ai)=false:=by
     cases e:bj V (V.cl.getD (1+nd.v) 0) (clT V nd.ak nd.ai) with
     |false=>rfl
     |true=>rw[h.dif hF.lf kF.n.ow hr.h0 hV.lf kV.l e]at hd;cases hd
    rw[if_neg (by rw[hd'];simp)];rw[mem_singleton.1 hx];refine⟨_,mem_singleton.2 rfl,(h.jo hr.lt hr.w hF.c5 hV.c5 eU hd).emt hr ?_ (hV.jo (hV.get _) (eR hd'))⟩;exact hF.jo (by rw[ea];exact hF.get _) (eR hd)
  .split at hx
   .simp at hx
   .rename_i aL;rw[if_neg (λe=>aL (by rw[e]))];rw[mem_singleton.1 hx];refine⟨_,mem_singleton.2 rfl,(h.pa eU aL).emt hr ?_ (hV.pa (hV.get _) (hV.cT _ _))⟩;exact hF.pa (by rw[ea];exact hF.get _) (by rw[eb];exact hF.cT _ _)
 unfold bL at cnu cda cfu ⊢;rw[hN.op];by_cases o0:nd.op=0
 .rw[if_pos o0,if_pos o0];exact⟨rfl,rfl,by simp[sk],by simp[sk]⟩
 rw[if_neg o0]at cnu cda cfu ⊢;rw[if_neg o0];by_cases o1:nd.op=1
 .rw[if_pos o1,if_pos o1];have ec:=Ii h (zq0 o1);refine⟨rfl,rfl,λx hx=>⟨_,mem_singleton.2 rfl,?_⟩,by simp⟩;rw[mem_singleton.1 hx,<-ec];exact(h.setC hF.c5 hV.c5 eU (hN.v (zq0 o1)) _).1.emt hr (hF.sC _ (by rw[ec];exact hF.cT _ _)) (hV.sC _ (hV.cT _ _))
 rw[if_neg o1]at cnu cda cfu ⊢;rw[if_neg o1];by_cases o2:nd.op=2
 .rw[if_pos o2]at cnu cda cfu ⊢;rw[if_pos o2];have Pt:=hN.v (zq1 (zq0 o2));obtain⟨q1,q2,q3⟩:=opn (G:=λg=>eG g nd) (G':=λg=>eG g nd') (hN.ai (zq0 o2)) cnu cda cfu (by
   intro F V val u c cr Vr j j' hF hV nF ho eU hc CN hj Xk;obtain⟨i,a1,-,a3,-⟩:=nA hV.lf ho.vo;obtain⟨i',b1,-,b3,-⟩:=nA hF.lf ho.fo';have e1:eG V nd=setC V (1+nd.v) u:=(by unfold eG;rw[<-hc,kz a1];show setC V _ (V.ow.getD i ax).r=_;rw[a3]);have e2:eG F nd'=setC F (1+nd'.v) (val u):=(by unfold eG;rw[<-CN,kz b1];show setC F _ (F.ow.getD i' ax).r=_;rw[b3]);refine⟨by unfold eG;exact hF.sC _ (hF.oA _).2,by unfold eG;exact hV.sC _ (hV.oA _).2,?_⟩;show el r w (eG F nd') val X (eG V nd);rw[e1,e2];exact(ho.em.setC hF.c5 hV.c5 eU Pt u).1)
  exact⟨q1,q2,q3,by simp[bt]⟩
 rw[if_neg o2]at cnu cda cfu ⊢;rw[if_neg o2];by_cases o3:nd.op=3
 .rw[if_pos o3]at cnu cda cfu ⊢;rw[if_pos o3];obtain⟨q1,q2,q3⟩:=opn (G:=λg=>mx g nd) (G':=λg=>mx g nd') (hN.v (by simp[o3])) cnu cda cfu (by
   intro F V val u c cr Vr j j' hF hV nF ho eU hc CN hj Xk;obtain⟨i,a1,-,a3,-⟩:=nA hV.lf ho.vo;obtain⟨i',b1,-,b3,-⟩:=nA hF.lf ho.fo';have ec:=Ii ho.em (zq1 (zq0 o3));have e1:mx V nd=setO V i ⟨3,c,clT V nd.ak nd.ai⟩:=(by unfold mx;simp only;rw[<-hc,kz a1];show setO V i ⟨(V.ow.getD i ax).k,(V.ow.getD i ax).l,_⟩=_;rw[a3]);have e2:mx F nd'=setO F i' ⟨3,val c,val (clT V nd.ak nd.ai)⟩:=(by unfold mx;simp only;rw[<-CN,kz b1,<-ec];show setO F i' ⟨(F.ow.getD i' ax).k,(F.ow.getD i' ax).l,_⟩=_;rw[b3]);refine⟨by unfold mx;exact hF.sO (λ_=>rfl) (hF.cT _ _) (hF.oA _).1,by unfold mx;exact hV.sO (λ_=>rfl) (hV.cT _ _) (hV.oA _).1,?_⟩;show el r w (mx F nd') val X (mx V nd);rw[e1,e2];exact ho.li hF hV eU a1 b1)
  exact⟨q1,q2,q3,by simp[bt]⟩
 rw[if_neg o3]at cnu cda cfu ⊢;rw[if_neg o3];by_cases o4:nd.op=4
 .rw[if_pos o4]at cfu ⊢;rw[if_pos o4];by_cases hn:24<=aw V
  .rw[if_pos hn]at cfu;cases cfu
  .rw[if_neg hn];by_cases hn':24<=aw F
   .rw[if_pos hn'];exact⟨rfl,rfl,by simp,by simp⟩
   .rw[if_neg hn'];refine⟨rfl,rfl,λx hx=>⟨_,mem_singleton.2 rfl,?_⟩,by simp⟩;rw[mem_singleton.1 hx];obtain⟨val',hc⟩:=h.cr hr.h0 hF.c5 hV.c5 eU (hN.v (by simp[o4]));exact hc.emt hr (mN hF (by omega)) (mN hV (by omega))
 rw[if_neg o4]at cnu cda cfu ⊢;rw[if_neg o4];by_cases o5:nd.op=5
 .rw[if_pos o5]at cnu cda cfu ⊢;rw[if_pos o5];obtain⟨q1,q2,q3⟩:=opn (G:=λg=>kh g nd.v) (G':=λg=>kh g nd'.v) (hN.v (by simp[o5])) cnu cda cfu (by
   intro F V val u c cr Vr j j' hF hV nF ho eU hc CN hj Xk;refine⟨(mV (N:=F.ap.length) ⟨hF,zq4 _,by rw[<-CN,Xk];rfl⟩).1,(mV (N:=V.ap.length) ⟨hV,zq4 _,by rw[<-hc,hj];rfl⟩).1,ho.fr hr.h0 hF hV nF eU hc CN⟩)
  exact⟨q1,q2,q3,by simp[bt]⟩
 rw[if_neg o5,if_neg o5];by_cases o7:nd.op=7
 .rw[if_pos o7,if_pos o7];exact⟨rfl,rfl,λx hx=>⟨_,mem_singleton.2 rfl,by rw[mem_singleton.1 hx];exact qD⟩,λx hx=>⟨_,mem_singleton.2 rfl,by rw[mem_singleton.1 hx];exact qD⟩⟩
 rw[if_neg o7,if_neg o7];by_cases o8:nd.op=8
 .rw[if_pos o8,if_pos o8];exact⟨rfl,rfl,mC (zq0 o8)⟩
 rw[if_neg o8,if_neg o8];by_cases o9:nd.op=9
 .rw[if_pos o9,if_pos o9];exact⟨rfl,rfl,(mC (zq1 o9)).2,(mC (zq1 o9)).1⟩
 rw[if_neg o9,if_neg o9];exact⟨rfl,rfl,λx hx=>⟨_,mem_singleton.2 rfl,by rw[mem_singleton.1 hx];exact qD⟩,by simp⟩
end
section
variable {r:Nat->Nat} {w:Nat} {F V U f:CF} {val v2:Nat->Nat} {X:List Pr}
theorem Jg:∀(l:List Pr) {s:List Nat},(l.foldl mH s).length=s.length->∀p∈l,p.l∈s->p.r∈s
 |[],_,_,p,hp,_=>by simp at hp
 |q::l,s,h,p,hp,hl=>by
  rw[foldl_cons]at h;have h1:=Ba s q;have h2:=AZ l (s:=mH s q);have hs:¬ (q.l∈s/\q.r ∉ s):=λhc=>by
   have:(mH s q).length=s.length+1:=(by unfold mH;rw[if_pos hc];simp);omega
  have e:mH s q=s:=by unfold mH;rw[if_neg hs]
  rw[e]at h;rcases mem_cons.1 hp with rfl|hp
  .exact Classical.byContradiction λhn=>hs ⟨hl,hn⟩
  .exact Jg l h p hp hl
theorem Jh(hk:∀p∈f.ow,p.r<24):∀(n:Nat) {s:List Nat},d9 s->25<=s.length+n->(∀c∈s,c∈Lm f n s)/\∀p∈f.ow,p.l∈Lm f n s->p.r∈Lm f n s
 |0,s,h,hn=>by have:=h.len;omega
 |n+1,s,h,hn=>by
  unfold Lm;split
  .rename_i he;exact⟨λc hc=>hc,λp hp hl=>Jg f.ow he p hp hl⟩
  .rename_i he;have h1:s.length<=(wm f s).length:=AZ f.ow;obtain⟨a1,a2⟩:=Jh hk n (Gn f.ow h hk).1 (by have:(f.ow.foldl mH s).length=(wm f s).length:=rfl;omega);refine⟨λc hc=>a1 c ?_,a2⟩;obtain⟨t,ht⟩:=A9 f.ow s;rw[ht];exact mem_append_left _ hc
theorem PN(hk:aq f)(hn:∀p∈f.ow,p.l≠f.cl.getD 0 0)(h:fx f):fj f=[]:=by
 have h4:∀c∈[f.cl.getD 1 0,f.cl.getD 2 0,f.cl.getD 3 0,f.cl.getD 4 0],c<24:=λc hc=>by
  simp only[mem_cons,not_mem_nil,or_false]at hc;rcases hc with rfl|rfl|rfl|rfl <;> exact hk.get _
 obtain⟨m1,m2,-⟩:=AE [f.cl.getD 1 0,f.cl.getD 2 0,f.cl.getD 3 0,f.cl.getD 4 0] h4 d9.nil;obtain⟨a1,a2⟩:=Jh (f:=f) (λp hp=>(hk.ow p hp).2) 25 (s:=R6 f) m1 (by omega);have key:=h (λc=>c∈pw f\/c=f.cl.getD 0 0) (λi hi=>by
  have:i=0\/i=1\/i=2\/i=3\/i=4:=by omega
  rcases this with rfl|rfl|rfl|rfl|rfl
  .exact zq1 rfl
  .exact zq0 (a1 _ (m2 _ (by simp)))
  .exact zq0 (a1 _ (m2 _ (by simp)))
  .exact zq0 (a1 _ (m2 _ (by simp)))
  .exact zq0 (a1 _ (m2 _ (by simp)))) (λp hp hl=>zq0 (a2 p hp (hl.resolve_right (hn p hp))))
 unfold fj;rw[filter_eq_nil_iff];intro i hi;have hi:i<f.ow.length:=by simpa using hi
 have hm:owA f i∈f.ow:=bG hi;have:=(key _ hm).resolve_right (hn _ hm);simp[this]
theorem EV{B:Nat->Prop}:∀{q:List Pr} {a e:Nat},(∀z∈q,B z.l->B z.r)->rI q a e->B a->(∀z∈q,B z.l)/\B e
 |[],_,_,_,h,_=>h.elim
 |[x],a,e,h2,h,ha=>by
  obtain⟨rfl,rfl⟩:=h;exact⟨λz hz=>by rw[mem_singleton.1 hz];exact ha,h2 x (by simp) ha⟩
 |x::y::t,a,e,h2,h,ha=>by
  obtain⟨rfl,h⟩:=h;obtain⟨h3,h4⟩:=EV (λz hz=>h2 z (mem_cons_of_mem _ hz)) h (h2 x (by simp) ha);exact⟨λz hz=>by rcases mem_cons.1 hz with rfl|hz;exact ha;exact h3 z hz,h4⟩
theorem MH:∀{l cs:List Pr},nM val l cs->(∀p∈l,∃q,(∀z∈q,z∈cs)/\rI q (val p.l) (val p.r))/\∀z∈cs,∃p∈l,∃q,(∀z∈q,z∈cs)/\rI q (val p.l) (val p.r)/\z∈q
 |[],cs,h=>by
  have h:cs=[]:=h;subst h;exact⟨λp hp=>by simp at hp,λz hz=>by simp at hz⟩
 |p::l,cs,h=>by
  obtain⟨q,c,h1,h2,h3,h4⟩:=h;obtain⟨a1,a2⟩:=MH h4;have hq:∀z∈q,z∈cs:=λz hz=>h1.symm.subset (mem_append_left _ hz);have hc:∀z∈c,z∈cs:=λz hz=>h1.symm.subset (mem_append_right _ hz);refine⟨λx hx=>?_,λz hz=>?_⟩
  .rcases mem_cons.1 hx with rfl|hx
   .exact⟨q,hq,h2⟩
   .obtain⟨u,u1,u2⟩:=a1 x hx;exact⟨u,λz hz=>hc z (u1 z hz),u2⟩
  .rcases mem_append.1 (h1.subset hz) with hz|hz
   .exact⟨p,by simp,q,hq,h2,hz⟩
   .obtain⟨x,hx,u,u1,u2,u3⟩:=a2 z hz;exact⟨x,by simp[hx],u,λz hz=>hc z (u1 z hz),u2,u3⟩
theorem el.hng(hr:YB r w)(h:el r w F val X V)(hV:fx V):fx F:=by
 intro B h1 h2;obtain⟨cs,s1,s2⟩:=h.sp;obtain⟨a1,a2⟩:=MH s2;have ts:∀z∈cs,z∈F.ow:=λz hz=>s1.symm.subset (mem_append_right _ hz);have key:=hV (λc=>B (val c)) (λi hi=>by show B (val _);rw[h.cl i hi];exact h1 _ (hr.lt i hi)) (λp hp hl=>by
  obtain⟨q,q1,q2⟩:=a1 p hp;exact(EV (λz hz=>h2 z (ts z (q1 z hz))) q2 hl).2)
 intro p hp;rcases mem_append.1 (s1.subset hp) with hp|hp
 .rw[(h.nm p hp).1];exact h1 _ (by have:=hr.w;omega)
 .obtain⟨x,hx,q,q1,q2,q3⟩:=a2 p hp;exact(EV (λz hz=>h2 z (ts z (q1 z hz))) q2 (key x hx)).1 p q3
theorem el.difL(h:el r w F val X V)(hF:mM F.ow)(hN:∀p∈F.ow,p.l≠F.cl.getD 0 0)(h0:r 0=0)(hV:mM V.ow){a b:Nat}(ha:a∈bQ V)(hb:b∈bQ V)(hd:bj V a b=true):bj F (val a) (val b)=true:=by
 have h9:el r w F val X { V with ap:=V.ap.filter (λp=>decide (p.l∈bQ V)&&decide (p.r∈bQ V)) }:=⟨h.cl,λp hp l1 l2=>h.ap p (mem_filter.1 hp).1 l1 l2,h.sp,h.nm⟩;refine h9.dif hF hN h0 hV (λp hp=>by have:=(mem_filter.1 hp).2;rw[Bool.and_eq_true]at this;exact⟨of_decide_eq_true this.1,of_decide_eq_true this.2⟩) ?_;obtain⟨h1,h2⟩:=de.1 hd;rw[de];refine⟨h1,?_⟩;rcases h2 with⟨p,hp,e⟩|h2
 .refine zq0 ⟨p,mem_filter.2 ⟨hp,?_⟩,e⟩;rw[Bool.and_eq_true];rcases e with⟨rfl,rfl⟩|⟨rfl,rfl⟩
  .exact⟨decide_eq_true ha,decide_eq_true hb⟩
  .exact⟨decide_eq_true hb,decide_eq_true ha⟩
 .right;rw[gD]at h2 ⊢;exact h2
theorem el.transL(h:el r w F val X V)(hF:mM F.ow)(hN:∀p∈F.ow,p.l≠F.cl.getD 0 0)(h0:r 0=0)(hV:mM V.ow){w':Nat}(h':el (λi=>i) w' V v2 [] U):el r w F (λc=>val (v2 c)) X U:=by
 obtain⟨cs,s1,s2⟩:=h.sp;obtain⟨ds,t1,t2⟩:=h'.sp;exact⟨λi hi=>by rw[h'.cl i hi];exact h.cl i hi,λp hp l1 l2=>h.difL hF hN h0 hV (h'.live (λ_ h=>h) l1) (h'.live (λ_ h=>h) l2) (h'.ap p hp l1 l2),⟨cs,s1,yo t2 (dC t1 s2)⟩,h.nm⟩
theorem S0(hr:YB r w)(hF:aq F)(hN:gU F):LI (DV r w F):=⟨λhf hg hw h=>by
 obtain⟨val,X,h⟩:=h;obtain⟨v2,h2⟩:=E2 (w:=w) hg hw;exact⟨_,X,h.transL hF.lf hN.ow hr.h0 hf.lf h2⟩⟩
theorem UM{c c':Cd}{n:Nat}(hr:YB r w)(hd:c'.hd=c.hd)(hF:aq F)(hV:aq V)(hH:fx V)(h:DV r w F V):DV r w (bm c' n F) (bm c n V):=by
 obtain⟨val,X,h⟩:=h;unfold bm;rw[hd];split
 .exact(h.fold hr.lt hr.w hF hV hH).emt hr (df _ hF).1 (df _ hV).1
 .exact⟨val,X,h⟩
end
