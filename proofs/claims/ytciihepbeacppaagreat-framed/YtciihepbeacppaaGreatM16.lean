import Derived.Test.YtciihepbeacppaaGreatM15
set_option maxRecDepth 100000
set_option maxHeartbeats 0
namespace Go.Proofs.YtciihepbeacppaaGreat
open Tryz Go.RowKit List World Below
set_option linter.unusedVariables false
theorem tT(f:CF)(c:Nat):(jk f c).1.length<=2:=by
 unfold jk;split
 .simp
 .unfold J7;split
  .simp
  .split <;> simp
theorem rR{α β:Type}{d:Nat}(g:List α × Bool->β->List α × Bool):∀(l:List β) (r:List α × Bool),(∀b∈l,∀r,(g r b).1.length<=r.1.length+d)->(l.foldl g r).1.length<=r.1.length+d*l.length
 |[],r,_=>by simp
 |b::l,r,hg=>by
  have h1:=rR g l (g r b) (λb' xp=>hg b' (by simp[xp]));have h2:=hg b (by simp) r;rw[foldl_cons,length_cons,Nat.mul_succ];omega
theorem uf{f:CF}(h:aq f)(v:Nat):(dP f v).1.length<=96:=by
 unfold dP;split
 .simp
 .split
  .exact zq3 (tT _ _) (by omega)
  .have h1:=rR (d:=4) (λr i=>yX f v i r) (range f.ow.length) (([]:List CF),false) (λi _ r=>by
    have h2:=rR (d:=2) (λr g=>D8 r g (g.cl.getD (1+v) 0)) (iM f (f.cl.getD (1+v) 0) i) r (λg _ r=>by
     unfold D8;have:=tT g (g.cl.getD (1+v) 0);rw[length_append];omega)
    have h3:=qS f (f.cl.getD (1+v) 0) i;exact zq3 h2 (by omega))
   rw[length_range]at h1;have:=h.owLen;simp only[length_nil]at h1;exact zq3 h1 (by omega)
theorem S1(f:CF)(n:Nd):(jW f n).1.length<=1/\(jW f n).2.length<=1:=by
 constructor
 .simp only[jW];split <;> simp
 .simp only[jW];split <;> simp
theorem Ta{f:CF}(h:aq f)(n:Nd):(bL n f).nx.length<=96/\(bL n f).ot.length<=1:=by
 have op:∀v g,(bt (dP f v) g).nx.length<=96/\(bt (dP f v) g).ot.length<=1:=λv g=>⟨by simpa[bt] using uf h v,by simp[bt]⟩;have cm:=S1 f n;unfold bL;split
 .simp[sk]
 .split
  .simp
  .split
   .exact op _ _
   .split
    .exact op _ _
    .split
     .split <;> simp
     .split
      .exact op _ _
      .split
       .simp
       .split
        .exact⟨zq3 cm.1 (by omega),cm.2⟩
        .split
         .exact⟨zq3 cm.2 (by omega),cm.1⟩
         .simp
theorem GE{b:Bool}{n k m:Nat}{s:Sr}(h:Gd m s):Gd m (wrI b n k s)/\fT (wrI b n k s)=fT s/\(wrI b n k s).lf=s.lf:=by
 unfold wrI;split
 .exact⟨⟨h.en,h.lo,h.fu,h.ok⟩,rfl,rfl⟩
 .exact⟨h,rfl,rfl⟩
theorem ab5{c:Cd}(hb:c.bd=true){fuel n:Nat}(dK:3002<=fuel){f:CF}{s:Sr}(hv:(c.nds.getD n aI).v<4)(ha:(c.nds.getD n aI).ai<4)(hf:Td f)(h:Gd 1152 s):Gd 500000 (oE c fuel n f s)/\(fT (oE c fuel n f s):Int)+(oE c fuel n f s).lf<=fT s+s.lf:=by
 obtain⟨t1,t2⟩:=lY hv ha hf;obtain⟨l1,l2⟩:=Ta hf.ok (c.nds.getD n aI);unfold oE;obtain⟨a1,b1,c1⟩:=GE (b:=decide ((c.nds.getD n aI).op=0)&&!decide (fj f=[])) (n:=n) (k:=2) h;obtain⟨a2,b2,c2⟩:=GE (b:=(bL (c.nds.getD n aI) f).nu) (n:=n) (k:=3) a1;obtain⟨a3,b3,c3⟩:=GE (b:=(bL (c.nds.getD n aI) f).da) (n:=n) (k:=4) a2;obtain⟨s3,f8⟩:∃s3,s3=wrI (bL (c.nds.getD n aI) f).da n 4 (wrI (bL (c.nds.getD n aI) f).nu n 3 (wrI (decide ((c.nds.getD n aI).op=0)&&!decide (fj f=[])) n 2 s)):=⟨_,rfl⟩;rw[<-f8]at a3 b3 c3;have a4:Gd 1152 (fuS (bL (c.nds.getD n aI) f).fu s3):=⟨a3.en,a3.lo,λhx=>a3.fu (by
  have:(s3.fu||(bL (c.nds.getD n aI) f).fu)=false:=hx;rw[Bool.or_eq_false_iff]at this;exact this.1),a3.ok⟩
 obtain⟨g1,g2⟩:=EL hb (a:=n) (b:=(c.nds.getD n aI).nx) dK (bL (c.nds.getD n aI) f).nx (m:=1152) (by omega) (by omega) t1 a4;obtain⟨k1,k2⟩:=EL hb (a:=n) (b:=(c.nds.getD n aI).ot) dK (bL (c.nds.getD n aI) f).ot (m:=1152+3001*(bL (c.nds.getD n aI) f).nx.length) (by omega) (by omega) t2 g1;simp only[<-f8];refine⟨k1.wide (by omega),?_⟩;refine Int.le_trans k2 (Int.le_trans g2 ?_);show(fT s3:Int)+s3.lf<=_;rw[b3,c3,b2,c2,b1,c1];exact Int.le_refl _
def NdV(c:Cd):Prop:=∀n,(c.nds.getD n aI).v<4/\(c.nds.getD n aI).ai<4
theorem Rf{c:Cd}(hb:c.bd=true)(hc:NdV c){fuel n:Nat}(dK:3002<=fuel):∀(l:List CF) {s:Sr},cX l->pY s->Gd 500000 s->Gd 500000 (mJ c fuel n l s)/\pY (mJ c fuel n l s)/\(fT (mJ c fuel n l s):Int)+(mJ c fuel n l s).lf<=fT s+s.lf
 |[],s,_,hi,h=>⟨h,hi,Int.le_refl _⟩
 |f::r,s,hl,hi,h=>by
  unfold mJ;split
  .exact⟨h,hi,Int.le_refl _⟩
  .rename_i hf;have Mc:=h.fu (by simpa using hf);have h':Gd 1152 s:=⟨h.en,by omega,h.fu,h.ok⟩;obtain⟨g1,g2⟩:=ab5 hb dK (hc n).1 (hc n).2 (hl f (by simp)) h';obtain⟨k1,k2,k3⟩:=Rf hb hc dK r (λx hx=>hl x (by simp[hx])) (ab7 (hc n).1 (hc n).2 (hl f (by simp)) hi) g1;exact⟨k1,k2,Int.le_trans k3 g2⟩
theorem Zl{l:List gT}(h:∀e∈l,Td e.f):cX (lJ l):=by
 intro f hf;obtain⟨e,he,rfl⟩:=mem_map.1 hf;exact h e (mem_filter.1 he).1
theorem ace{c:Cd}(hb:c.bd=true)(hc:NdV c){fuel n:Nat}(dK:3002<=fuel){s:Sr}(hi:pY s)(h:Gd 500000 s)(hp:Et s=some n):Gd 500000 (rp c fuel n s)/\pY (rp c fuel n s)/\(fT (rp c fuel n s):Int)+(rp c fuel n s).lf+1<=fT s+s.lf:=by
 have In:=findIdx?_eq_some_iff_getElem.1 hp;obtain⟨hn,qx,-⟩:=In;have fJ:a7 s n=s.kn[n]:=by unfold a7;rw[getD_eq_getElem?_getD,getElem?_eq_getElem hn];rfl
 have hu:fT { s with kn:=s.kn.set n ((a7 s n).map (λe=>⟨e.f,true⟩)) }+1<=fT s:=by
  have h1:=wM (λl:List gT=>l.countP (λe=>!e.d)) [] s.kn n ((a7 s n).map (λe=>⟨e.f,true⟩));rw[if_pos hn,if_pos hn]at h1;have h2:List.countP (λe:gT=>!e.d) ((a7 s n).map (λe=>(⟨e.f,true⟩:gT)))=0:=by
   rw[countP_eq_zero];intro e he;obtain⟨x,-,rfl⟩:=mem_map.1 he;simp
  have h3:0<List.countP (λe:gT=>!e.d) (s.kn.getD n []):=by
   rw[countP_pos_iff];obtain⟨e,he,hd⟩:=any_eq_true.1 qx;exact⟨e,by rw[getD_eq_getElem?_getD,getElem?_eq_getElem hn];exact he,hd⟩
  unfold fT;simp only[h2]at h1;show a9 (λl:List gT=>l.countP (λe=>!e.d)) (s.kn.set n ((a7 s n).map (λe=>(⟨e.f,true⟩:gT))))+1<=_;omega
 have he:rN { s with kn:=s.kn.set n ((a7 s n).map (λe=>⟨e.f,true⟩)) }<=rN s:=by
  have:=Gv (g:=List.length) (λl=>by simp) (s:=s) (n:=n) (d:=0) (x:=(a7 s n).map (λe=>(⟨e.f,true⟩:gT))) (by simp);simpa[rN] using this
 have h':Gd 500000 { s with kn:=s.kn.set n ((a7 s n).map (λe=>⟨e.f,true⟩)) }:=⟨by have:=h.en;show(rN _:Int)+s.lf<=3000;omega,h.lo,h.fu,h.ok⟩;have m0:pY { s with kn:=s.kn.set n ((a7 s n).map (λe=>⟨e.f,true⟩)) }:=hi.set n (λe he=>by
  obtain⟨x,hx,rfl⟩:=mem_map.1 he;exact hi.at n x hx)
 obtain⟨g1,g2,g3⟩:=Rf hb hc (n:=n) dK (lJ (a7 s n)) (Zl (hi.at n)) m0 h';refine⟨g1,g2,?_⟩;show(fT (mJ c fuel n (lJ (a7 s n)) { s with kn:=s.kn.set n ((a7 s n).map (λe=>⟨e.f,true⟩)) }):Int)+(mJ c fuel n (lJ (a7 s n)) { s with kn:=s.kn.set n ((a7 s n).map (λe=>⟨e.f,true⟩)) }).lf+1<=_;have:({ s with kn:=s.kn.set n ((a7 s n).map (λe=>⟨e.f,true⟩)) }:Sr).lf=s.lf:=rfl;rw[this]at g3;omega
theorem Gs{c:Cd}(hb:c.bd=true)(hc:NdV c){fuel:Nat}(dK:3002<=fuel):∀(n:Nat) {s:Sr},pY s->Gd 500000 s->(fT s:Int)+s.lf<n->0<n->(pS c fuel n s).ok=true
 |0,s,_,_,_,h=>by omega
 |n+1,s,hi,h,hn,_=>by
  unfold pS;split
  .exact h.ok
  .rename_i k hk;split
   .exact h.ok
   .rename_i hf;obtain⟨g1,g2,g3⟩:=ace hb hc dK hi h hk;have Mc:=h.fu (by simpa using hf);have hu:0<fT s:=by
     obtain⟨h1,h2,-⟩:=findIdx?_eq_some_iff_getElem.1 hk;have h3:=wJ (λl:List gT=>l.countP (λe=>!e.d)) [] s.kn k h1;have h4:0<List.countP (λe:gT=>!e.d) (s.kn.getD k []):=by
      rw[countP_pos_iff];obtain⟨e,he,hd⟩:=any_eq_true.1 h2;exact⟨e,by rw[getD_eq_getElem?_getD,getElem?_eq_getElem h1];exact he,hd⟩
     unfold fT;omega
    exact Gs hb hc dK n g2 g1 (by omega) (by omega)
theorem vT{ms:List Nat}{c d:Nat}(h:d∈iT ms c):d∈ms\/d=c:=by
 unfold iT at h;split at h
 .exact zq0 h
 .rw[mem_append,mem_singleton]at h;exact h
theorem Dj:∀(l:List Nat) {ms:List Nat} {d:Nat},d∈l.foldl iT ms->d∈ms\/d∈l
 |[],ms,d,h=>zq0 h
 |c::l,ms,d,h=>by
  rcases Dj l h with h|h
  .rcases vT h with h|rfl
   .exact zq0 h
   .exact zq1 (by simp)
  .exact zq1 (by simp[h])
theorem yV{f:CF}{p:Pr}(hp:p∈f.ow):p.l∈bQ f/\p.r∈bQ f:=⟨mem_append_right _ (mem_flatMap.2 ⟨p,hp,by simp⟩),mem_append_right _ (mem_flatMap.2 ⟨p,hp,by simp⟩)⟩
theorem QV{f:CF}{k:Nat}{ms:List Nat}{d:Nat}(h:d∈zm f k ms):d∈ms\/d∈bQ f:=by
 unfold zm at h;split at h
 .rename_i i hi;rcases vT h with h|rfl
  .exact zq0 h
  .exact zq1 (yV (tO hi)).2
 .exact zq0 h
theorem wD{f:CF}:∀(n k:Nat) {ms:List Nat} {d:Nat},d∈oV f n k ms->d∈ms\/d∈bQ f
 |0,_,_,_,h=>zq0 h
 |n+1,k,ms,d,h=>by
  unfold oV at h;split at h
  .rcases wD n (k+1) h with h|h
   .exact QV h
   .exact zq1 h
  .exact zq0 h
theorem DE{f:CF}:∀(l:List Pr) {ms:List Nat} {d:Nat},(∀p∈l,p∈f.ow)->d∈l.foldl (zc f) ms->d∈ms\/d∈bQ f
 |[],_,_,_,h=>zq0 h
 |p::r,ms,d,hl,h=>by
  rcases DE r (λq hq=>hl q (by simp[hq])) h with h|h
  .rcases wD _ _ h with h|h
   .rcases vT h with h|rfl
    .exact zq0 h
    .exact zq1 (yV (hl p (by simp))).1
   .exact zq1 h
  .exact zq1 h
theorem QK{f:CF}{d:Nat}(h:d∈b8 f):d∈bQ f:=by
 rcases DE f.ow (λp hp=>hp) h with h|h
 .rcases wD _ _ h with h|h
  .rcases Dj _ h with h|h
   .simp at h
   .exact mem_append_left _ h
  .exact h
 .exact h
theorem F9:∀(l:List Pr) {m K:Nat},m<K->(∀p∈l,p.l<K/\p.r<K)->qT m l<K
 |[],_,_,h,_=>h
 |p::r,m,K,h,hl=>by
  have:=hl p (by simp);exact F9 r (m:=max (max m p.l) p.r) (by omega) (λq hq=>hl q (by simp[hq]))
theorem PZ{f:CF}{K:Nat}(hK:0<K)(h1:∀c∈kP f,c<K)(h2:∀p∈f.ow,p.l<K/\p.r<K)(h3:∀p∈f.ap,p.l<K/\p.r<K):aw f<=K:=by
 unfold aw;have h0:qf f<K:=by
  have a0:=h1 _ (eQ (f:=f) (i:=0) (by omega));have a1:=h1 _ (eQ (f:=f) (i:=1) (by omega));have a2:=h1 _ (eQ (f:=f) (i:=2) (by omega));have a3:=h1 _ (eQ (f:=f) (i:=3) (by omega));have a4:=h1 _ (eQ (f:=f) (i:=4) (by omega));unfold qf;omega
 have:=F9 f.ap (F9 f.ow h0 h2) h3;omega
theorem gM{f:CF}:∀c∈bQ f,c<aw f:=by
 have hc:qf f<aw f:=by
  have h1:=(iZ f.ow (qf f)).1;have h2:=(iZ f.ap (qT (qf f) f.ow)).1;unfold aw;omega
 intro c h;unfold bQ at h;rw[mem_append,mem_flatMap]at h;rcases h with h|⟨p,hp,h⟩
 .unfold kP at h;unfold qf at hc;simp only[mem_cons,not_mem_nil,or_false]at h;omega
 .have h1:=(iZ f.ow (qf f)).2 p hp;have h2:=(iZ f.ap (qT (qf f) f.ow)).1;unfold aw;simp only[mem_cons,not_mem_nil,or_false]at h;rcases h with rfl|rfl <;> omega
theorem abR{f:CF}(h:aq f):0<(b8 f).length:=by
 have:=(q9 h.ow h.cl).2.2.1 _ (eQ (f:=f) (i:=0) (by omega));exact length_pos_of_mem this
theorem aa8{f:CF}(h:aq f)(hl:∀p∈f.ap,p.l∈bQ f/\p.r∈bQ f):(∀c∈kP (qg f),c<(b8 f).length)/\(∀p∈(qg f).ow,p.l<(b8 f).length/\p.r<(b8 f).length)/\∀p∈(qg f).ap,p.l<(b8 f).length/\p.r<(b8 f).length:=by
 have hL:=iQ h.ow h.cl h.lf;refine⟨λc hc=>?_,λp hp=>?_,λp hp=>?_⟩
 .unfold qg at hc;rw[He]at hc;obtain⟨d,hd,rfl⟩:=mem_map.1 hc;exact idxOf_lt_length_iff.2 (hL d (mem_append_left _ hd))
 .obtain⟨q,hq,rfl⟩:=mem_map.1 hp;exact⟨idxOf_lt_length_iff.2 (hL _ (yV hq).1),idxOf_lt_length_iff.2 (hL _ (yV hq).2)⟩
 .obtain⟨q,hq,rfl⟩:=mem_map.1 hp;exact⟨idxOf_lt_length_iff.2 (hL _ (hl q hq).1),idxOf_lt_length_iff.2 (hL _ (hl q hq).2)⟩
theorem aa9{f:CF}(h:aq f):aw (aZ f)<=(b8 f).length:=by
 obtain⟨h1,h2,h3⟩:=aa8 h.fg (λ_ hp=>gF hp);rw[Gr]at h1 h2 h3;refine PZ (abR h) h1 (λp hp=>h2 p (dA.1 hp)) (λp hp=>?_);obtain⟨q,hq,rfl⟩:=mem_map.1 (dA.1 hp);have:=h3 q hq;unfold iU;split
 .exact⟨this.2,this.1⟩
 .exact this
theorem ud{f:CF}(h:aq f){S:List Nat}(hS:∀c∈bQ f,c∈S):aw (aZ f)<=S.length :=
 zq3 (aa9 h) (List.Nodup.length_le_of_subset (q9 h.ow h.cl).1.1 (λc hc=>hS c (QK hc)))
def K3(f:CF):Prop:=∀p∈f.ow,p.k=3
theorem K3.td{f:CF}(h:K3 f):K3 (aZ f):=by
 intro p hp;obtain⟨q,hq,rfl⟩:=mem_map.1 (dA.1 hp);exact h q hq
theorem Dh{f:CF}{i:Nat}(hi:i<5):f.cl.getD i 0∈bQ f:=mem_append_left _ (eQ hi)
theorem kI{f:CF}(h5:f.cl.length=5){c:Nat}:c∈bQ f↔c∈f.cl\/∃p∈f.ow,c=p.l\/c=p.r:=by
 unfold bQ;rw[mem_append,tP h5,mem_flatMap];constructor
 .rintro(h|⟨p,hp,h⟩)
  .exact zq0 h
  .exact zq1 ⟨p,hp,by simpa using h⟩
 .rintro(h|⟨p,hp,h⟩)
  .exact zq0 h
  .exact zq1 ⟨p,hp,by simpa using h⟩
theorem AD{f:CF}(h5:f.cl.length=5){i d c:Nat}(h:c∈bQ (setC f i d)):c∈bQ f\/c=d:=by
 rw[kI (by simpa[setC] using h5)]at h;rw[kI h5];rcases h with h|h
 .rcases mem_or_eq_of_mem_set h with h|h
  .exact zq0 (zq0 h)
  .exact zq1 h
 .exact zq0 (zq1 h)
theorem UY{f:CF}(h5:f.cl.length=5){i c:Nat}{p:Pr}(h:c∈bQ (setO f i p)):c∈bQ f\/c=p.l\/c=p.r:=by
 rw[kI (f:=setO f i p) h5]at h;rw[kI h5];rcases h with h|⟨q,hq,h⟩
 .exact zq0 (zq0 h)
 .rcases mem_or_eq_of_mem_set hq with hq|rfl
  .exact zq0 (zq1 ⟨q,hq,h⟩)
  .exact zq1 h
theorem aa2{f:CF}(h5:f.cl.length=5){c:Nat}{p:Pr}(h:c∈bQ (ll f p)):c∈bQ f\/c=p.l\/c=p.r:=by
 rw[kI (f:=ll f p) h5]at h;rw[kI h5];rcases h with h|⟨q,hq,h⟩
 .exact zq0 (zq0 h)
 .rcases mem_append.1 hq with hq|hq
  .exact zq0 (zq1 ⟨q,hq,h⟩)
  .rw[mem_singleton]at hq;subst hq;exact zq1 h
theorem aa3{f:CF}(h5:f.cl.length=5){i c:Nat}(h:c∈bQ (gY f i)):c∈bQ f:=by
 rw[kI (f:=gY f i) h5]at h;rw[kI h5];rcases h with h|⟨q,hq,h⟩
 .exact zq0 h
 .exact zq1 ⟨q,(mj _ i).subset hq,h⟩
theorem QI{a b c:Nat}:(ek a b c=c\/ek a b c=a)/\(ek a b c=b->a=b):=by
 unfold ek;split
 .exact⟨zq1 rfl,λe=>e⟩
 .rename_i h;exact⟨zq0 rfl,λe=>absurd e h⟩
theorem XH{f:CF}(h5:f.cl.length=5){a b c:Nat}(h:c∈bQ (qe f a b)):(c∈bQ f\/c=a)/\(c=b->a=b):=by
 have Zq:(qe f a b).cl.length=5:=by show(f.cl.map _).length=5;simpa using h5
 rw[kI Zq]at h;rw[kI h5];have key:∀d,(d∈f.cl\/∃p∈f.ow,d=p.l\/d=p.r)->c=ek a b d->((c∈f.cl\/∃p∈f.ow,c=p.l\/c=p.r)\/c=a)/\(c=b->a=b):=by
  intro d hd e;have:=@QI a b d;rw[<-e]at this;refine⟨?_,this.2⟩;rcases this.1 with h|h
  .exact zq0 (by rw[h];exact hd)
  .exact zq1 h
 rcases h with h|⟨q,hq,h⟩
 .obtain⟨d,hd,e⟩:=mem_map.1 h;exact key d (zq0 hd) e.symm
 .obtain⟨p,hp,rfl⟩:=mem_map.1 hq;rcases h with h|h
  .exact key p.l (zq1 ⟨p,hp,zq0 rfl⟩) h
  .exact key p.r (zq1 ⟨p,hp,zq1 rfl⟩) h
theorem IR:∀(l:List Pr) {g:CF} {c d:Nat},d∈bQ (l.foldl (λh p=>b7 h c p.l) g)->d∈bQ g
 |[],_,_,_,h=>h
 |p::r,g,c,d,h=>IR r (g:=b7 g c p.l) h
theorem AQ:∀(l:List Pr) {g:CF} {c:Nat},(l.foldl (λh p=>b7 h c p.l) g).ow=g.ow
 |[],_,_=>rfl
 |p::r,g,c=>AQ r (g:=b7 g c p.l)
structure Fs(B:Nat)(F0:List Nat)(w W:World)(O:Nat)(cs:List Value)(A:Nat)(f:CF)(av ov:Value)(X:Nat)(p:Pr)(v:Value)(L:List FE):Prop where
 fl:Fl W B v L
 bo:Bk W O 280 cs
 ff:ew W A f av ov
 bx:Bk W X 182 [.int .i64 (p.k:Int),.int .i64 (p.l:Int),.int .i64 (p.r:Int)]
 no:∀k∈bn v L,k≠O/\k≠X/\k ∉ aH A av ov
 ox:O≠X
 of:O ∉ aH A av ov
 st:au F0 w (O::bn v L) W
 bb:B<=W.heap.size
section
variable {B:Nat} {F0:List Nat} {w W W':World} {O A X:Nat} {cs:List Value} {f:CF} {av ov:Value} {p:Pr} {v:Value} {L:List FE}
theorem Fs.below(h:Fs B F0 w W O cs A f av ov X p v L)(hb:Below W.heap.size W W'):Fs B F0 w W' O cs A f av ov X p v L :=
 ⟨h.fl.below hb,h.bo.below hb,h.ff.below hb,h.bx.below hb,h.no,h.ox,h.of,⟨hb.os.trans h.st.os,hb.tape.trans h.st.tape,hb.output.trans h.st.output,zq3 h.st.size hb.size,λk hk hn=>(hb.block k (zq6 hk h.st.size)).trans (h.st.block k hk hn),h.st.foot⟩,zq3 h.bb hb.size⟩
theorem Fs.fresh(h:Fs B F0 w W O cs A f av ov X p v L){x:FE}(hx:∀k∈x.bs,W.heap.size<=k):∀k∈x.bs,k ∉ bn v L/\k≠O/\k≠X/\k ∉ aH A av ov/\w.heap.size<=k/\B<=k:=λk hk=>by
 have h1:=hx k hk;have:=h.bb;exact⟨λhn=>by have:=h.fl.lt k hn;omega,λe=>by have:=h.bo.lt;omega,λe=>by have:=h.bx.lt;omega,λhn=>by have:=h.ff.lt k hn;omega,zq3 h.st.size h1,by omega⟩
theorem Fs.app {g1 c1:Nat} {o:Obj} {x:FE} {W1:World} (h:Fs B F0 w W O cs A f av ov X p v L) (hx:Fm W x.A x.f x.av x.ov) (hd:∀k∈x.bs,k ∉ bn v L/\k≠O/\k≠X/\k ∉ aH A av ov/\w.heap.size<=k/\B<=k)
  (aP:W1.ownsRow B 126 1 (.slice (some ⟨g1,0,none⟩) (L.length+1) c1) (L.length+1) (L.map FE.p++[x.p])) (hg:(W.alloc o).grownBy W1 v.ownBlock) (cj:some g1=v.ownBlock\/g1=(W.alloc o).heap.size) :
  Fs B F0 w W1 O cs A f av ov X p (.slice (some ⟨g1,0,none⟩) (L.length+1) c1) (L++[x]):=by
 obtain⟨a1,a2,a3⟩:=h.fl.app hx (λk hk=>(hd k hk).2.2.2.2.2) (λk hk=>(hd k hk).1) h.bb aP hg cj;have hv:∀k∈v.ownBlock.toList,k∈bn v L:=λk hk=>mem_append_left _ hk;refine⟨a1,h.bo.stp a2 (λhn=>(h.no O (hv O hn)).1 rfl),h.ff.of_eq (λk hk=>a2.block k (h.ff.lt k hk) (λhn=>(h.no k (hv k hn)).2.2 hk)),h.bx.stp a2 (λhn=>(h.no X (hv X hn)).2.1 rfl),λk hk=>?_,h.ox,h.of,?_,zq3 h.bb a2.size⟩
 .rcases a3 k hk with q|q|q
  .exact h.no k q
  .exact⟨(hd k q).2.1,(hd k q).2.2.1,(hd k q).2.2.2.1⟩
  .exact⟨λe=>by have:=h.bo.lt;omega,λe=>by have:=h.bx.lt;omega,λhn=>by have:=h.ff.lt k hn;omega⟩
 .have h2:=h.st;refine⟨a2.os.trans h2.os,a2.tape.trans h2.tape,a2.output.trans h2.output,zq3 h2.size a2.size,λk hk hn=>?_,λk hk=>?_⟩
  .rw[a2.block k (zq6 hk h2.size) (λhm=>?_)]
   .exact h2.block k hk hn
   .rcases h2.foot k (mem_cons_of_mem _ (hv k hm)) with q|q
    .exact hn q
    .omega
  .rcases mem_cons.1 hk with rfl|hk
   .exact h2.foot k (by simp)
   .rcases a3 k hk with q|q|q
    .exact h2.foot k (mem_cons_of_mem _ q)
    .exact zq1 (hd k q).2.2.2.2.1
    .exact zq1 (zq3 h2.size q)
theorem Fs.fin {g1 c1:Nat} {o:Obj} {x:FE} {W1:World} (h:Fs B F0 w W O cs A f av ov X p v L) (hx:Fm W x.A x.f x.av x.ov) (hd:∀k∈x.bs,k ∉ bn v L/\k≠O/\(k∈F0\/w.heap.size<=k)/\B<=k)
  (aP:W1.ownsRow B 126 1 (.slice (some ⟨g1,0,none⟩) (L.length+1) c1) (L.length+1) (L.map FE.p++[x.p])) (hg:(W.alloc o).grownBy W1 v.ownBlock) (cj:some g1=v.ownBlock\/g1=(W.alloc o).heap.size) :
  Fl W1 B (.slice (some ⟨g1,0,none⟩) (L.length+1) c1) (L++[x])/\Bk W1 O 280 cs/\au F0 w (O::bn (.slice (some ⟨g1,0,none⟩) (L.length+1) c1) (L++[x])) W1:=by
 obtain⟨a1,a2,a3⟩:=h.fl.app hx (λk hk=>(hd k hk).2.2.2) (λk hk=>(hd k hk).1) h.bb aP hg cj;have hv:∀k∈v.ownBlock.toList,k∈bn v L:=λk hk=>mem_append_left _ hk;refine⟨a1,h.bo.stp a2 (λhn=>(h.no O (hv O hn)).1 rfl),?_⟩;have h2:=h.st;refine⟨a2.os.trans h2.os,a2.tape.trans h2.tape,a2.output.trans h2.output,zq3 h2.size a2.size,λk hk hn=>?_,λk hk=>?_⟩
 .rw[a2.block k (zq6 hk h2.size) (λhm=>?_)]
  .exact h2.block k hk hn
  .rcases h2.foot k (mem_cons_of_mem _ (hv k hm)) with q|q
   .exact hn q
   .omega
 .rcases mem_cons.1 hk with rfl|hk
  .exact h2.foot k (by simp)
  .rcases a3 k hk with q|q|q
   .exact h2.foot k (mem_cons_of_mem _ q)
   .exact(hd k q).2.2.1
   .exact zq1 (zq3 h2.size q)
theorem Fs.flag(h:Fs B F0 w W O cs A f av ov X p v L)(j:Nat)(u:Value)(hO:O∈F0):Fs B F0 w (W.setCell ⟨O,j,none⟩ u) O (cs.set j u) A f av ov X p v L :=
 ⟨h.fl.of_eq (λk hk=>heap_setCell _ _ _ _ (h.no k hk).1),h.bo.set j u,h.ff.of_eq (λk hk=>heap_setCell _ _ _ _ (λe=>h.of (by have e':k=O:=e;rw[<-e'];exact hk))),h.bx.setO (p:=⟨O,j,none⟩) h.ox u,h.no,h.ox,h.of,h.st.setCell (p:=⟨O,j,none⟩) (zq0 hO) u,by simpa using h.bb⟩
end
theorem Fm.putW{w:World}{A:Nat}{f:CF}{av:Value}{g cap i:Nat}(h:Fm w A f av (.slice (some ⟨g,0,none⟩) f.ow.length cap))(hi:i<f.ow.length)(q:Pr):
  Fm (((w.setCell ⟨g,i*3,none⟩ (.int .i64 (q.k:Int))).setCell ⟨g,i*3+1,none⟩ (.int .i64 (q.l:Int))).setCell ⟨g,i*3+2,none⟩ (.int .i64 (q.r:Int))) A (setO f i q) av (.slice (some ⟨g,0,none⟩) f.ow.length cap)/\au (aH A av (.slice (some ⟨g,0,none⟩) f.ow.length cap)) w (aH A av (.slice (some ⟨g,0,none⟩) f.ow.length cap)) (((w.setCell ⟨g,i*3,none⟩ (.int .i64 (q.k:Int))).setCell ⟨g,i*3+1,none⟩ (.int .i64 (q.l:Int))).setCell ⟨g,i*3+2,none⟩ (.int .i64 (q.r:Int))):=by
 obtain⟨r3,-,-⟩:=Gl h.is.ow rfl hi q;have hs:au (Value.slice (some ⟨g,0,none⟩) f.ow.length cap).ownBlock.toList w (Value.slice (some ⟨g,0,none⟩) f.ow.length cap).ownBlock.toList (((w.setCell ⟨g,i*3,none⟩ (.int .i64 (q.k:Int))).setCell ⟨g,i*3+1,none⟩ (.int .i64 (q.l:Int))).setCell ⟨g,i*3+2,none⟩ (.int .i64 (q.r:Int))):=(((au.refl _ _).setCell (p:=⟨g,i*3,none⟩) (zq0 (by simp[Value.ownBlock])) _).setCell (p:=⟨g,i*3+1,none⟩) (zq0 (by simp[Value.ownBlock])) _).setCell (p:=⟨g,i*3+2,none⟩) (zq0 (by simp[Value.ownBlock])) _;exact h.newRow (ow':=f.ow.set i q) (by simp) r3 hs
theorem Fm.putK{w:World}{A:Nat}{f:CF}{av:Value}{g cap i:Nat}(h:Fm w A f av (.slice (some ⟨g,0,none⟩) f.ow.length cap))(hi:i<f.ow.length)(k:Nat):
  Fm (w.setCell ⟨g,i*3,none⟩ (.int .i64 (k:Int))) A (setO f i ⟨k,(owA f i).l,(owA f i).r⟩) av (.slice (some ⟨g,0,none⟩) f.ow.length cap)/\au (aH A av (.slice (some ⟨g,0,none⟩) f.ow.length cap)) w (aH A av (.slice (some ⟨g,0,none⟩) f.ow.length cap)) (w.setCell ⟨g,i*3,none⟩ (.int .i64 (k:Int))):=by
 have h1:=(h.is.ow.stored (i*3) (.int .i64 (k:Int))).1;rw[mf hi]at h1;have hs:au (Value.slice (some ⟨g,0,none⟩) f.ow.length cap).ownBlock.toList w (Value.slice (some ⟨g,0,none⟩) f.ow.length cap).ownBlock.toList (w.setCell ⟨g,i*3,none⟩ (.int .i64 (k:Int))):=(au.refl _ _).setCell (p:=⟨g,i*3,none⟩) (zq0 (by simp[Value.ownBlock])) _;exact h.newRow (ow':=f.ow.set i ⟨k,(owA f i).l,(owA f i).r⟩) (by simp) h1 hs
theorem Dl{f:CF}(h:aq f):qT (qT (qf f) f.ow) f.ap<24:=by
 have:aw f<=24:=PZ (by omega) h.cl h.ow h.ap;unfold aw at this;omega
section
variable {B:Nat} {w:World} {O A:Nat} {nv tv:Value} {nu da fu:Bool} {f:CF} {av ov:Value} {v:Value} {L:List FE}
theorem rO(hB:Fl w B v L)(Ei:Bk w O 280 [nv,tv,.bool nu,.bool da,.bool fu])(hx:Fm w A f av ov)(hO:aq f)(ha:f.ap.length<=40000)(Fv:∀k∈bn v L,k≠O/\k ∉ aH A av ov)(kj:O ∉ aH A av ov)(cN:∀k∈aH A av ov,B<=k)(hB':B<=w.heap.size){c i:Nat}(hb:cU f.ow c=some i)(hL:L.length<=900000):
  Calls prog 264 #[.pointer (some ⟨O,0,none⟩),v,.pointer (some ⟨A,0,none⟩),.int .i64 c] w λe w'=>∃v' L',e=.returned v'/\Fl w' B v' (L++L')/\L'.map (·.f)=(jk f c).1/\Bk w' O 280 [nv,tv,.bool nu,.bool da,.bool (fu||(jk f c).2)]/\au (O::(bn v L++aH A av ov)) w (O::bn v' (L++L')) w':=by
 obtain⟨i0,k9,gX,fK,f9⟩:=info_parts infoPF;have iE:=hO.owLen;obtain⟨hi,dp⟩:=eC hb;obtain⟨va,vc,hv,-,-⟩:=aj hB.row;subst hv;have hfi:jk f c=J7 f c i:=by unfold jk;rw[hb]
 have mL:=ab (cI c hx.is);rw[hb]at mL;obtain⟨oa,oc,gj,-,-⟩:=aj hx.is.ow;subst gj;have c6:=hx.is.c6;obtain⟨g,cap,dQ,-,-⟩:=aE hx.is.ow hi;simp only[Value.slice.injEq,true_and]at dQ;obtain⟨rfl,rfl⟩:=dQ;obtain⟨x0,x1,x2⟩:=aD hx.is.ow hi;obtain⟨p,hp⟩:∃p,p=f.ow.getD i ax:=⟨_,rfl⟩;rw[<-hp]at x0 x1 x2;obtain⟨W1,dV⟩:∃W1,W1=w.alloc (.cells #[Value.int .i64 p.k,.int .i64 p.l,.int .i64 p.r] 182):=⟨_,rfl⟩;have cf:Below w.heap.size w W1:=by rw[dV];exact ah w _
 have hX:Bk W1 w.heap.size 182 [Value.int .i64 p.k,.int .i64 p.l,.int .i64 p.r]:=by rw[dV];exact Bk.new w _ _
 obtain⟨X,gV⟩:∃X,X=w.heap.size:=⟨_,rfl⟩;rw[<-gV]at hX;have hFs:Fs B (O::(bn (.slice va L.length vc) L++aH A av (.slice (some ⟨g,0,none⟩) f.ow.length oc))) w W1 O [nv,tv,.bool nu,.bool da,.bool fu] A f av (.slice (some ⟨g,0,none⟩) f.ow.length oc) X p (.slice va L.length vc) L:=by
  refine⟨hB.below cf,Ei.below cf,hx.is.below cf,hX,λk hk=>⟨(Fv k hk).1,λe=>?_,(Fv k hk).2⟩,λe=>?_,kj,(au.ofBw (F:=O::(bn (.slice va L.length vc) L++aH A av (.slice (some ⟨g,0,none⟩) f.ow.length oc))) cf).foots (λk hk=>?_),zq3 hB' cf.size⟩
  .have:=hB.lt k hk;omega
  .have:=Ei.lt;omega
  .rcases mem_cons.1 hk with rfl|hk
   .exact zq0 (by simp)
   .exact zq0 (mem_cons_of_mem _ (mem_append_left _ hk))
 have b0:=hX.cell 0 rfl;have H1:=ab hFs;have HX1:=ab (hx.below cf);have DZ:=ab cN;have Sc:=ab Fv;have X6:=ab kj;have HP:Hid (p=owA f i):=ab hp;have DY:=ab hfi;have HO:=ab hO;have i1:(0:Int)<=(i:Int):=by omega
 have i2:(i:Int)<(f.ow.length:Int):=by omega
 have wZ:Hid ((owA f i).l=c):=ab dp;clear hB Ei hO Fv kj cN cf hX hFs hp hfi hx hb dp hB';rw[show fL (some i)=(i:Int) from rfl]at mL;go_enter func264,ntmps264;go_wp2_with fail
 refine(uh mL).mono ?_;rintro e w1 ⟨rfl,rfl⟩;clear mL;go_upto_region 3 with fail;rw[<-dV,<-gV];clear dV gV;by_cases CR:p.k=3
 .have d3:((p.k:Int)==3)=true:=by simp[CR]
  have HE:Hid (jk f c=([f],false)):=ab (by rw[uh DY];unfold J7;rw[if_pos (show(owA f i).k=3 by rw[<-uh HP];exact CR)]);have HR:=ab (uh H1).fl.row;have nV:=(uh H1).bb;clear CR;go_wp2_with (at_builtin;refine aS _ rfl (.tmp 27) (.tmp 29) 125 rfl B 126 i0 _ 1 8 underlying125 k9 gX fK f9 rfl (by decide) _ L.length (L.map FE.p) rfl ((uh HR).alloc _) ⟨_,0,none⟩ 1 [.pointer (some ⟨A,0,none⟩)] rfl rfl (aN _ _ (by simp) [.pointer (some ⟨A,0,none⟩)] _) (by intro u hu;simp only[mem_singleton]at hu;subst hu;rfl) (by omega) (by omega) (by simp;omega) ?_)
  intro g1 cap1 wa fD dE ki;have HF:=ab ((uh H1).fin (x:=⟨A,f,av,.slice (some ⟨g,0,none⟩) f.ow.length oc⟩) (uh HX1) (λk hk=>⟨λhn=>(uh Sc k hn).2 hk,λe=>uh X6 (by rw[<-e];exact hk),zq0 (mem_cons_of_mem _ (mem_append_right _ hk)),uh DZ k hk⟩) fD dE (by simpa using ki));clear fD dE ki;go_wp2_with fail
  go_ret;refine⟨_,[⟨A,f,av,.slice (some ⟨g,0,none⟩) f.ow.length oc⟩],rfl,(uh HF).1,by rw[uh HE];rfl,?_,(uh HF).2.2⟩;rw[uh HE,Bool.or_false];exact(uh HF).2.1
 .have d3:((p.k:Int)==3)=false:=by simp;omega
  have afN:jk f c=if 24<=aw f then ([fO f i],true) else ([fO f i,oP f c i],false):=by rw[uh DY];unfold J7;rw[if_neg (show ¬ ((owA f i).k=3) by rw[<-uh HP];exact CR)]
  have xI:=ab afN;have kM:=ab (cK (uh H1).ff (uh HO).c5 ha (zq3 iE (by omega)));clear CR afN;go_wp2_with fail
  refine(uh kM).mono ?_;rintro e w2 ⟨A2,rfl,If⟩;obtain⟨av2,ov2,mE⟩:=If.frf;obtain⟨g2,cap2,dx,-,-⟩:=aE mE.fm.is.ow hi;have afU:ov2=.slice (some ⟨g2,0,none⟩) f.ow.length cap2:=dx;subst afU;have e6:=mE.fm.is.c6;obtain⟨Ed,cB⟩:=Fm.putK mE.fm hi 3;obtain⟨-,⟨⟨u0,y0⟩,-,-⟩,z0,-,-⟩:=Gl mE.fm.is.ow rfl hi ax;obtain⟨w3,Iq⟩:∃w3,w3=w2.setCell ⟨g2,i*3,none⟩ (.int .i64 3):=⟨_,rfl⟩;rw[show w2.setCell ⟨g2,i*3,none⟩ (.int .i64 ((3:Nat):Int))=w3 from Iq.symm]at Ed cB;have mY:=mE.step (x':=⟨A2,fO f i,av2,.slice (some ⟨g2,0,none⟩) f.ow.length cap2⟩) Ed cB;have hL3:=(uh H1).below mY.bw;have HR:=ab hL3.fl.row;have Mt:=ab ((uh H1).fresh mY.ge);have HF3:=ab mY.fm;have HL3:=ab hL3;have nV:=hL3.bb;clear If mE dx Ed cB mY hL3 kM;go_upto_region 7 with fail;rw[<-Iq];clear Iq e6 y0 z0 u0;go_wp2_with (at_builtin;refine aS _ rfl (.tmp 40) (.tmp 42) 125 rfl B 126 i0 _ 1 8 underlying125 k9 gX fK f9 rfl (by decide) _ L.length (L.map FE.p) rfl ((uh HR).alloc _) ⟨_,0,none⟩ 1 [.pointer (some ⟨A2,0,none⟩)] rfl rfl (aN _ _ (by simp) [.pointer (some ⟨A2,0,none⟩)] _) (by intro u hu;simp only[mem_singleton]at hu;subst hu;rfl) (by omega) (by omega) (by simp;omega) ?_)
  intro g4 cap4 w4 iG eg jG;have hL4:=(uh HL3).app (uh HF3) (uh Mt) iG eg (by simpa using jG);have BS:aw f<=100000:=by
   unfold aw;have h1:=Dl (uh HO);omega
  have RC:=ab (ve hL4.ff (zq3 ha (by omega)) (zq3 iE (by omega)) BS);have HL4:=ab hL4;clear iG eg jG hL4 HR Mt HF3 HL3;go_wp2_with fail
  refine(uh RC).mono ?_;rintro e w5 ⟨rfl,dT⟩;have Zy:=(uh HL4).below dT;have Yg:=ab Zy;obtain⟨N,hN⟩:∃N,N=aw f:=⟨_,rfl⟩;rw[<-hN]at BS xI ⊢;have xe:=ab hN;clear dT RC HL4 hN;by_cases qz:24<=N
  .have d5:decide ((24:Int)<=(N:Int))=true:=(by simp;omega);have HE:Hid (jk f c=([fO f i],true)):=ab (by rw[uh xI,if_pos qz]);have o4:=Zy.bo.cell 4 rfl;have z4:=Zy.bo.frz 4;have HL6:=ab (Zy.flag 4 (.bool true) (by simp));clear qz Zy;go_wp2_with fail
   go_ret;refine⟨_,[⟨A2,fO f i,av2,.slice (some ⟨g2,0,none⟩) f.ow.length cap2⟩],rfl,(uh HL6).fl,by rw[uh HE];rfl,?_,(uh HL6).st⟩;rw[uh HE,Bool.or_true];exact(uh HL6).bo
  .have d5:decide ((24:Int)<=(N:Int))=false:=(by simp;omega);have HE:Hid (jk f c=([fO f i,oP f c i],false)):=ab (by rw[uh xI,if_neg qz]);have kM:=ab (cK Zy.ff (uh HO).c5 ha (zq3 iE (by omega)));clear qz Zy;go_wp2_with fail
   refine(uh kM).mono ?_;rintro e w6 ⟨A6,rfl,hN6⟩;obtain⟨av6,ov6,Ma⟩:=hN6.frf;obtain⟨g6,cap6,afW,-,-⟩:=aE Ma.fm.is.ow hi;have afX:ov6=.slice (some ⟨g6,0,none⟩) f.ow.length cap6:=afW;subst afX;have e6:=Ma.fm.is.c6;obtain⟨TL,Ee⟩:=Fm.putW Ma.fm hi ⟨3,c,N⟩;obtain⟨-,⟨⟨u0,y0⟩,⟨u1,y1⟩,⟨u2,y2⟩⟩,z0,z1,z2⟩:=Gl Ma.fm.is.ow rfl hi ax;obtain⟨w7,hw7⟩:∃w7,w7=((w6.setCell ⟨g6,i*3,none⟩ (.int .i64 3)).setCell ⟨g6,i*3+1,none⟩ (.int .i64 (c:Int))).setCell ⟨g6,i*3+2,none⟩ (.int .i64 (N:Int)):=⟨_,rfl⟩;rw[show((w6.setCell ⟨g6,i*3,none⟩ (.int .i64 (((⟨3,c,N⟩:Pr).k:Nat):Int))).setCell ⟨g6,i*3+1,none⟩ (.int .i64 (((⟨3,c,N⟩:Pr).l:Nat):Int))).setCell ⟨g6,i*3+2,none⟩ (.int .i64 (((⟨3,c,N⟩:Pr).r:Nat):Int))=w7 from hw7.symm]at TL Ee;have vq:=Ma.step (x':=⟨A6,setO f i ⟨3,c,N⟩,av6,.slice (some ⟨g6,0,none⟩) f.ow.length cap6⟩) TL Ee;have b2:=((uh Yg).below vq.bw).bx.cell 2 rfl;have yi:=ab (qN vq.fm 4 N p.r (by
    show(f.ow.set i _).length<=100000;rw[length_set];exact zq3 iE (by omega)))
   have HF7:=ab vq;clear hN6 Ma afW TL Ee vq kM;go_upto_region 14 with fail;rw[<-hw7];clear hw7 e6 y0 y1 y2 z0 z1 z2 u0 u1 u2;go_wp2_with fail
   refine(uh yi).mono ?_;rintro e w8 ⟨rfl,ov8,RJ,CH⟩;have xt:=(uh HF7).step (x':=⟨A6,oP f c i,av6,ov8⟩) (by
    have e9:oP f c i={ setO f i ⟨3,c,N⟩ with ow:=(setO f i ⟨3,c,N⟩).ow++[⟨4,N,p.r⟩] }:=(by rw[uh HP,uh xe];rfl);rw[e9];exact RJ) CH
   have hL8:=(uh Yg).below xt.bw;have HR:Hid (w8.ownsRow B 126 1 (.slice (some ⟨g4,0,none⟩) (L.length+1) cap4) (L.length+1) ((L++[(⟨A2,fO f i,av2,.slice (some ⟨g2,0,none⟩) f.ow.length cap2⟩:FE)]).map FE.p)):=ab (by have:=hL8.fl.row;rwa [length_append,length_singleton]at this);have Mt:=ab ((uh Yg).fresh xt.ge);have Sj:=ab xt.fm;have HL8:=ab hL8;have asj:=hL8.bb;clear RJ CH xt hL8 yi;go_wp2_with (at_builtin;refine aS _ rfl (.tmp 68) (.tmp 70) 125 rfl B 126 i0 _ 1 8 underlying125 k9 gX fK f9 rfl (by decide) _ (L.length+1) ((L++[(⟨A2,fO f i,av2,.slice (some ⟨g2,0,none⟩) f.ow.length cap2⟩:FE)]).map FE.p) rfl ((uh HR).alloc _) ⟨_,0,none⟩ 1 [.pointer (some ⟨A6,0,none⟩)] rfl rfl (aN _ _ (by simp) [.pointer (some ⟨A6,0,none⟩)] _) (by intro u hu;simp only[mem_singleton]at hu;subst hu;rfl) (by omega) (by omega) (by simp;omega) ?_)
   intro g9 cap9 w9 Xr OT Xa;have HF:=ab ((uh HL8).fin (x:=⟨A6,oP f c i,av6,ov8⟩) (g1:=g9) (c1:=cap9) (uh Sj) (λk hk=>⟨(uh Mt k hk).1,(uh Mt k hk).2.1,zq1 (uh Mt k hk).2.2.2.2.1,(uh Mt k hk).2.2.2.2.2⟩) (by rw[length_append,length_singleton,map_append,append_assoc];exact Xr) OT (by simpa using Xa));rw[append_assoc,length_append,length_singleton]at HF;clear Xr OT Xa;go_wp2_with fail
   go_ret;refine⟨_,[⟨A2,fO f i,av2,.slice (some ⟨g2,0,none⟩) f.ow.length cap2⟩,⟨A6,oP f c i,av6,ov8⟩],rfl,(uh HF).1,by rw[uh HE];rfl,?_,(uh HF).2.2⟩;rw[uh HE,Bool.or_false];exact(uh HF).2.1
end
