import Derived.Test.YtciihepbeacppaaGreatM14
set_option maxRecDepth 100000
set_option maxHeartbeats 0
namespace Go.Proofs.YtciihepbeacppaaGreat
open Tryz Go.RowKit List World Below
set_option linter.unusedVariables false
theorem rL(f:CF)(c:Nat):(oG f c).1.length<=2:=by
 unfold oG;split
 .simp
 .unfold Vw;split
  .simp
  .split <;> simp
theorem qd{α β:Type}{d:Nat}(g:List α × Bool->β->List α × Bool):∀(l:List β) (r:List α × Bool),(∀b∈l,∀r,(g r b).1.length<=r.1.length+d)->(l.foldl g r).1.length<=r.1.length+d*l.length
 |[],r,_=>by simp
 |b::l,r,hg=>by
  have h1:=qd g l (g r b) (λb' uI=>hg b' (by simp[uI]));have h2:=hg b (by simp) r;rw[foldl_cons,length_cons,Nat.mul_succ];omega
theorem rX{f:CF}(h:au f)(v:Nat):(jV f v).1.length<=96:=by
 unfold jV;split
 .simp
 .split
  .exact zq3 (rL _ _) (by omega)
  .have h1:=qd (d:=4) (λr i=>wP f v i r) (range f.ow.length) (([]:List CF),false) (λi _ r=>by
    have h2:=qd (d:=2) (λr g=>BY r g (g.cl.getD (1+v) 0)) (gO f (f.cl.getD (1+v) 0) i) r (λg _ r=>by
     unfold BY;have:=rL g (g.cl.getD (1+v) 0);rw[length_append];omega)
    have h3:=po f (f.cl.getD (1+v) 0) i;exact zq3 h2 (by omega))
   rw[length_range]at h1;have:=h.owLen;simp only[length_nil]at h1;exact zq3 h1 (by omega)
theorem PU(f:CF)(n:Nd):(og f n).1.length<=1/\(og f n).2.length<=1:=by
 constructor
 .simp only[og];split <;> simp
 .simp only[og];split <;> simp
theorem PY{f:CF}(h:au f)(n:Nd):(cN n f).nx.length<=96/\(cN n f).ot.length<=1:=by
 have op:∀v g,(cH (jV f v) g).nx.length<=96/\(cH (jV f v) g).ot.length<=1:=λv g=>⟨by simpa[cH] using rX h v,by simp[cH]⟩;have cm:=PU f n;unfold cN;split
 .simp[DC]
 .split
  .simp
  .split
   .exact op _ _
   .split
    .exact op _ _
    .split
     .split <;> simp
     .split
      .exact op _ _
      .split
       .simp
       .split
        .exact⟨zq3 cm.1 (by omega),cm.2⟩
        .split
         .exact⟨zq3 cm.2 (by omega),cm.1⟩
         .simp
theorem DZ{b:Bool}{n k m:Nat}{s:Sr}(h:Gd m s):Gd m (wrI b n k s)/\eT (wrI b n k s)=eT s/\(wrI b n k s).lf=s.lf:=by
 unfold wrI;split
 .exact⟨⟨h.en,h.lo,h.fu,h.ok⟩,rfl,rfl⟩
 .exact⟨h,rfl,rfl⟩
theorem Yt{c:Cd}(hb:c.bd=true){fuel n:Nat}(eJ:3002<=fuel){f:CF}{s:Sr}(hv:(c.nds.getD n aK).v<4)(ha:(c.nds.getD n aK).ai<4)(hf:Td f)(h:Gd 1152 s):Gd 500000 (mf c fuel n f s)/\(eT (mf c fuel n f s):Int)+(mf c fuel n f s).lf<=eT s+s.lf:=by
 obtain⟨t1,t2⟩:=lB hv ha hf;obtain⟨l1,l2⟩:=PY hf.ok (c.nds.getD n aK);unfold mf;obtain⟨a1,b1,c1⟩:=DZ (b:=decide ((c.nds.getD n aK).op=0)&&!decide (fA f=[])) (n:=n) (k:=2) h;obtain⟨a2,b2,c2⟩:=DZ (b:=(cN (c.nds.getD n aK) f).nu) (n:=n) (k:=3) a1;obtain⟨a3,b3,c3⟩:=DZ (b:=(cN (c.nds.getD n aK) f).da) (n:=n) (k:=4) a2;obtain⟨s3,fe⟩:∃s3,s3=wrI (cN (c.nds.getD n aK) f).da n 4 (wrI (cN (c.nds.getD n aK) f).nu n 3 (wrI (decide ((c.nds.getD n aK).op=0)&&!decide (fA f=[])) n 2 s)):=⟨_,rfl⟩;rw[<-fe]at a3 b3 c3;have a4:Gd 1152 (fuS (cN (c.nds.getD n aK) f).fu s3):=⟨a3.en,a3.lo,λhx=>a3.fu (by
  have:(s3.fu||(cN (c.nds.getD n aK) f).fu)=false:=hx;rw[Bool.or_eq_false_iff]at this;exact this.1),a3.ok⟩
 obtain⟨g1,g2⟩:=Cx hb (a:=n) (b:=(c.nds.getD n aK).nx) eJ (cN (c.nds.getD n aK) f).nx (m:=1152) (by omega) (by omega) t1 a4;obtain⟨k1,k2⟩:=Cx hb (a:=n) (b:=(c.nds.getD n aK).ot) eJ (cN (c.nds.getD n aK) f).ot (m:=1152+3001*(cN (c.nds.getD n aK) f).nx.length) (by omega) (by omega) t2 g1;simp only[<-fe];refine⟨k1.wide (by omega),?_⟩;refine Int.le_trans k2 (Int.le_trans g2 ?_);show(eT s3:Int)+s3.lf<=_;rw[b3,c3,b2,c2,b1,c1];exact Int.le_refl _
def NdV(c:Cd):Prop:=∀n,(c.nds.getD n aK).v<4/\(c.nds.getD n aK).ai<4
theorem Og{c:Cd}(hb:c.bd=true)(hc:NdV c){fuel n:Nat}(eJ:3002<=fuel):∀(l:List CF) {s:Sr},cy l->pK s->Gd 500000 s->Gd 500000 (mg c fuel n l s)/\pK (mg c fuel n l s)/\(eT (mg c fuel n l s):Int)+(mg c fuel n l s).lf<=eT s+s.lf
 |[],s,_,hi,h=>⟨h,hi,Int.le_refl _⟩
 |f::r,s,hl,hi,h=>by
  unfold mg;split
  .exact⟨h,hi,Int.le_refl _⟩
  .rename_i hf;have hlf:=h.fu (by simpa using hf);have h':Gd 1152 s:=⟨h.en,by omega,h.fu,h.ok⟩;obtain⟨g1,g2⟩:=Yt hb eJ (hc n).1 (hc n).2 (hl f (by simp)) h';obtain⟨k1,k2,k3⟩:=Og hb hc eJ r (λx hx=>hl x (by simp[hx])) (Yu (hc n).1 (hc n).2 (hl f (by simp)) hi) g1;exact⟨k1,k2,Int.le_trans k3 g2⟩
theorem VI{l:List fS}(h:∀e∈l,Td e.f):cy (lH l):=by
 intro f hf;obtain⟨e,he,rfl⟩:=mem_map.1 hf;exact h e (mem_filter.1 he).1
theorem YB{c:Cd}(hb:c.bd=true)(hc:NdV c){fuel n:Nat}(eJ:3002<=fuel){s:Sr}(hi:pK s)(h:Gd 500000 s)(hp:rq s=some n):Gd 500000 (mZ c fuel n s)/\pK (mZ c fuel n s)/\(eT (mZ c fuel n s):Int)+(mZ c fuel n s).lf+1<=eT s+s.lf:=by
 have WK:=findIdx?_eq_some_iff_getElem.1 hp;obtain⟨hn,oI,-⟩:=WK;have f7:bf s n=s.kn[n]:=by unfold bf;rw[getD_eq_getElem?_getD,getElem?_eq_getElem hn];rfl
 have hu:eT { s with kn:=s.kn.set n ((bf s n).map (λe=>⟨e.f,true⟩)) }+1<=eT s:=by
  have h1:=uo (λl:List fS=>l.countP (λe=>!e.d)) [] s.kn n ((bf s n).map (λe=>⟨e.f,true⟩));rw[if_pos hn,if_pos hn]at h1;have h2:List.countP (λe:fS=>!e.d) ((bf s n).map (λe=>(⟨e.f,true⟩:fS)))=0:=by
   rw[countP_eq_zero];intro e he;obtain⟨x,-,rfl⟩:=mem_map.1 he;simp
  have h3:0<List.countP (λe:fS=>!e.d) (s.kn.getD n []):=by
   rw[countP_pos_iff];obtain⟨e,he,hd⟩:=any_eq_true.1 oI;exact⟨e,by rw[getD_eq_getElem?_getD,getElem?_eq_getElem hn];exact he,hd⟩
  unfold eT;simp only[h2]at h1;show a6 (λl:List fS=>l.countP (λe=>!e.d)) (s.kn.set n ((bf s n).map (λe=>(⟨e.f,true⟩:fS))))+1<=_;omega
 have he:pZ { s with kn:=s.kn.set n ((bf s n).map (λe=>⟨e.f,true⟩)) }<=pZ s:=by
  have:=DQ (g:=List.length) (λl=>by simp) (s:=s) (n:=n) (d:=0) (x:=(bf s n).map (λe=>(⟨e.f,true⟩:fS))) (by simp);simpa[pZ] using this
 have h':Gd 500000 { s with kn:=s.kn.set n ((bf s n).map (λe=>⟨e.f,true⟩)) }:=⟨by have:=h.en;show(pZ _:Int)+s.lf<=3000;omega,h.lo,h.fu,h.ok⟩;have lN:pK { s with kn:=s.kn.set n ((bf s n).map (λe=>⟨e.f,true⟩)) }:=hi.set n (λe he=>by
  obtain⟨x,hx,rfl⟩:=mem_map.1 he;exact hi.at n x hx)
 obtain⟨g1,g2,g3⟩:=Og hb hc (n:=n) eJ (lH (bf s n)) (VI (hi.at n)) lN h';refine⟨g1,g2,?_⟩;show(eT (mg c fuel n (lH (bf s n)) { s with kn:=s.kn.set n ((bf s n).map (λe=>⟨e.f,true⟩)) }):Int)+(mg c fuel n (lH (bf s n)) { s with kn:=s.kn.set n ((bf s n).map (λe=>⟨e.f,true⟩)) }).lf+1<=_;have:({ s with kn:=s.kn.set n ((bf s n).map (λe=>⟨e.f,true⟩)) }:Sr).lf=s.lf:=rfl;rw[this]at g3;omega
theorem DN{c:Cd}(hb:c.bd=true)(hc:NdV c){fuel:Nat}(eJ:3002<=fuel):∀(n:Nat) {s:Sr},pK s->Gd 500000 s->(eT s:Int)+s.lf<n->0<n->(jY c fuel n s).ok=true
 |0,s,_,_,_,h=>by omega
 |n+1,s,hi,h,hn,_=>by
  unfold jY;split
  .exact h.ok
  .rename_i k hk;split
   .exact h.ok
   .rename_i hf;obtain⟨g1,g2,g3⟩:=YB hb hc eJ hi h hk;have hlf:=h.fu (by simpa using hf);have hu:0<eT s:=by
     obtain⟨h1,h2,-⟩:=findIdx?_eq_some_iff_getElem.1 hk;have h3:=ul (λl:List fS=>l.countP (λe=>!e.d)) [] s.kn k h1;have h4:0<List.countP (λe:fS=>!e.d) (s.kn.getD k []):=by
      rw[countP_pos_iff];obtain⟨e,he,hd⟩:=any_eq_true.1 h2;exact⟨e,by rw[getD_eq_getElem?_getD,getElem?_eq_getElem h1];exact he,hd⟩
     unfold eT;omega
    exact DN hb hc eJ n g2 g1 (by omega) (by omega)
theorem tJ{ms:List Nat}{c d:Nat}(h:d∈ii ms c):d∈ms\/d=c:=by
 unfold ii at h;split at h
 .exact zq0 h
 .rw[mem_append,mem_singleton]at h;exact h
theorem Bf:∀(l:List Nat) {ms:List Nat} {d:Nat},d∈l.foldl ii ms->d∈ms\/d∈l
 |[],ms,d,h=>zq0 h
 |c::l,ms,d,h=>by
  rcases Bf l h with h|h
  .rcases tJ h with h|rfl
   .exact zq0 h
   .exact zq1 (by simp)
  .exact zq1 (by simp[h])
theorem wM{f:CF}{p:Pr}(hp:p∈f.ow):p.l∈dO f/\p.r∈dO f:=⟨mem_append_right _ (mem_flatMap.2 ⟨p,hp,by simp⟩),mem_append_right _ (mem_flatMap.2 ⟨p,hp,by simp⟩)⟩
theorem NU{f:CF}{k:Nat}{ms:List Nat}{d:Nat}(h:d∈xj f k ms):d∈ms\/d∈dO f:=by
 unfold xj at h;split at h
 .rename_i i hi;rcases tJ h with h|rfl
  .exact zq0 h
  .exact zq1 (wM (xJ hi)).2
 .exact zq0 h
theorem uf{f:CF}:∀(n k:Nat) {ms:List Nat} {d:Nat},d∈mX f n k ms->d∈ms\/d∈dO f
 |0,_,_,_,h=>zq0 h
 |n+1,k,ms,d,h=>by
  unfold mX at h;split at h
  .rcases uf n (k+1) h with h|h
   .exact NU h
   .exact zq1 h
  .exact zq0 h
theorem Bx{f:CF}:∀(l:List Pr) {ms:List Nat} {d:Nat},(∀p∈l,p∈f.ow)->d∈l.foldl (wY f) ms->d∈ms\/d∈dO f
 |[],_,_,_,h=>zq0 h
 |p::r,ms,d,hl,h=>by
  rcases Bx r (λq hq=>hl q (by simp[hq])) h with h|h
  .rcases uf _ _ h with h|h
   .rcases tJ h with h|rfl
    .exact zq0 h
    .exact zq1 (wM (hl p (by simp))).1
   .exact zq1 h
  .exact zq1 h
theorem NL{f:CF}{d:Nat}(h:d∈t0 f):d∈dO f:=by
 rcases Bx f.ow (λp hp=>hp) h with h|h
 .rcases uf _ _ h with h|h
  .rcases Bf _ h with h|h
   .simp at h
   .exact mem_append_left _ h
  .exact h
 .exact h
theorem Dx:∀(l:List Pr) {m K:Nat},m<K->(∀p∈l,p.l<K/\p.r<K)->qS m l<K
 |[],_,_,h,_=>h
 |p::r,m,K,h,hl=>by
  have:=hl p (by simp);exact Dx r (m:=max (max m p.l) p.r) (by omega) (λq hq=>hl q (by simp[hq]))
theorem MY{f:CF}{K:Nat}(hK:0<K)(h1:∀c∈kg f,c<K)(h2:∀p∈f.ow,p.l<K/\p.r<K)(h3:∀p∈f.ap,p.l<K/\p.r<K):a8 f<=K:=by
 unfold a8;have h0:tM f<K:=by
  have a0:=h1 _ (im (f:=f) (i:=0) (by omega));have a1:=h1 _ (im (f:=f) (i:=1) (by omega));have a2:=h1 _ (im (f:=f) (i:=2) (by omega));have a3:=h1 _ (im (f:=f) (i:=3) (by omega));have a4:=h1 _ (im (f:=f) (i:=4) (by omega));unfold tM;omega
 have:=Dx f.ap (Dx f.ow h0 h2) h3;omega
theorem fM{f:CF}:∀c∈dO f,c<a8 f:=by
 have hc:tM f<a8 f:=by
  have h1:=(nV f.ow (tM f)).1;have h2:=(nV f.ap (qS (tM f) f.ow)).1;unfold a8;omega
 intro c h;unfold dO at h;rw[mem_append,mem_flatMap]at h;rcases h with h|⟨p,hp,h⟩
 .unfold kg at h;unfold tM at hc;simp only[mem_cons,not_mem_nil,or_false]at h;omega
 .have h1:=(nV f.ow (tM f)).2 p hp;have h2:=(nV f.ap (qS (tM f) f.ow)).1;unfold a8;simp only[mem_cons,not_mem_nil,or_false]at h;rcases h with rfl|rfl <;> omega
theorem Yh{f:CF}(h:au f):0<(t0 f).length:=by
 have:=(pD h.ow h.cl).2.2.1 _ (im (f:=f) (i:=0) (by omega));exact length_pos_of_mem this
theorem Xw{f:CF}(h:au f)(hl:∀p∈f.ap,p.l∈dO f/\p.r∈dO f):(∀c∈kg (Jo f),c<(t0 f).length)/\(∀p∈(Jo f).ow,p.l<(t0 f).length/\p.r<(t0 f).length)/\∀p∈(Jo f).ap,p.l<(t0 f).length/\p.r<(t0 f).length:=by
 have hL:=ua h.ow h.cl h.lf;refine⟨λc hc=>?_,λp hp=>?_,λp hp=>?_⟩
 .unfold Jo at hc;rw[Ez]at hc;obtain⟨d,hd,rfl⟩:=mem_map.1 hc;exact idxOf_lt_length_iff.2 (hL d (mem_append_left _ hd))
 .obtain⟨q,hq,rfl⟩:=mem_map.1 hp;exact⟨idxOf_lt_length_iff.2 (hL _ (wM hq).1),idxOf_lt_length_iff.2 (hL _ (wM hq).2)⟩
 .obtain⟨q,hq,rfl⟩:=mem_map.1 hp;exact⟨idxOf_lt_length_iff.2 (hL _ (hl q hq).1),idxOf_lt_length_iff.2 (hL _ (hl q hq).2)⟩
theorem Xx{f:CF}(h:au f):a8 (bR f)<=(t0 f).length:=by
 obtain⟨h1,h2,h3⟩:=Xw h.fg (λ_ hp=>rK hp);rw[Yf]at h1 h2 h3;refine MY (Yh h) h1 (λp hp=>h2 p (mK.1 hp)) (λp hp=>?_);obtain⟨q,hq,rfl⟩:=mem_map.1 (mK.1 hp);have:=h3 q hq;unfold kj;split
 .exact⟨this.2,this.1⟩
 .exact this
theorem rW{f:CF}(h:au f){S:List Nat}(hS:∀c∈dO f,c∈S):a8 (bR f)<=S.length :=
 zq3 (Xx h) (List.Nodup.length_le_of_subset (pD h.ow h.cl).1.1 (λc hc=>hS c (NL hc)))
def K3(f:CF):Prop:=∀p∈f.ow,p.k=3
theorem K3.td{f:CF}(h:K3 f):K3 (bR f):=by
 intro p hp;obtain⟨q,hq,rfl⟩:=mem_map.1 (mK.1 hp);exact h q hq
theorem Bd{f:CF}{i:Nat}(hi:i<5):f.cl.getD i 0∈dO f:=mem_append_left _ (im hi)
theorem jA{f:CF}(h5:f.cl.length=5){c:Nat}:c∈dO f↔c∈f.cl\/∃p∈f.ow,c=p.l\/c=p.r:=by
 unfold dO;rw[mem_append,rH h5,mem_flatMap];constructor
 .rintro(h|⟨p,hp,h⟩)
  .exact zq0 h
  .exact zq1 ⟨p,hp,by simpa using h⟩
 .rintro(h|⟨p,hp,h⟩)
  .exact zq0 h
  .exact zq1 ⟨p,hp,by simpa using h⟩
theorem yJ{f:CF}(h5:f.cl.length=5){i d c:Nat}(h:c∈dO (nZ f i d)):c∈dO f\/c=d:=by
 rw[jA (by simpa[nZ] using h5)]at h;rw[jA h5];rcases h with h|h
 .rcases mem_or_eq_of_mem_set h with h|h
  .exact zq0 (zq0 h)
  .exact zq1 h
 .exact zq0 (zq1 h)
theorem Rt{f:CF}(h5:f.cl.length=5){i c:Nat}{p:Pr}(h:c∈dO (setO f i p)):c∈dO f\/c=p.l\/c=p.r:=by
 rw[jA (f:=setO f i p) h5]at h;rw[jA h5];rcases h with h|⟨q,hq,h⟩
 .exact zq0 (zq0 h)
 .rcases mem_or_eq_of_mem_set hq with hq|rfl
  .exact zq0 (zq1 ⟨q,hq,h⟩)
  .exact zq1 h
theorem Xs{f:CF}(h5:f.cl.length=5){c:Nat}{p:Pr}(h:c∈dO (yz f p)):c∈dO f\/c=p.l\/c=p.r:=by
 rw[jA (f:=yz f p) h5]at h;rw[jA h5];rcases h with h|⟨q,hq,h⟩
 .exact zq0 (zq0 h)
 .rcases mem_append.1 hq with hq|hq
  .exact zq0 (zq1 ⟨q,hq,h⟩)
  .rw[mem_singleton]at hq;subst hq;exact zq1 h
theorem Xt{f:CF}(h5:f.cl.length=5){i c:Nat}(h:c∈dO (jD f i)):c∈dO f:=by
 rw[jA (f:=jD f i) h5]at h;rw[jA h5];rcases h with h|⟨q,hq,h⟩
 .exact zq0 h
 .exact zq1 ⟨q,(mM _ i).subset hq,h⟩
theorem NJ{a b c:Nat}:(l8 a b c=c\/l8 a b c=a)/\(l8 a b c=b->a=b):=by
 unfold l8;split
 .exact⟨zq1 rfl,λe=>e⟩
 .rename_i h;exact⟨zq0 rfl,λe=>absurd e h⟩
theorem Ua{f:CF}(h5:f.cl.length=5){a b c:Nat}(h:c∈dO (wH f a b)):(c∈dO f\/c=a)/\(c=b->a=b):=by
 have h5':(wH f a b).cl.length=5:=by show(f.cl.map _).length=5;simpa using h5
 rw[jA h5']at h;rw[jA h5];have key:∀d,(d∈f.cl\/∃p∈f.ow,d=p.l\/d=p.r)->c=l8 a b d->((c∈f.cl\/∃p∈f.ow,c=p.l\/c=p.r)\/c=a)/\(c=b->a=b):=by
  intro d hd e;have:=@NJ a b d;rw[<-e]at this;refine⟨?_,this.2⟩;rcases this.1 with h|h
  .exact zq0 (by rw[h];exact hd)
  .exact zq1 h
 rcases h with h|⟨q,hq,h⟩
 .obtain⟨d,hd,e⟩:=mem_map.1 h;exact key d (zq0 hd) e.symm
 .obtain⟨p,hp,rfl⟩:=mem_map.1 hq;rcases h with h|h
  .exact key p.l (zq1 ⟨p,hp,zq0 rfl⟩) h
  .exact key p.r (zq1 ⟨p,hp,zq1 rfl⟩) h
theorem FK:∀(l:List Pr) {g:CF} {c d:Nat},d∈dO (l.foldl (λh p=>dx h c p.l) g)->d∈dO g
 |[],_,_,_,h=>h
 |p::r,g,c,d,h=>FK r (g:=dx g c p.l) h
theorem yT:∀(l:List Pr) {g:CF} {c:Nat},(l.foldl (λh p=>dx h c p.l) g).ow=g.ow
 |[],_,_=>rfl
 |p::r,g,c=>yT r (g:=dx g c p.l)
structure Fs(B:Nat)(F0:List Nat)(w W:World)(O:Nat)(cs:List Value)(A:Nat)(f:CF)(av ov:Value)(X:Nat)(p:Pr)(v:Value)(L:List FE):Prop where
 fl:Fl W B v L
 bo:Bk W O 280 cs
 ff:dT W A f av ov
 bx:Bk W X 182 [.int .i64 (p.k:Int),.int .i64 (p.l:Int),.int .i64 (p.r:Int)]
 no:∀k∈a9 v L,k≠O/\k≠X/\k ∉ aG A av ov
 ox:O≠X
 of:O ∉ aG A av ov
 st:aq F0 w (O::a9 v L) W
 bb:B<=W.heap.size
section
variable {B:Nat} {F0:List Nat} {w W W':World} {O A X:Nat} {cs:List Value} {f:CF} {av ov:Value} {p:Pr} {v:Value} {L:List FE}
theorem Fs.below(h:Fs B F0 w W O cs A f av ov X p v L)(hb:Below W.heap.size W W'):Fs B F0 w W' O cs A f av ov X p v L :=
 ⟨h.fl.below hb,h.bo.below hb,h.ff.below hb,h.bx.below hb,h.no,h.ox,h.of,⟨hb.os.trans h.st.os,hb.tape.trans h.st.tape,hb.output.trans h.st.output,zq3 h.st.size hb.size,λk hk hn=>(hb.block k (zq6 hk h.st.size)).trans (h.st.block k hk hn),h.st.foot⟩,zq3 h.bb hb.size⟩
theorem Fs.fresh(h:Fs B F0 w W O cs A f av ov X p v L){x:FE}(hx:∀k∈x.bs,W.heap.size<=k):∀k∈x.bs,k ∉ a9 v L/\k≠O/\k≠X/\k ∉ aG A av ov/\w.heap.size<=k/\B<=k:=λk hk=>by
 have h1:=hx k hk;have:=h.bb;exact⟨λhn=>by have:=h.fl.lt k hn;omega,λe=>by have:=h.bo.lt;omega,λe=>by have:=h.bx.lt;omega,λhn=>by have:=h.ff.lt k hn;omega,zq3 h.st.size h1,by omega⟩
theorem Fs.app {g1 c1:Nat} {o:Obj} {x:FE} {W1:World} (h:Fs B F0 w W O cs A f av ov X p v L) (hx:Fm W x.A x.f x.av x.ov) (hd:∀k∈x.bs,k ∉ a9 v L/\k≠O/\k≠X/\k ∉ aG A av ov/\w.heap.size<=k/\B<=k)
  (aO:W1.ownsRow B 126 1 (.slice (some ⟨g1,0,none⟩) (L.length+1) c1) (L.length+1) (L.map FE.p++[x.p])) (hg:(W.alloc o).grownBy W1 v.ownBlock) (b7:some g1=v.ownBlock\/g1=(W.alloc o).heap.size) :
  Fs B F0 w W1 O cs A f av ov X p (.slice (some ⟨g1,0,none⟩) (L.length+1) c1) (L++[x]):=by
 obtain⟨a1,a2,a3⟩:=h.fl.app hx (λk hk=>(hd k hk).2.2.2.2.2) (λk hk=>(hd k hk).1) h.bb aO hg b7;have hv:∀k∈v.ownBlock.toList,k∈a9 v L:=λk hk=>mem_append_left _ hk;refine⟨a1,h.bo.stp a2 (λhn=>(h.no O (hv O hn)).1 rfl),h.ff.of_eq (λk hk=>a2.block k (h.ff.lt k hk) (λhn=>(h.no k (hv k hn)).2.2 hk)),h.bx.stp a2 (λhn=>(h.no X (hv X hn)).2.1 rfl),λk hk=>?_,h.ox,h.of,?_,zq3 h.bb a2.size⟩
 .rcases a3 k hk with q|q|q
  .exact h.no k q
  .exact⟨(hd k q).2.1,(hd k q).2.2.1,(hd k q).2.2.2.1⟩
  .exact⟨λe=>by have:=h.bo.lt;omega,λe=>by have:=h.bx.lt;omega,λhn=>by have:=h.ff.lt k hn;omega⟩
 .have h2:=h.st;refine⟨a2.os.trans h2.os,a2.tape.trans h2.tape,a2.output.trans h2.output,zq3 h2.size a2.size,λk hk hn=>?_,λk hk=>?_⟩
  .rw[a2.block k (zq6 hk h2.size) (λhm=>?_)]
   .exact h2.block k hk hn
   .rcases h2.foot k (mem_cons_of_mem _ (hv k hm)) with q|q
    .exact hn q
    .omega
  .rcases mem_cons.1 hk with rfl|hk
   .exact h2.foot k (by simp)
   .rcases a3 k hk with q|q|q
    .exact h2.foot k (mem_cons_of_mem _ q)
    .exact zq1 (hd k q).2.2.2.2.1
    .exact zq1 (zq3 h2.size q)
theorem Fs.fin {g1 c1:Nat} {o:Obj} {x:FE} {W1:World} (h:Fs B F0 w W O cs A f av ov X p v L) (hx:Fm W x.A x.f x.av x.ov) (hd:∀k∈x.bs,k ∉ a9 v L/\k≠O/\(k∈F0\/w.heap.size<=k)/\B<=k)
  (aO:W1.ownsRow B 126 1 (.slice (some ⟨g1,0,none⟩) (L.length+1) c1) (L.length+1) (L.map FE.p++[x.p])) (hg:(W.alloc o).grownBy W1 v.ownBlock) (b7:some g1=v.ownBlock\/g1=(W.alloc o).heap.size) :
  Fl W1 B (.slice (some ⟨g1,0,none⟩) (L.length+1) c1) (L++[x])/\Bk W1 O 280 cs/\aq F0 w (O::a9 (.slice (some ⟨g1,0,none⟩) (L.length+1) c1) (L++[x])) W1:=by
 obtain⟨a1,a2,a3⟩:=h.fl.app hx (λk hk=>(hd k hk).2.2.2) (λk hk=>(hd k hk).1) h.bb aO hg b7;have hv:∀k∈v.ownBlock.toList,k∈a9 v L:=λk hk=>mem_append_left _ hk;refine⟨a1,h.bo.stp a2 (λhn=>(h.no O (hv O hn)).1 rfl),?_⟩;have h2:=h.st;refine⟨a2.os.trans h2.os,a2.tape.trans h2.tape,a2.output.trans h2.output,zq3 h2.size a2.size,λk hk hn=>?_,λk hk=>?_⟩
 .rw[a2.block k (zq6 hk h2.size) (λhm=>?_)]
  .exact h2.block k hk hn
  .rcases h2.foot k (mem_cons_of_mem _ (hv k hm)) with q|q
   .exact hn q
   .omega
 .rcases mem_cons.1 hk with rfl|hk
  .exact h2.foot k (by simp)
  .rcases a3 k hk with q|q|q
   .exact h2.foot k (mem_cons_of_mem _ q)
   .exact(hd k q).2.2.1
   .exact zq1 (zq3 h2.size q)
theorem Fs.flag(h:Fs B F0 w W O cs A f av ov X p v L)(j:Nat)(u:Value)(hO:O∈F0):Fs B F0 w (W.setCell ⟨O,j,none⟩ u) O (cs.set j u) A f av ov X p v L :=
 ⟨h.fl.of_eq (λk hk=>heap_setCell _ _ _ _ (h.no k hk).1),h.bo.set j u,h.ff.of_eq (λk hk=>heap_setCell _ _ _ _ (λe=>h.of (by have e':k=O:=e;rw[<-e'];exact hk))),h.bx.setO (p:=⟨O,j,none⟩) h.ox u,h.no,h.ox,h.of,h.st.setCell (p:=⟨O,j,none⟩) (zq0 hO) u,by simpa using h.bb⟩
end
theorem Fm.putW{w:World}{A:Nat}{f:CF}{av:Value}{g cap i:Nat}(h:Fm w A f av (.slice (some ⟨g,0,none⟩) f.ow.length cap))(hi:i<f.ow.length)(q:Pr):
  Fm (((w.setCell ⟨g,i*3,none⟩ (.int .i64 (q.k:Int))).setCell ⟨g,i*3+1,none⟩ (.int .i64 (q.l:Int))).setCell ⟨g,i*3+2,none⟩ (.int .i64 (q.r:Int))) A (setO f i q) av (.slice (some ⟨g,0,none⟩) f.ow.length cap)/\aq (aG A av (.slice (some ⟨g,0,none⟩) f.ow.length cap)) w (aG A av (.slice (some ⟨g,0,none⟩) f.ow.length cap)) (((w.setCell ⟨g,i*3,none⟩ (.int .i64 (q.k:Int))).setCell ⟨g,i*3+1,none⟩ (.int .i64 (q.l:Int))).setCell ⟨g,i*3+2,none⟩ (.int .i64 (q.r:Int))):=by
 obtain⟨r3,-,-⟩:=DJ h.is.ow rfl hi q;have hs:aq (Value.slice (some ⟨g,0,none⟩) f.ow.length cap).ownBlock.toList w (Value.slice (some ⟨g,0,none⟩) f.ow.length cap).ownBlock.toList (((w.setCell ⟨g,i*3,none⟩ (.int .i64 (q.k:Int))).setCell ⟨g,i*3+1,none⟩ (.int .i64 (q.l:Int))).setCell ⟨g,i*3+2,none⟩ (.int .i64 (q.r:Int))):=(((aq.refl _ _).setCell (p:=⟨g,i*3,none⟩) (zq0 (by simp[Value.ownBlock])) _).setCell (p:=⟨g,i*3+1,none⟩) (zq0 (by simp[Value.ownBlock])) _).setCell (p:=⟨g,i*3+2,none⟩) (zq0 (by simp[Value.ownBlock])) _;exact h.newRow (ow':=f.ow.set i q) (by simp) r3 hs
theorem Fm.putK{w:World}{A:Nat}{f:CF}{av:Value}{g cap i:Nat}(h:Fm w A f av (.slice (some ⟨g,0,none⟩) f.ow.length cap))(hi:i<f.ow.length)(k:Nat):
  Fm (w.setCell ⟨g,i*3,none⟩ (.int .i64 (k:Int))) A (setO f i ⟨k,(owA f i).l,(owA f i).r⟩) av (.slice (some ⟨g,0,none⟩) f.ow.length cap)/\aq (aG A av (.slice (some ⟨g,0,none⟩) f.ow.length cap)) w (aG A av (.slice (some ⟨g,0,none⟩) f.ow.length cap)) (w.setCell ⟨g,i*3,none⟩ (.int .i64 (k:Int))):=by
 have h1:=(h.is.ow.stored (i*3) (.int .i64 (k:Int))).1;rw[kK hi]at h1;have hs:aq (Value.slice (some ⟨g,0,none⟩) f.ow.length cap).ownBlock.toList w (Value.slice (some ⟨g,0,none⟩) f.ow.length cap).ownBlock.toList (w.setCell ⟨g,i*3,none⟩ (.int .i64 (k:Int))):=(aq.refl _ _).setCell (p:=⟨g,i*3,none⟩) (zq0 (by simp[Value.ownBlock])) _;exact h.newRow (ow':=f.ow.set i ⟨k,(owA f i).l,(owA f i).r⟩) (by simp) h1 hs
theorem Bg{f:CF}(h:au f):qS (qS (tM f) f.ow) f.ap<24:=by
 have:a8 f<=24:=MY (by omega) h.cl h.ow h.ap;unfold a8 at this;omega
section
variable {B:Nat} {w:World} {O A:Nat} {nv tv:Value} {nu da fu:Bool} {f:CF} {av ov:Value} {v:Value} {L:List FE}
theorem qb(hB:Fl w B v L)(B7:Bk w O 280 [nv,tv,.bool nu,.bool da,.bool fu])(hx:Fm w A f av ov)(hO:au f)(ha:f.ap.length<=40000)(OY:∀k∈a9 v L,k≠O/\k ∉ aG A av ov)(jk:O ∉ aG A av ov)(cq:∀k∈aG A av ov,B<=k)(hB':B<=w.heap.size){c i:Nat}(hb:er f.ow c=some i)(hL:L.length<=900000):
  Calls prog 264 #[.pointer (some ⟨O,0,none⟩),v,.pointer (some ⟨A,0,none⟩),.int .i64 c] w λe w'=>∃v' L',e=.returned v'/\Fl w' B v' (L++L')/\L'.map (·.f)=(oG f c).1/\Bk w' O 280 [nv,tv,.bool nu,.bool da,.bool (fu||(oG f c).2)]/\aq (O::(a9 v L++aG A av ov)) w (O::a9 v' (L++L')) w':=by
 obtain⟨i0,jN,fW,fy,fJ⟩:=info_parts infoPF;have gG:=hO.owLen;obtain⟨hi,fY⟩:=gg hb;obtain⟨va,vc,hv,-,-⟩:=aj hB.row;subst hv;have hfi:oG f c=Vw f c i:=by unfold oG;rw[hb]
 have lz:=ab (cB c hx.is);rw[hb]at lz;obtain⟨oa,oc,fx,-,-⟩:=aj hx.is.ow;subst fx;have c6:=hx.is.c6;obtain⟨g,cap,c9,-,-⟩:=aD hx.is.ow hi;simp only[Value.slice.injEq,true_and]at c9;obtain⟨rfl,rfl⟩:=c9;obtain⟨x0,x1,x2⟩:=aA hx.is.ow hi;obtain⟨p,hp⟩:∃p,p=f.ow.getD i aE:=⟨_,rfl⟩;rw[<-hp]at x0 x1 x2;obtain⟨W1,dE⟩:∃W1,W1=w.alloc (.cells #[Value.int .i64 p.k,.int .i64 p.l,.int .i64 p.r] 182):=⟨_,rfl⟩;have bV:Below w.heap.size w W1:=by rw[dE];exact ah w _
 have hX:Bk W1 w.heap.size 182 [Value.int .i64 p.k,.int .i64 p.l,.int .i64 p.r]:=by rw[dE];exact Bk.new w _ _
 obtain⟨X,fV⟩:∃X,X=w.heap.size:=⟨_,rfl⟩;rw[<-fV]at hX;have hFs:Fs B (O::(a9 (.slice va L.length vc) L++aG A av (.slice (some ⟨g,0,none⟩) f.ow.length oc))) w W1 O [nv,tv,.bool nu,.bool da,.bool fu] A f av (.slice (some ⟨g,0,none⟩) f.ow.length oc) X p (.slice va L.length vc) L:=by
  refine⟨hB.below bV,B7.below bV,hx.is.below bV,hX,λk hk=>⟨(OY k hk).1,λe=>?_,(OY k hk).2⟩,λe=>?_,jk,(aq.ofBw (F:=O::(a9 (.slice va L.length vc) L++aG A av (.slice (some ⟨g,0,none⟩) f.ow.length oc))) bV).foots (λk hk=>?_),zq3 hB' bV.size⟩
  .have:=hB.lt k hk;omega
  .have:=B7.lt;omega
  .rcases mem_cons.1 hk with rfl|hk
   .exact zq0 (by simp)
   .exact zq0 (mem_cons_of_mem _ (mem_append_left _ hk))
 have b0:=hX.cell 0 rfl;have H1:=ab hFs;have HX1:=ab (hx.below bV);have BP:=ab cq;have Pk:=ab OY;have Ux:=ab jk;have HP:Hid (p=owA f i):=ab hp;have BO:=ab hfi;have HO:=ab hO;have i1:(0:Int)<=(i:Int):=by omega
 have i2:(i:Int)<(f.ow.length:Int):=by omega
 have uA:Hid ((owA f i).l=c):=ab fY;clear hB B7 hO OY jk cq bV hX hFs hp hfi hx hb fY hB';rw[show eK (some i)=(i:Int) from rfl]at lz;go_enter func264,ntmps264;go_wp2_with fail
 refine(uh lz).mono ?_;rintro e w1 ⟨rfl,rfl⟩;clear lz;go_upto_region 3 with fail;rw[<-dE,<-fV];clear dE fV;by_cases AG:p.k=3
 .have d3:((p.k:Int)==3)=true:=by simp[AG]
  have HE:Hid (oG f c=([f],false)):=ab (by rw[uh BO];unfold Vw;rw[if_pos (show(owA f i).k=3 by rw[<-uh HP];exact AG)]);have HR:=ab (uh H1).fl.row;have lu:=(uh H1).bb;clear AG;go_wp2_with (at_builtin;refine aQ _ rfl (.tmp 27) (.tmp 29) 125 rfl B 126 i0 _ 1 8 underlying125 jN fW fy fJ rfl (by decide) _ L.length (L.map FE.p) rfl ((uh HR).alloc _) ⟨_,0,none⟩ 1 [.pointer (some ⟨A,0,none⟩)] rfl rfl (aM _ _ (by simp) [.pointer (some ⟨A,0,none⟩)] _) (by intro u hu;simp only[mem_singleton]at hu;subst hu;rfl) (by omega) (by omega) (by simp;omega) ?_)
  intro g1 cap1 wa eE dg jj;have HF:=ab ((uh H1).fin (x:=⟨A,f,av,.slice (some ⟨g,0,none⟩) f.ow.length oc⟩) (uh HX1) (λk hk=>⟨λhn=>(uh Pk k hn).2 hk,λe=>uh Ux (by rw[<-e];exact hk),zq0 (mem_cons_of_mem _ (mem_append_right _ hk)),uh BP k hk⟩) eE dg (by simpa using jj));clear eE dg jj;go_wp2_with fail
  go_ret;refine⟨_,[⟨A,f,av,.slice (some ⟨g,0,none⟩) f.ow.length oc⟩],rfl,(uh HF).1,by rw[uh HE];rfl,?_,(uh HF).2.2⟩;rw[uh HE,Bool.or_false];exact(uh HF).2.1
 .have d3:((p.k:Int)==3)=false:=by simp;omega
  have ab7:oG f c=if 24<=a8 f then ([qa f i],true) else ([qa f i,Ai f c i],false):=by rw[uh BO];unfold Vw;rw[if_neg (show ¬ ((owA f i).k=3) by rw[<-uh HP];exact AG)]
  have uZ:=ab ab7;have jE:=ab (cD (uh H1).ff (uh HO).c5 ha (zq3 gG (by omega)));clear AG ab7;go_wp2_with fail
  refine(uh jE).mono ?_;rintro e w2 ⟨A2,rfl,mS⟩;obtain⟨av2,ov2,lj⟩:=mS.frf;obtain⟨g2,cap2,cO,-,-⟩:=aD lj.fm.is.ow hi;have acf:ov2=.slice (some ⟨g2,0,none⟩) f.ow.length cap2:=cO;subst acf;have e6:=lj.fm.is.c6;obtain⟨B1,cF⟩:=Fm.putK lj.fm hi 3;obtain⟨-,⟨⟨u0,y0⟩,-,-⟩,z0,-,-⟩:=DJ lj.fm.is.ow rfl hi aE;obtain⟨w3,Fb⟩:∃w3,w3=w2.setCell ⟨g2,i*3,none⟩ (.int .i64 3):=⟨_,rfl⟩;rw[show w2.setCell ⟨g2,i*3,none⟩ (.int .i64 ((3:Nat):Int))=w3 from Fb.symm]at B1 cF;have lK:=lj.step (x':=⟨A2,qa f i,av2,.slice (some ⟨g2,0,none⟩) f.ow.length cap2⟩) B1 cF;have Zi:=(uh H1).below lK.bw;have HR:=ab Zi.fl.row;have Jy:=ab ((uh H1).fresh lK.ge);have Z8:=ab lK.fm;have HL3:=ab Zi;have lu:=Zi.bb;clear mS lj cO B1 cF lK Zi jE;go_upto_region 7 with fail;rw[<-Fb];clear Fb e6 y0 z0 u0;go_wp2_with (at_builtin;refine aQ _ rfl (.tmp 40) (.tmp 42) 125 rfl B 126 i0 _ 1 8 underlying125 jN fW fy fJ rfl (by decide) _ L.length (L.map FE.p) rfl ((uh HR).alloc _) ⟨_,0,none⟩ 1 [.pointer (some ⟨A2,0,none⟩)] rfl rfl (aM _ _ (by simp) [.pointer (some ⟨A2,0,none⟩)] _) (by intro u hu;simp only[mem_singleton]at hu;subst hu;rfl) (by omega) (by omega) (by simp;omega) ?_)
  intro g4 cap4 w4 gI dM iL;have hL4:=(uh HL3).app (uh Z8) (uh Jy) gI dM (by simpa using iL);have ZB:a8 f<=100000:=by
   unfold a8;have h1:=Bg (uh HO);omega
  have OG:=ab (sW hL4.ff (zq3 ha (by omega)) (zq3 gG (by omega)) ZB);have HL4:=ab hL4;clear gI dM iL hL4 HR Jy Z8 HL3;go_wp2_with fail
  refine(uh OG).mono ?_;rintro e w5 ⟨rfl,dL⟩;have VV:=(uh HL4).below dL;have UH:=ab VV;obtain⟨N,hN⟩:∃N,N=a8 f:=⟨_,rfl⟩;rw[<-hN]at ZB uZ ⊢;have rB:=ab hN;clear dL OG HL4 hN;by_cases oK:24<=N
  .have d5:decide ((24:Int)<=(N:Int))=true:=(by simp;omega);have HE:Hid (oG f c=([qa f i],true)):=ab (by rw[uh uZ,if_pos oK]);have o4:=VV.bo.cell 4 rfl;have z4:=VV.bo.frz 4;have HL6:=ab (VV.flag 4 (.bool true) (by simp));clear oK VV;go_wp2_with fail
   go_ret;refine⟨_,[⟨A2,qa f i,av2,.slice (some ⟨g2,0,none⟩) f.ow.length cap2⟩],rfl,(uh HL6).fl,by rw[uh HE];rfl,?_,(uh HL6).st⟩;rw[uh HE,Bool.or_true];exact(uh HL6).bo
  .have d5:decide ((24:Int)<=(N:Int))=false:=(by simp;omega);have HE:Hid (oG f c=([qa f i,Ai f c i],false)):=ab (by rw[uh uZ,if_neg oK]);have jE:=ab (cD VV.ff (uh HO).c5 ha (zq3 gG (by omega)));clear oK VV;go_wp2_with fail
   refine(uh jE).mono ?_;rintro e w6 ⟨A6,rfl,hN6⟩;obtain⟨av6,ov6,Jf⟩:=hN6.frf;obtain⟨g6,cap6,ach,-,-⟩:=aD Jf.fm.is.ow hi;have aci:ov6=.slice (some ⟨g6,0,none⟩) f.ow.length cap6:=ach;subst aci;have e6:=Jf.fm.is.c6;obtain⟨Qq,B4⟩:=Fm.putW Jf.fm hi ⟨3,c,N⟩;obtain⟨-,⟨⟨u0,y0⟩,⟨u1,y1⟩,⟨u2,y2⟩⟩,z0,z1,z2⟩:=DJ Jf.fm.is.ow rfl hi aE;obtain⟨w7,hw7⟩:∃w7,w7=((w6.setCell ⟨g6,i*3,none⟩ (.int .i64 3)).setCell ⟨g6,i*3+1,none⟩ (.int .i64 (c:Int))).setCell ⟨g6,i*3+2,none⟩ (.int .i64 (N:Int)):=⟨_,rfl⟩;rw[show((w6.setCell ⟨g6,i*3,none⟩ (.int .i64 (((⟨3,c,N⟩:Pr).k:Nat):Int))).setCell ⟨g6,i*3+1,none⟩ (.int .i64 (((⟨3,c,N⟩:Pr).l:Nat):Int))).setCell ⟨g6,i*3+2,none⟩ (.int .i64 (((⟨3,c,N⟩:Pr).r:Nat):Int))=w7 from hw7.symm]at Qq B4;have ti:=Jf.step (x':=⟨A6,setO f i ⟨3,c,N⟩,av6,.slice (some ⟨g6,0,none⟩) f.ow.length cap6⟩) Qq B4;have b2:=((uh UH).below ti.bw).bx.cell 2 rfl;have vK:=ab (pf ti.fm 4 N p.r (by
    show(f.ow.set i _).length<=100000;rw[length_set];exact zq3 gG (by omega)))
   have HF7:=ab ti;clear hN6 Jf ach Qq B4 ti jE;go_upto_region 14 with fail;rw[<-hw7];clear hw7 e6 y0 y1 y2 z0 z1 z2 u0 u1 u2;go_wp2_with fail
   refine(uh vK).mono ?_;rintro e w8 ⟨rfl,ov8,ON,Av⟩;have uL:=(uh HF7).step (x':=⟨A6,Ai f c i,av6,ov8⟩) (by
    have e9:Ai f c i={ setO f i ⟨3,c,N⟩ with ow:=(setO f i ⟨3,c,N⟩).ow++[⟨4,N,p.r⟩] }:=(by rw[uh HP,uh rB];rfl);rw[e9];exact ON) Av
   have hL8:=(uh UH).below uL.bw;have HR:Hid (w8.ownsRow B 126 1 (.slice (some ⟨g4,0,none⟩) (L.length+1) cap4) (L.length+1) ((L++[(⟨A2,qa f i,av2,.slice (some ⟨g2,0,none⟩) f.ow.length cap2⟩:FE)]).map FE.p)):=ab (by have:=hL8.fl.row;rwa [length_append,length_singleton]at this);have Jy:=ab ((uh UH).fresh uL.ge);have Po:=ab uL.fm;have HL8:=ab hL8;have aob:=hL8.bb;clear ON Av uL hL8 vK;go_wp2_with (at_builtin;refine aQ _ rfl (.tmp 68) (.tmp 70) 125 rfl B 126 i0 _ 1 8 underlying125 jN fW fy fJ rfl (by decide) _ (L.length+1) ((L++[(⟨A2,qa f i,av2,.slice (some ⟨g2,0,none⟩) f.ow.length cap2⟩:FE)]).map FE.p) rfl ((uh HR).alloc _) ⟨_,0,none⟩ 1 [.pointer (some ⟨A6,0,none⟩)] rfl rfl (aM _ _ (by simp) [.pointer (some ⟨A6,0,none⟩)] _) (by intro u hu;simp only[mem_singleton]at hu;subst hu;rfl) (by omega) (by omega) (by simp;omega) ?_)
   intro g9 cap9 w9 TS LO TD;have HF:=ab ((uh HL8).fin (x:=⟨A6,Ai f c i,av6,ov8⟩) (g1:=g9) (c1:=cap9) (uh Po) (λk hk=>⟨(uh Jy k hk).1,(uh Jy k hk).2.1,zq1 (uh Jy k hk).2.2.2.2.1,(uh Jy k hk).2.2.2.2.2⟩) (by rw[length_append,length_singleton,map_append,append_assoc];exact TS) LO (by simpa using TD));rw[append_assoc,length_append,length_singleton]at HF;clear TS LO TD;go_wp2_with fail
   go_ret;refine⟨_,[⟨A2,qa f i,av2,.slice (some ⟨g2,0,none⟩) f.ow.length cap2⟩,⟨A6,Ai f c i,av6,ov8⟩],rfl,(uh HF).1,by rw[uh HE];rfl,?_,(uh HF).2.2⟩;rw[uh HE,Bool.or_false];exact(uh HF).2.1
end
