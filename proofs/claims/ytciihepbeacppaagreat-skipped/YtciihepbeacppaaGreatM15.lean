import Derived.Test.YtciihepbeacppaaGreatM14
set_option maxRecDepth 100000
set_option maxHeartbeats 0
namespace Go.Proofs.YtciihepbeacppaaGreat
open Tryz Go.RowKit List World Below
set_option linter.unusedVariables false
theorem ue(f:CF)(c:Nat):(gU f c).1.length<=2:=by
 unfold gU;split
 .simp
 .unfold Oj;split
  .simp
  .split <;> simp
theorem rX{α β:Type}{d:Nat}(g:List α × Bool->β->List α × Bool):∀(l:List β) (r:List α × Bool),(∀b∈l,∀r,(g r b).1.length<=r.1.length+d)->(l.foldl g r).1.length<=r.1.length+d*l.length
 |[],r,_=>by simp
 |b::l,r,hg=>by
  have h1:=rX g l (g r b) (λb' xN=>hg b' (by simp[xN]));have h2:=hg b (by simp) r;rw[foldl_cons,length_cons,Nat.mul_succ];omega
theorem uA{f:CF}(h:aj f)(v:Nat):(cZ f v).1.length<=96:=by
 unfold cZ;split
 .simp
 .split
  .exact zq3 (ue _ _) (by omega)
  .have h1:=rX (d:=4) (λr i=>uB f v i r) (range f.ow.length) (([]:List CF),false) (λi _ r=>by
    have h2:=rX (d:=2) (λr g=>Cf r g (g.cl.getD (1+v) 0)) (eM f (f.cl.getD (1+v) 0) i) r (λg _ r=>by
     unfold Cf;have:=ue g (g.cl.getD (1+v) 0);rw[length_append];omega)
    have h3:=q8 f (f.cl.getD (1+v) 0) i;exact zq3 h2 (by omega))
   rw[length_range]at h1;have:=h.owLen;simp only[length_nil]at h1;exact zq3 h1 (by omega)
theorem TF(f:CF)(n:Nd):(mt f n).1.length<=1/\(mt f n).2.length<=1:=by
 constructor
 .simp only[mt];split <;> simp
 .simp only[mt];split <;> simp
theorem TL{f:CF}(h:aj f)(n:Nd):(cj n f).nx.length<=96/\(cj n f).ot.length<=1:=by
 have op:∀v g,(bQ (cZ f v) g).nx.length<=96/\(bQ (cZ f v) g).ot.length<=1:=λv g=>⟨by simpa[bQ] using uA h v,by simp[bQ]⟩;have cm:=TF f n;unfold cj;split
 .simp[wJ]
 .split
  .simp
  .split
   .exact op _ _
   .split
    .exact op _ _
    .split
     .split <;> simp
     .split
      .exact op _ _
      .split
       .simp
       .split
        .exact⟨zq3 cm.1 (by omega),cm.2⟩
        .split
         .exact⟨zq3 cm.2 (by omega),cm.1⟩
         .simp
theorem GT{b:Bool}{n k m:Nat}{s:Sr}(h:Gd m s):Gd m (wrI b n k s)/\f7 (wrI b n k s)=f7 s/\(wrI b n k s).lf=s.lf:=by
 unfold wrI;split
 .exact⟨⟨h.en,h.lo,h.fu,h.ok⟩,rfl,rfl⟩
 .exact⟨h,rfl,rfl⟩
theorem ab2{c:Cd}(hb:c.bd=true){fuel n:Nat}(dX:3002<=fuel){f:CF}{s:Sr}(hv:(c.nds.getD n aI).v<4)(ha:(c.nds.getD n aI).ai<4)(hf:Td f)(h:Gd 1152 s):Gd 500000 (pm c fuel n f s)/\(f7 (pm c fuel n f s):Int)+(pm c fuel n f s).lf<=f7 s+s.lf:=by
 obtain⟨t1,t2⟩:=jG hv ha hf;obtain⟨l1,l2⟩:=TL hf.ok (c.nds.getD n aI);unfold pm;obtain⟨a1,b1,c1⟩:=GT (b:=decide ((c.nds.getD n aI).op=0)&&!decide (dc f=[])) (n:=n) (k:=2) h;obtain⟨a2,b2,c2⟩:=GT (b:=(cj (c.nds.getD n aI) f).nu) (n:=n) (k:=3) a1;obtain⟨a3,b3,c3⟩:=GT (b:=(cj (c.nds.getD n aI) f).da) (n:=n) (k:=4) a2;obtain⟨s3,gi⟩:∃s3,s3=wrI (cj (c.nds.getD n aI) f).da n 4 (wrI (cj (c.nds.getD n aI) f).nu n 3 (wrI (decide ((c.nds.getD n aI).op=0)&&!decide (dc f=[])) n 2 s)):=⟨_,rfl⟩;rw[<-gi]at a3 b3 c3;have a4:Gd 1152 (fuS (cj (c.nds.getD n aI) f).fu s3):=⟨a3.en,a3.lo,λhx=>a3.fu (by
  have:(s3.fu||(cj (c.nds.getD n aI) f).fu)=false:=hx;rw[Bool.or_eq_false_iff]at this;exact this.1),a3.ok⟩
 obtain⟨g1,g2⟩:=E4 hb (a:=n) (b:=(c.nds.getD n aI).nx) dX (cj (c.nds.getD n aI) f).nx (m:=1152) (by omega) (by omega) t1 a4;obtain⟨k1,k2⟩:=E4 hb (a:=n) (b:=(c.nds.getD n aI).ot) dX (cj (c.nds.getD n aI) f).ot (m:=1152+3001*(cj (c.nds.getD n aI) f).nx.length) (by omega) (by omega) t2 g1;simp only[<-gi];refine⟨k1.wide (by omega),?_⟩;refine Int.le_trans k2 (Int.le_trans g2 ?_);show(f7 s3:Int)+s3.lf<=_;rw[b3,c3,b2,c2,b1,c1];exact Int.le_refl _
def NdV(c:Cd):Prop:=∀n,(c.nds.getD n aI).v<4/\(c.nds.getD n aI).ai<4
theorem RM{c:Cd}(hb:c.bd=true)(hc:NdV c){fuel n:Nat}(dX:3002<=fuel):∀(l:List CF) {s:Sr},bV l->qo s->Gd 500000 s->Gd 500000 (nN c fuel n l s)/\qo (nN c fuel n l s)/\(f7 (nN c fuel n l s):Int)+(nN c fuel n l s).lf<=f7 s+s.lf
 |[],s,_,hi,h=>⟨h,hi,Int.le_refl _⟩
 |f::r,s,hl,hi,h=>by
  unfold nN;split
  .exact⟨h,hi,Int.le_refl _⟩
  .rename_i hf;have AE:=h.fu (by simpa using hf);have h':Gd 1152 s:=⟨h.en,by omega,h.fu,h.ok⟩;obtain⟨g1,g2⟩:=ab2 hb dX (hc n).1 (hc n).2 (hl f (by simp)) h';obtain⟨k1,k2,k3⟩:=RM hb hc dX r (λx hx=>hl x (by simp[hx])) (ab3 (hc n).1 (hc n).2 (hl f (by simp)) hi) g1;exact⟨k1,k2,Int.le_trans k3 g2⟩
theorem Zw{l:List ig}(h:∀e∈l,Td e.f):bV (mH l):=by
 intro f hf;obtain⟨e,he,rfl⟩:=mem_map.1 hf;exact h e (mem_filter.1 he).1
theorem aca{c:Cd}(hb:c.bd=true)(hc:NdV c){fuel n:Nat}(dX:3002<=fuel){s:Sr}(hi:qo s)(h:Gd 500000 s)(hp:EN s=some n):Gd 500000 (sN c fuel n s)/\qo (sN c fuel n s)/\(f7 (sN c fuel n s):Int)+(sN c fuel n s).lf+1<=f7 s+s.lf:=by
 have IH:=findIdx?_eq_some_iff_getElem.1 hp;obtain⟨hn,qG,-⟩:=IH;have gu:bq s n=s.kn[n]:=by unfold bq;rw[getD_eq_getElem?_getD,getElem?_eq_getElem hn];rfl
 have hu:f7 { s with kn:=s.kn.set n ((bq s n).map (λe=>⟨e.f,true⟩)) }+1<=f7 s:=by
  have h1:=xq (λl:List ig=>l.countP (λe=>!e.d)) [] s.kn n ((bq s n).map (λe=>⟨e.f,true⟩));rw[if_pos hn,if_pos hn]at h1;have h2:List.countP (λe:ig=>!e.d) ((bq s n).map (λe=>(⟨e.f,true⟩:ig)))=0:=by
   rw[countP_eq_zero];intro e he;obtain⟨x,-,rfl⟩:=mem_map.1 he;simp
  have h3:0<List.countP (λe:ig=>!e.d) (s.kn.getD n []):=by
   rw[countP_pos_iff];obtain⟨e,he,hd⟩:=any_eq_true.1 qG;exact⟨e,by rw[getD_eq_getElem?_getD,getElem?_eq_getElem hn];exact he,hd⟩
  unfold f7;simp only[h2]at h1;show a7 (λl:List ig=>l.countP (λe=>!e.d)) (s.kn.set n ((bq s n).map (λe=>(⟨e.f,true⟩:ig))))+1<=_;omega
 have he:rU { s with kn:=s.kn.set n ((bq s n).map (λe=>⟨e.f,true⟩)) }<=rU s:=by
  have:=GI (g:=List.length) (λl=>by simp) (s:=s) (n:=n) (d:=0) (x:=(bq s n).map (λe=>(⟨e.f,true⟩:ig))) (by simp);simpa[rU] using this
 have h':Gd 500000 { s with kn:=s.kn.set n ((bq s n).map (λe=>⟨e.f,true⟩)) }:=⟨by have:=h.en;show(rU _:Int)+s.lf<=3000;omega,h.lo,h.fu,h.ok⟩;have lR:qo { s with kn:=s.kn.set n ((bq s n).map (λe=>⟨e.f,true⟩)) }:=hi.set n (λe he=>by
  obtain⟨x,hx,rfl⟩:=mem_map.1 he;exact hi.at n x hx)
 obtain⟨g1,g2,g3⟩:=RM hb hc (n:=n) dX (mH (bq s n)) (Zw (hi.at n)) lR h';refine⟨g1,g2,?_⟩;show(f7 (nN c fuel n (mH (bq s n)) { s with kn:=s.kn.set n ((bq s n).map (λe=>⟨e.f,true⟩)) }):Int)+(nN c fuel n (mH (bq s n)) { s with kn:=s.kn.set n ((bq s n).map (λe=>⟨e.f,true⟩)) }).lf+1<=_;have:({ s with kn:=s.kn.set n ((bq s n).map (λe=>⟨e.f,true⟩)) }:Sr).lf=s.lf:=rfl;rw[this]at g3;omega
theorem GF{c:Cd}(hb:c.bd=true)(hc:NdV c){fuel:Nat}(dX:3002<=fuel):∀(n:Nat) {s:Sr},qo s->Gd 500000 s->(f7 s:Int)+s.lf<n->0<n->(qg c fuel n s).ok=true
 |0,s,_,_,_,h=>by omega
 |n+1,s,hi,h,hn,_=>by
  unfold qg;split
  .exact h.ok
  .rename_i k hk;split
   .exact h.ok
   .rename_i hf;obtain⟨g1,g2,g3⟩:=aca hb hc dX hi h hk;have AE:=h.fu (by simpa using hf);have hu:0<f7 s:=by
     obtain⟨h1,h2,-⟩:=findIdx?_eq_some_iff_getElem.1 hk;have h3:=xo (λl:List ig=>l.countP (λe=>!e.d)) [] s.kn k h1;have h4:0<List.countP (λe:ig=>!e.d) (s.kn.getD k []):=by
      rw[countP_pos_iff];obtain⟨e,he,hd⟩:=any_eq_true.1 h2;exact⟨e,by rw[getD_eq_getElem?_getD,getElem?_eq_getElem h1];exact he,hd⟩
     unfold f7;omega
    exact GF hb hc dX n g2 g1 (by omega) (by omega)
theorem wy{ms:List Nat}{c d:Nat}(h:d∈iS ms c):d∈ms\/d=c:=by
 unfold iS at h;split at h
 .exact zq0 h
 .rw[mem_append,mem_singleton]at h;exact h
theorem DH:∀(l:List Nat) {ms:List Nat} {d:Nat},d∈l.foldl iS ms->d∈ms\/d∈l
 |[],ms,d,h=>zq0 h
 |c::l,ms,d,h=>by
  rcases DH l h with h|h
  .rcases wy h with h|rfl
   .exact zq0 h
   .exact zq1 (by simp)
  .exact zq1 (by simp[h])
theorem zu{f:CF}{p:Pr}(hp:p∈f.ow):p.l∈bL f/\p.r∈bL f:=⟨mem_append_right _ (mem_flatMap.2 ⟨p,hp,by simp⟩),mem_append_right _ (mem_flatMap.2 ⟨p,hp,by simp⟩)⟩
theorem Ro{f:CF}{k:Nat}{ms:List Nat}{d:Nat}(h:d∈zN f k ms):d∈ms\/d∈bL f:=by
 unfold zN at h;split at h
 .rename_i i hi;rcases wy h with h|rfl
  .exact zq0 h
  .exact zq1 (zu (t0 hi)).2
 .exact zq0 h
theorem xi{f:CF}:∀(n k:Nat) {ms:List Nat} {d:Nat},d∈pi f n k ms->d∈ms\/d∈bL f
 |0,_,_,_,h=>zq0 h
 |n+1,k,ms,d,h=>by
  unfold pi at h;split at h
  .rcases xi n (k+1) h with h|h
   .exact Ro h
   .exact zq1 h
  .exact zq0 h
theorem D0{f:CF}:∀(l:List Pr) {ms:List Nat} {d:Nat},(∀p∈l,p∈f.ow)->d∈l.foldl (zF f) ms->d∈ms\/d∈bL f
 |[],_,_,_,h=>zq0 h
 |p::r,ms,d,hl,h=>by
  rcases D0 r (λq hq=>hl q (by simp[hq])) h with h|h
  .rcases xi _ _ h with h|h
   .rcases wy h with h|rfl
    .exact zq0 h
    .exact zq1 (zu (hl p (by simp))).1
   .exact zq1 h
  .exact zq1 h
theorem Q9{f:CF}{d:Nat}(h:d∈df f):d∈bL f:=by
 rcases D0 f.ow (λp hp=>hp) h with h|h
 .rcases xi _ _ h with h|h
  .rcases DH _ h with h|h
   .simp at h
   .exact mem_append_left _ h
  .exact h
 .exact h
theorem Gp:∀(l:List Pr) {m K:Nat},m<K->(∀p∈l,p.l<K/\p.r<K)->rb m l<K
 |[],_,_,h,_=>h
 |p::r,m,K,h,hl=>by
  have:=hl p (by simp);exact Gp r (m:=max (max m p.l) p.r) (by omega) (λq hq=>hl q (by simp[hq]))
theorem Ql{f:CF}{K:Nat}(hK:0<K)(h1:∀c∈kj f,c<K)(h2:∀p∈f.ow,p.l<K/\p.r<K)(h3:∀p∈f.ap,p.l<K/\p.r<K):aw f<=K:=by
 unfold aw;have h0:qs f<K:=by
  have a0:=h1 _ (gG (f:=f) (i:=0) (by omega));have a1:=h1 _ (gG (f:=f) (i:=1) (by omega));have a2:=h1 _ (gG (f:=f) (i:=2) (by omega));have a3:=h1 _ (gG (f:=f) (i:=3) (by omega));have a4:=h1 _ (gG (f:=f) (i:=4) (by omega));unfold qs;omega
 have:=Gp f.ap (Gp f.ow h0 h2) h3;omega
theorem gO{f:CF}:∀c∈bL f,c<aw f:=by
 have hc:qs f<aw f:=by
  have h1:=(iV f.ow (qs f)).1;have h2:=(iV f.ap (rb (qs f) f.ow)).1;unfold aw;omega
 intro c h;unfold bL at h;rw[mem_append,mem_flatMap]at h;rcases h with h|⟨p,hp,h⟩
 .unfold kj at h;unfold qs at hc;simp only[mem_cons,not_mem_nil,or_false]at h;omega
 .have h1:=(iV f.ow (qs f)).2 p hp;have h2:=(iV f.ap (rb (qs f) f.ow)).1;unfold aw;simp only[mem_cons,not_mem_nil,or_false]at h;rcases h with rfl|rfl <;> omega
theorem abM{f:CF}(h:aj f):0<(df f).length:=by
 have:=(rp h.ow h.cl).2.2.1 _ (gG (f:=f) (i:=0) (by omega));exact length_pos_of_mem this
theorem aa2{f:CF}(h:aj f)(hl:∀p∈f.ap,p.l∈bL f/\p.r∈bL f):(∀c∈kj (wU f),c<(df f).length)/\(∀p∈(wU f).ow,p.l<(df f).length/\p.r<(df f).length)/\∀p∈(wU f).ap,p.l<(df f).length/\p.r<(df f).length:=by
 have hL:=lG h.ow h.cl h.lf;refine⟨λc hc=>?_,λp hp=>?_,λp hp=>?_⟩
 .unfold wU at hc;rw[Hx]at hc;obtain⟨d,hd,rfl⟩:=mem_map.1 hc;exact idxOf_lt_length_iff.2 (hL d (mem_append_left _ hd))
 .obtain⟨q,hq,rfl⟩:=mem_map.1 hp;exact⟨idxOf_lt_length_iff.2 (hL _ (zu hq).1),idxOf_lt_length_iff.2 (hL _ (zu hq).2)⟩
 .obtain⟨q,hq,rfl⟩:=mem_map.1 hp;exact⟨idxOf_lt_length_iff.2 (hL _ (hl q hq).1),idxOf_lt_length_iff.2 (hL _ (hl q hq).2)⟩
theorem aa3{f:CF}(h:aj f):aw (aQ f)<=(df f).length:=by
 obtain⟨h1,h2,h3⟩:=aa2 h.fg (λ_ hp=>iz hp);rw[GE]at h1 h2 h3;refine Ql (abM h) h1 (λp hp=>h2 p (dG.1 hp)) (λp hp=>?_);obtain⟨q,hq,rfl⟩:=mem_map.1 (dG.1 hp);have:=h3 q hq;unfold jd;split
 .exact⟨this.2,this.1⟩
 .exact this
theorem ux{f:CF}(h:aj f){S:List Nat}(hS:∀c∈bL f,c∈S):aw (aQ f)<=S.length :=
 zq3 (aa3 h) (List.Nodup.length_le_of_subset (rp h.ow h.cl).1.1 (λc hc=>hS c (Q9 hc)))
def K3(f:CF):Prop:=∀p∈f.ow,p.k=3
theorem K3.td{f:CF}(h:K3 f):K3 (aQ f):=by
 intro p hp;obtain⟨q,hq,rfl⟩:=mem_map.1 (dG.1 hp);exact h q hq
theorem DG{f:CF}{i:Nat}(hi:i<5):f.cl.getD i 0∈bL f:=mem_append_left _ (gG hi)
theorem kT{f:CF}(h5:f.cl.length=5){c:Nat}:c∈bL f↔c∈f.cl\/∃p∈f.ow,c=p.l\/c=p.r:=by
 unfold bL;rw[mem_append,ua h5,mem_flatMap];constructor
 .rintro(h|⟨p,hp,h⟩)
  .exact zq0 h
  .exact zq1 ⟨p,hp,by simpa using h⟩
 .rintro(h|⟨p,hp,h⟩)
  .exact zq0 h
  .exact zq1 ⟨p,hp,by simpa using h⟩
theorem Bj{f:CF}(h5:f.cl.length=5){i d c:Nat}(h:c∈bL (setC f i d)):c∈bL f\/c=d:=by
 rw[kT (by simpa[setC] using h5)]at h;rw[kT h5];rcases h with h|h
 .rcases mem_or_eq_of_mem_set h with h|h
  .exact zq0 (zq0 h)
  .exact zq1 h
 .exact zq0 (zq1 h)
theorem Vj{f:CF}(h5:f.cl.length=5){i c:Nat}{p:Pr}(h:c∈bL (setO f i p)):c∈bL f\/c=p.l\/c=p.r:=by
 rw[kT (f:=setO f i p) h5]at h;rw[kT h5];rcases h with h|⟨q,hq,h⟩
 .exact zq0 (zq0 h)
 .rcases mem_or_eq_of_mem_set hq with hq|rfl
  .exact zq0 (zq1 ⟨q,hq,h⟩)
  .exact zq1 h
theorem aaX{f:CF}(h5:f.cl.length=5){c:Nat}{p:Pr}(h:c∈bL (md f p)):c∈bL f\/c=p.l\/c=p.r:=by
 rw[kT (f:=md f p) h5]at h;rw[kT h5];rcases h with h|⟨q,hq,h⟩
 .exact zq0 (zq0 h)
 .rcases mem_append.1 hq with hq|hq
  .exact zq0 (zq1 ⟨q,hq,h⟩)
  .rw[mem_singleton]at hq;subst hq;exact zq1 h
theorem aaY{f:CF}(h5:f.cl.length=5){i c:Nat}(h:c∈bL (gY f i)):c∈bL f:=by
 rw[kT (f:=gY f i) h5]at h;rw[kT h5];rcases h with h|⟨q,hq,h⟩
 .exact zq0 h
 .exact zq1 ⟨q,(mo _ i).subset hq,h⟩
theorem Q6{a b c:Nat}:(cM a b c=c\/cM a b c=a)/\(cM a b c=b->a=b):=by
 unfold cM;split
 .exact⟨zq1 rfl,λe=>e⟩
 .rename_i h;exact⟨zq0 rfl,λe=>absurd e h⟩
theorem XU{f:CF}(h5:f.cl.length=5){a b c:Nat}(h:c∈bL (mL f a b)):(c∈bL f\/c=a)/\(c=b->a=b):=by
 have Ud:(mL f a b).cl.length=5:=by show(f.cl.map _).length=5;simpa using h5
 rw[kT Ud]at h;rw[kT h5];have key:∀d,(d∈f.cl\/∃p∈f.ow,d=p.l\/d=p.r)->c=cM a b d->((c∈f.cl\/∃p∈f.ow,c=p.l\/c=p.r)\/c=a)/\(c=b->a=b):=by
  intro d hd e;have:=@Q6 a b d;rw[<-e]at this;refine⟨?_,this.2⟩;rcases this.1 with h|h
  .exact zq0 (by rw[h];exact hd)
  .exact zq1 h
 rcases h with h|⟨q,hq,h⟩
 .obtain⟨d,hd,e⟩:=mem_map.1 h;exact key d (zq0 hd) e.symm
 .obtain⟨p,hp,rfl⟩:=mem_map.1 hq;rcases h with h|h
  .exact key p.l (zq1 ⟨p,hp,zq0 rfl⟩) h
  .exact key p.r (zq1 ⟨p,hp,zq1 rfl⟩) h
theorem Jd:∀(l:List Pr) {g:CF} {c d:Nat},d∈bL (l.foldl (λh p=>cf h c p.l) g)->d∈bL g
 |[],_,_,_,h=>h
 |p::r,g,c,d,h=>Jd r (g:=cf g c p.l) h
theorem By:∀(l:List Pr) {g:CF} {c:Nat},(l.foldl (λh p=>cf h c p.l) g).ow=g.ow
 |[],_,_=>rfl
 |p::r,g,c=>By r (g:=cf g c p.l)
structure Fs(B:Nat)(F0:List Nat)(w W:World)(O:Nat)(cs:List Value)(A:Nat)(f:CF)(av ov:Value)(X:Nat)(p:Pr)(v:Value)(L:List FE):Prop where
 fl:Fl W B v L
 bo:Bk W O 280 cs
 ff:eP W A f av ov
 bx:Bk W X 182 [.int .i64 (p.k:Int),.int .i64 (p.l:Int),.int .i64 (p.r:Int)]
 no:∀k∈be v L,k≠O/\k≠X/\k ∉ aG A av ov
 ox:O≠X
 of:O ∉ aG A av ov
 st:ar F0 w (O::be v L) W
 bb:B<=W.heap.size
section
variable {B:Nat} {F0:List Nat} {w W W':World} {O A X:Nat} {cs:List Value} {f:CF} {av ov:Value} {p:Pr} {v:Value} {L:List FE}
theorem Fs.below(h:Fs B F0 w W O cs A f av ov X p v L)(hb:Below W.heap.size W W'):Fs B F0 w W' O cs A f av ov X p v L :=
 ⟨h.fl.below hb,h.bo.below hb,h.ff.below hb,h.bx.below hb,h.no,h.ox,h.of,⟨hb.os.trans h.st.os,hb.tape.trans h.st.tape,hb.output.trans h.st.output,zq3 h.st.size hb.size,λk hk hn=>(hb.block k (zq6 hk h.st.size)).trans (h.st.block k hk hn),h.st.foot⟩,zq3 h.bb hb.size⟩
theorem Fs.fresh(h:Fs B F0 w W O cs A f av ov X p v L){x:FE}(hx:∀k∈x.bs,W.heap.size<=k):∀k∈x.bs,k ∉ be v L/\k≠O/\k≠X/\k ∉ aG A av ov/\w.heap.size<=k/\B<=k:=λk hk=>by
 have h1:=hx k hk;have:=h.bb;exact⟨λhn=>by have:=h.fl.lt k hn;omega,λe=>by have:=h.bo.lt;omega,λe=>by have:=h.bx.lt;omega,λhn=>by have:=h.ff.lt k hn;omega,zq3 h.st.size h1,by omega⟩
theorem Fs.app {g1 c1:Nat} {o:Obj} {x:FE} {W1:World} (h:Fs B F0 w W O cs A f av ov X p v L) (hx:Fm W x.A x.f x.av x.ov) (hd:∀k∈x.bs,k ∉ be v L/\k≠O/\k≠X/\k ∉ aG A av ov/\w.heap.size<=k/\B<=k)
  (aL:W1.ownsRow B 126 1 (.slice (some ⟨g1,0,none⟩) (L.length+1) c1) (L.length+1) (L.map FE.p++[x.p])) (hg:(W.alloc o).grownBy W1 v.ownBlock) (cB:some g1=v.ownBlock\/g1=(W.alloc o).heap.size) :
  Fs B F0 w W1 O cs A f av ov X p (.slice (some ⟨g1,0,none⟩) (L.length+1) c1) (L++[x]):=by
 obtain⟨a1,a2,a3⟩:=h.fl.app hx (λk hk=>(hd k hk).2.2.2.2.2) (λk hk=>(hd k hk).1) h.bb aL hg cB;have hv:∀k∈v.ownBlock.toList,k∈be v L:=λk hk=>mem_append_left _ hk;refine⟨a1,h.bo.stp a2 (λhn=>(h.no O (hv O hn)).1 rfl),h.ff.of_eq (λk hk=>a2.block k (h.ff.lt k hk) (λhn=>(h.no k (hv k hn)).2.2 hk)),h.bx.stp a2 (λhn=>(h.no X (hv X hn)).2.1 rfl),λk hk=>?_,h.ox,h.of,?_,zq3 h.bb a2.size⟩
 .rcases a3 k hk with q|q|q
  .exact h.no k q
  .exact⟨(hd k q).2.1,(hd k q).2.2.1,(hd k q).2.2.2.1⟩
  .exact⟨λe=>by have:=h.bo.lt;omega,λe=>by have:=h.bx.lt;omega,λhn=>by have:=h.ff.lt k hn;omega⟩
 .have h2:=h.st;refine⟨a2.os.trans h2.os,a2.tape.trans h2.tape,a2.output.trans h2.output,zq3 h2.size a2.size,λk hk hn=>?_,λk hk=>?_⟩
  .rw[a2.block k (zq6 hk h2.size) (λhm=>?_)]
   .exact h2.block k hk hn
   .rcases h2.foot k (mem_cons_of_mem _ (hv k hm)) with q|q
    .exact hn q
    .omega
  .rcases mem_cons.1 hk with rfl|hk
   .exact h2.foot k (by simp)
   .rcases a3 k hk with q|q|q
    .exact h2.foot k (mem_cons_of_mem _ q)
    .exact zq1 (hd k q).2.2.2.2.1
    .exact zq1 (zq3 h2.size q)
theorem Fs.fin {g1 c1:Nat} {o:Obj} {x:FE} {W1:World} (h:Fs B F0 w W O cs A f av ov X p v L) (hx:Fm W x.A x.f x.av x.ov) (hd:∀k∈x.bs,k ∉ be v L/\k≠O/\(k∈F0\/w.heap.size<=k)/\B<=k)
  (aL:W1.ownsRow B 126 1 (.slice (some ⟨g1,0,none⟩) (L.length+1) c1) (L.length+1) (L.map FE.p++[x.p])) (hg:(W.alloc o).grownBy W1 v.ownBlock) (cB:some g1=v.ownBlock\/g1=(W.alloc o).heap.size) :
  Fl W1 B (.slice (some ⟨g1,0,none⟩) (L.length+1) c1) (L++[x])/\Bk W1 O 280 cs/\ar F0 w (O::be (.slice (some ⟨g1,0,none⟩) (L.length+1) c1) (L++[x])) W1:=by
 obtain⟨a1,a2,a3⟩:=h.fl.app hx (λk hk=>(hd k hk).2.2.2) (λk hk=>(hd k hk).1) h.bb aL hg cB;have hv:∀k∈v.ownBlock.toList,k∈be v L:=λk hk=>mem_append_left _ hk;refine⟨a1,h.bo.stp a2 (λhn=>(h.no O (hv O hn)).1 rfl),?_⟩;have h2:=h.st;refine⟨a2.os.trans h2.os,a2.tape.trans h2.tape,a2.output.trans h2.output,zq3 h2.size a2.size,λk hk hn=>?_,λk hk=>?_⟩
 .rw[a2.block k (zq6 hk h2.size) (λhm=>?_)]
  .exact h2.block k hk hn
  .rcases h2.foot k (mem_cons_of_mem _ (hv k hm)) with q|q
   .exact hn q
   .omega
 .rcases mem_cons.1 hk with rfl|hk
  .exact h2.foot k (by simp)
  .rcases a3 k hk with q|q|q
   .exact h2.foot k (mem_cons_of_mem _ q)
   .exact(hd k q).2.2.1
   .exact zq1 (zq3 h2.size q)
theorem Fs.flag(h:Fs B F0 w W O cs A f av ov X p v L)(j:Nat)(u:Value)(hO:O∈F0):Fs B F0 w (W.setCell ⟨O,j,none⟩ u) O (cs.set j u) A f av ov X p v L :=
 ⟨h.fl.of_eq (λk hk=>heap_setCell _ _ _ _ (h.no k hk).1),h.bo.set j u,h.ff.of_eq (λk hk=>heap_setCell _ _ _ _ (λe=>h.of (by have e':k=O:=e;rw[<-e'];exact hk))),h.bx.setO (p:=⟨O,j,none⟩) h.ox u,h.no,h.ox,h.of,h.st.setCell (p:=⟨O,j,none⟩) (zq0 hO) u,by simpa using h.bb⟩
end
theorem Fm.putW{w:World}{A:Nat}{f:CF}{av:Value}{g cap i:Nat}(h:Fm w A f av (.slice (some ⟨g,0,none⟩) f.ow.length cap))(hi:i<f.ow.length)(q:Pr):
  Fm (((w.setCell ⟨g,i*3,none⟩ (.int .i64 (q.k:Int))).setCell ⟨g,i*3+1,none⟩ (.int .i64 (q.l:Int))).setCell ⟨g,i*3+2,none⟩ (.int .i64 (q.r:Int))) A (setO f i q) av (.slice (some ⟨g,0,none⟩) f.ow.length cap)/\ar (aG A av (.slice (some ⟨g,0,none⟩) f.ow.length cap)) w (aG A av (.slice (some ⟨g,0,none⟩) f.ow.length cap)) (((w.setCell ⟨g,i*3,none⟩ (.int .i64 (q.k:Int))).setCell ⟨g,i*3+1,none⟩ (.int .i64 (q.l:Int))).setCell ⟨g,i*3+2,none⟩ (.int .i64 (q.r:Int))):=by
 obtain⟨r3,-,-⟩:=Gy h.is.ow rfl hi q;have hs:ar (Value.slice (some ⟨g,0,none⟩) f.ow.length cap).ownBlock.toList w (Value.slice (some ⟨g,0,none⟩) f.ow.length cap).ownBlock.toList (((w.setCell ⟨g,i*3,none⟩ (.int .i64 (q.k:Int))).setCell ⟨g,i*3+1,none⟩ (.int .i64 (q.l:Int))).setCell ⟨g,i*3+2,none⟩ (.int .i64 (q.r:Int))):=(((ar.refl _ _).setCell (p:=⟨g,i*3,none⟩) (zq0 (by simp[Value.ownBlock])) _).setCell (p:=⟨g,i*3+1,none⟩) (zq0 (by simp[Value.ownBlock])) _).setCell (p:=⟨g,i*3+2,none⟩) (zq0 (by simp[Value.ownBlock])) _;exact h.newRow (ow':=f.ow.set i q) (by simp) r3 hs
theorem Fm.putK{w:World}{A:Nat}{f:CF}{av:Value}{g cap i:Nat}(h:Fm w A f av (.slice (some ⟨g,0,none⟩) f.ow.length cap))(hi:i<f.ow.length)(k:Nat):
  Fm (w.setCell ⟨g,i*3,none⟩ (.int .i64 (k:Int))) A (setO f i ⟨k,(owA f i).l,(owA f i).r⟩) av (.slice (some ⟨g,0,none⟩) f.ow.length cap)/\ar (aG A av (.slice (some ⟨g,0,none⟩) f.ow.length cap)) w (aG A av (.slice (some ⟨g,0,none⟩) f.ow.length cap)) (w.setCell ⟨g,i*3,none⟩ (.int .i64 (k:Int))):=by
 have h1:=(h.is.ow.stored (i*3) (.int .i64 (k:Int))).1;rw[mi hi]at h1;have hs:ar (Value.slice (some ⟨g,0,none⟩) f.ow.length cap).ownBlock.toList w (Value.slice (some ⟨g,0,none⟩) f.ow.length cap).ownBlock.toList (w.setCell ⟨g,i*3,none⟩ (.int .i64 (k:Int))):=(ar.refl _ _).setCell (p:=⟨g,i*3,none⟩) (zq0 (by simp[Value.ownBlock])) _;exact h.newRow (ow':=f.ow.set i ⟨k,(owA f i).l,(owA f i).r⟩) (by simp) h1 hs
theorem DI{f:CF}(h:aj f):rb (rb (qs f) f.ow) f.ap<24:=by
 have:aw f<=24:=Ql (by omega) h.cl h.ow h.ap;unfold aw at this;omega
section
variable {B:Nat} {w:World} {O A:Nat} {nv tv:Value} {nu da fu:Bool} {f:CF} {av ov:Value} {v:Value} {L:List FE}
theorem rV(hB:Fl w B v L)(EA:Bk w O 280 [nv,tv,.bool nu,.bool da,.bool fu])(hx:Fm w A f av ov)(hO:aj f)(ha:f.ap.length<=40000)(FK:∀k∈be v L,k≠O/\k ∉ aG A av ov)(kY:O ∉ aG A av ov)(cW:∀k∈aG A av ov,B<=k)(hB':B<=w.heap.size){c i:Nat}(hb:cD f.ow c=some i)(hL:L.length<=900000):
  Calls prog 264 #[.pointer (some ⟨O,0,none⟩),v,.pointer (some ⟨A,0,none⟩),.int .i64 c] w λe w'=>∃v' L',e=.returned v'/\Fl w' B v' (L++L')/\L'.map (·.f)=(gU f c).1/\Bk w' O 280 [nv,tv,.bool nu,.bool da,.bool (fu||(gU f c).2)]/\ar (O::(be v L++aG A av ov)) w (O::be v' (L++L')) w':=by
 obtain⟨i0,lr,gX,gy,gK⟩:=info_parts infoPF;have iH:=hO.owLen;obtain⟨hi,dT⟩:=eT hb;obtain⟨va,vc,hv,-,-⟩:=am hB.row;subst hv;have hfi:gU f c=Oj f c i:=by unfold gU;rw[hb]
 have mQ:=ab (cO c hx.is);rw[hb]at mQ;obtain⟨oa,oc,gw,-,-⟩:=am hx.is.ow;subst gw;have c6:=hx.is.c6;obtain⟨g,cap,dE,-,-⟩:=aE hx.is.ow hi;simp only[Value.slice.injEq,true_and]at dE;obtain⟨rfl,rfl⟩:=dE;obtain⟨x0,x1,x2⟩:=aB hx.is.ow hi;obtain⟨p,hp⟩:∃p,p=f.ow.getD i ay:=⟨_,rfl⟩;rw[<-hp]at x0 x1 x2;obtain⟨W1,d7⟩:∃W1,W1=w.alloc (.cells #[Value.int .i64 p.k,.int .i64 p.l,.int .i64 p.r] 182):=⟨_,rfl⟩;have ce:Below w.heap.size w W1:=by rw[d7];exact ah w _
 have hX:Bk W1 w.heap.size 182 [Value.int .i64 p.k,.int .i64 p.l,.int .i64 p.r]:=by rw[d7];exact Bk.new w _ _
 obtain⟨X,gV⟩:∃X,X=w.heap.size:=⟨_,rfl⟩;rw[<-gV]at hX;have hFs:Fs B (O::(be (.slice va L.length vc) L++aG A av (.slice (some ⟨g,0,none⟩) f.ow.length oc))) w W1 O [nv,tv,.bool nu,.bool da,.bool fu] A f av (.slice (some ⟨g,0,none⟩) f.ow.length oc) X p (.slice va L.length vc) L:=by
  refine⟨hB.below ce,EA.below ce,hx.is.below ce,hX,λk hk=>⟨(FK k hk).1,λe=>?_,(FK k hk).2⟩,λe=>?_,kY,(ar.ofBw (F:=O::(be (.slice va L.length vc) L++aG A av (.slice (some ⟨g,0,none⟩) f.ow.length oc))) ce).foots (λk hk=>?_),zq3 hB' ce.size⟩
  .have:=hB.lt k hk;omega
  .have:=EA.lt;omega
  .rcases mem_cons.1 hk with rfl|hk
   .exact zq0 (by simp)
   .exact zq0 (mem_cons_of_mem _ (mem_append_left _ hk))
 have b0:=hX.cell 0 rfl;have H1:=ab hFs;have HX1:=ab (hx.below ce);have El:=ab cW;have S1:=ab FK;have Yh:=ab kY;have HP:Hid (p=owA f i):=ab hp;have Ek:=ab hfi;have HO:=ab hO;have i1:(0:Int)<=(i:Int):=by omega
 have i2:(i:Int)<(f.ow.length:Int):=by omega
 have xH:Hid ((owA f i).l=c):=ab dT;clear hB EA hO FK kY cW ce hX hFs hp hfi hx hb dT hB';rw[show fU (some i)=(i:Int) from rfl]at mQ;go_enter func264,ntmps264;go_wp2_with fail
 refine(uh mQ).mono ?_;rintro e w1 ⟨rfl,rfl⟩;clear mQ;go_upto_region 3 with fail;rw[<-d7,<-gV];clear d7 gV;by_cases Dg:p.k=3
 .have d3:((p.k:Int)==3)=true:=by simp[Dg]
  have HE:Hid (gU f c=([f],false)):=ab (by rw[uh Ek];unfold Oj;rw[if_pos (show(owA f i).k=3 by rw[<-uh HP];exact Dg)]);have HR:=ab (uh H1).fl.row;have mO:=(uh H1).bb;clear Dg;go_wp2_with (at_builtin;refine aS _ rfl (.tmp 27) (.tmp 29) 125 rfl B 126 i0 _ 1 8 underlying125 lr gX gy gK rfl (by decide) _ L.length (L.map FE.p) rfl ((uh HR).alloc _) ⟨_,0,none⟩ 1 [.pointer (some ⟨A,0,none⟩)] rfl rfl (aN _ _ (by simp) [.pointer (some ⟨A,0,none⟩)] _) (by intro u hu;simp only[mem_singleton]at hu;subst hu;rfl) (by omega) (by omega) (by simp;omega) ?_)
  intro g1 cap1 wa fN dL kA;have HF:=ab ((uh H1).fin (x:=⟨A,f,av,.slice (some ⟨g,0,none⟩) f.ow.length oc⟩) (uh HX1) (λk hk=>⟨λhn=>(uh S1 k hn).2 hk,λe=>uh Yh (by rw[<-e];exact hk),zq0 (mem_cons_of_mem _ (mem_append_right _ hk)),uh El k hk⟩) fN dL (by simpa using kA));clear fN dL kA;go_wp2_with fail
  go_ret;refine⟨_,[⟨A,f,av,.slice (some ⟨g,0,none⟩) f.ow.length oc⟩],rfl,(uh HF).1,by rw[uh HE];rfl,?_,(uh HF).2.2⟩;rw[uh HE,Bool.or_false];exact(uh HF).2.1
 .have d3:((p.k:Int)==3)=false:=by simp;omega
  have afO:gU f c=if 24<=aw f then ([gp f i],true) else ([gp f i,oQ f c i],false):=by rw[uh Ek];unfold Oj;rw[if_neg (show ¬ ((owA f i).k=3) by rw[<-uh HP];exact Dg)]
  have xZ:=ab afO;have kX:=ab (cP (uh H1).ff (uh HO).c5 ha (zq3 iH (by omega)));clear Dg afO;go_wp2_with fail
  refine(uh kX).mono ?_;rintro e w2 ⟨A2,rfl,C3⟩;obtain⟨av2,ov2,mJ⟩:=C3.frf;obtain⟨g2,cap2,db,-,-⟩:=aE mJ.fm.is.ow hi;have afW:ov2=.slice (some ⟨g2,0,none⟩) f.ow.length cap2:=db;subst afW;have e6:=mJ.fm.is.c6;obtain⟨Ev,cR⟩:=Fm.putK mJ.fm hi 3;obtain⟨-,⟨⟨u0,y0⟩,-,-⟩,z0,-,-⟩:=Gy mJ.fm.is.ow rfl hi ay;obtain⟨w3,IK⟩:∃w3,w3=w2.setCell ⟨g2,i*3,none⟩ (.int .i64 3):=⟨_,rfl⟩;rw[show w2.setCell ⟨g2,i*3,none⟩ (.int .i64 ((3:Nat):Int))=w3 from IK.symm]at Ev cR;have m6:=mJ.step (x':=⟨A2,gp f i,av2,.slice (some ⟨g2,0,none⟩) f.ow.length cap2⟩) Ev cR;have hL3:=(uh H1).below m6.bw;have HR:=ab hL3.fl.row;have MK:=ab ((uh H1).fresh m6.ge);have HF3:=ab m6.fm;have HL3:=ab hL3;have mO:=hL3.bb;clear C3 mJ db Ev cR m6 hL3 kX;go_upto_region 7 with fail;rw[<-IK];clear IK e6 y0 z0 u0;go_wp2_with (at_builtin;refine aS _ rfl (.tmp 40) (.tmp 42) 125 rfl B 126 i0 _ 1 8 underlying125 lr gX gy gK rfl (by decide) _ L.length (L.map FE.p) rfl ((uh HR).alloc _) ⟨_,0,none⟩ 1 [.pointer (some ⟨A2,0,none⟩)] rfl rfl (aN _ _ (by simp) [.pointer (some ⟨A2,0,none⟩)] _) (by intro u hu;simp only[mem_singleton]at hu;subst hu;rfl) (by omega) (by omega) (by simp;omega) ?_)
  intro g4 cap4 w4 iJ eu jK;have hL4:=(uh HL3).app (uh HF3) (uh MK) iJ eu (by simpa using jK);have Cr:aw f<=100000:=by
   unfold aw;have h1:=DI (uh HO);omega
  have Sc:=ab (vJ hL4.ff (zq3 ha (by omega)) (zq3 iH (by omega)) Cr);have HL4:=ab hL4;clear iJ eu jK hL4 HR MK HF3 HL3;go_wp2_with fail
  refine(uh Sc).mono ?_;rintro e w5 ⟨rfl,et⟩;have ZJ:=(uh HL4).below et;have Ys:=ab ZJ;obtain⟨N,hN⟩:∃N,N=aw f:=⟨_,rfl⟩;rw[<-hN]at Cr xZ ⊢;have tU:=ab hN;clear et Sc HL4 hN;by_cases qI:24<=N
  .have d5:decide ((24:Int)<=(N:Int))=true:=(by simp;omega);have HE:Hid (gU f c=([gp f i],true)):=ab (by rw[uh xZ,if_pos qI]);have o4:=ZJ.bo.cell 4 rfl;have z4:=ZJ.bo.frz 4;have HL6:=ab (ZJ.flag 4 (.bool true) (by simp));clear qI ZJ;go_wp2_with fail
   go_ret;refine⟨_,[⟨A2,gp f i,av2,.slice (some ⟨g2,0,none⟩) f.ow.length cap2⟩],rfl,(uh HL6).fl,by rw[uh HE];rfl,?_,(uh HL6).st⟩;rw[uh HE,Bool.or_true];exact(uh HL6).bo
  .have d5:decide ((24:Int)<=(N:Int))=false:=(by simp;omega);have HE:Hid (gU f c=([gp f i,oQ f c i],false)):=ab (by rw[uh xZ,if_neg qI]);have kX:=ab (cP ZJ.ff (uh HO).c5 ha (zq3 iH (by omega)));clear qI ZJ;go_wp2_with fail
   refine(uh kX).mono ?_;rintro e w6 ⟨A6,rfl,hN6⟩;obtain⟨av6,ov6,Mn⟩:=hN6.frf;obtain⟨g6,cap6,afY,-,-⟩:=aE Mn.fm.is.ow hi;have afZ:ov6=.slice (some ⟨g6,0,none⟩) f.ow.length cap6:=afY;subst afZ;have e6:=Mn.fm.is.c6;obtain⟨Uk,Ew⟩:=Fm.putW Mn.fm hi ⟨3,c,N⟩;obtain⟨-,⟨⟨u0,y0⟩,⟨u1,y1⟩,⟨u2,y2⟩⟩,z0,z1,z2⟩:=Gy Mn.fm.is.ow rfl hi ay;obtain⟨w7,hw7⟩:∃w7,w7=((w6.setCell ⟨g6,i*3,none⟩ (.int .i64 3)).setCell ⟨g6,i*3+1,none⟩ (.int .i64 (c:Int))).setCell ⟨g6,i*3+2,none⟩ (.int .i64 (N:Int)):=⟨_,rfl⟩;rw[show((w6.setCell ⟨g6,i*3,none⟩ (.int .i64 (((⟨3,c,N⟩:Pr).k:Nat):Int))).setCell ⟨g6,i*3+1,none⟩ (.int .i64 (((⟨3,c,N⟩:Pr).l:Nat):Int))).setCell ⟨g6,i*3+2,none⟩ (.int .i64 (((⟨3,c,N⟩:Pr).r:Nat):Int))=w7 from hw7.symm]at Uk Ew;have vS:=Mn.step (x':=⟨A6,setO f i ⟨3,c,N⟩,av6,.slice (some ⟨g6,0,none⟩) f.ow.length cap6⟩) Uk Ew;have b2:=((uh Ys).below vS.bw).bx.cell 2 rfl;have yE:=ab (qX vS.fm 4 N p.r (by
    show(f.ow.set i _).length<=100000;rw[length_set];exact zq3 iH (by omega)))
   have HF7:=ab vS;clear hN6 Mn afY Uk Ew vS kX;go_upto_region 14 with fail;rw[<-hw7];clear hw7 e6 y0 y1 y2 z0 z1 z2 u0 u1 u2;go_wp2_with fail
   refine(uh yE).mono ?_;rintro e w8 ⟨rfl,ov8,Sp,C5⟩;have xP:=(uh HF7).step (x':=⟨A6,oQ f c i,av6,ov8⟩) (by
    have e9:oQ f c i={ setO f i ⟨3,c,N⟩ with ow:=(setO f i ⟨3,c,N⟩).ow++[⟨4,N,p.r⟩] }:=(by rw[uh HP,uh tU];rfl);rw[e9];exact Sp) C5
   have hL8:=(uh Ys).below xP.bw;have HR:Hid (w8.ownsRow B 126 1 (.slice (some ⟨g4,0,none⟩) (L.length+1) cap4) (L.length+1) ((L++[(⟨A2,gp f i,av2,.slice (some ⟨g2,0,none⟩) f.ow.length cap2⟩:FE)]).map FE.p)):=ab (by have:=hL8.fl.row;rwa [length_append,length_singleton]at this);have MK:=ab ((uh Ys).fresh xP.ge);have S6:=ab xP.fm;have HL8:=ab hL8;have ase:=hL8.bb;clear Sp C5 xP hL8 yE;go_wp2_with (at_builtin;refine aS _ rfl (.tmp 68) (.tmp 70) 125 rfl B 126 i0 _ 1 8 underlying125 lr gX gy gK rfl (by decide) _ (L.length+1) ((L++[(⟨A2,gp f i,av2,.slice (some ⟨g2,0,none⟩) f.ow.length cap2⟩:FE)]).map FE.p) rfl ((uh HR).alloc _) ⟨_,0,none⟩ 1 [.pointer (some ⟨A6,0,none⟩)] rfl rfl (aN _ _ (by simp) [.pointer (some ⟨A6,0,none⟩)] _) (by intro u hu;simp only[mem_singleton]at hu;subst hu;rfl) (by omega) (by omega) (by simp;omega) ?_)
   intro g9 cap9 w9 XE Pf Xo;have HF:=ab ((uh HL8).fin (x:=⟨A6,oQ f c i,av6,ov8⟩) (g1:=g9) (c1:=cap9) (uh S6) (λk hk=>⟨(uh MK k hk).1,(uh MK k hk).2.1,zq1 (uh MK k hk).2.2.2.2.1,(uh MK k hk).2.2.2.2.2⟩) (by rw[length_append,length_singleton,map_append,append_assoc];exact XE) Pf (by simpa using Xo));rw[append_assoc,length_append,length_singleton]at HF;clear XE Pf Xo;go_wp2_with fail
   go_ret;refine⟨_,[⟨A2,gp f i,av2,.slice (some ⟨g2,0,none⟩) f.ow.length cap2⟩,⟨A6,oQ f c i,av6,ov8⟩],rfl,(uh HF).1,by rw[uh HE];rfl,?_,(uh HF).2.2⟩;rw[uh HE,Bool.or_false];exact(uh HF).2.1
end
