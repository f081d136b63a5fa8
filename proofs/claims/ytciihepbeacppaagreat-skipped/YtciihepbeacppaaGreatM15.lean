import Derived.Test.YtciihepbeacppaaGreatM14
set_option maxRecDepth 100000
set_option maxHeartbeats 0
namespace Go.Proofs.YtciihepbeacppaaGreat
open Tryz Go.RowKit List World Below
set_option linter.unusedVariables false
theorem ui(f:CF)(c:Nat):(gV f c).1.length<=2:=by
 unfold gV;split
 .simp
 .unfold On;split
  .simp
  .split <;> simp
theorem rZ{α β:Type}{d:Nat}(g:List α × Bool->β->List α × Bool):∀(l:List β) (r:List α × Bool),(∀b∈l,∀r,(g r b).1.length<=r.1.length+d)->(l.foldl g r).1.length<=r.1.length+d*l.length
 |[],r,_=>by simp
 |b::l,r,hg=>by
  have h1:=rZ g l (g r b) (λb' xQ=>hg b' (by simp[xQ]));have h2:=hg b (by simp) r;rw[foldl_cons,length_cons,Nat.mul_succ];omega
theorem uD{f:CF}(h:aj f)(v:Nat):(c9 f v).1.length<=96:=by
 unfold c9;split
 .simp
 .split
  .exact zq3 (ui _ _) (by omega)
  .have h1:=rZ (d:=4) (λr i=>uE f v i r) (range f.ow.length) (([]:List CF),false) (λi _ r=>by
    have h2:=rZ (d:=2) (λr g=>Ci r g (g.cl.getD (1+v) 0)) (eO f (f.cl.getD (1+v) 0) i) r (λg _ r=>by
     unfold Ci;have:=ui g (g.cl.getD (1+v) 0);rw[length_append];omega)
    have h3:=q8 f (f.cl.getD (1+v) 0) i;exact zq3 h2 (by omega))
   rw[length_range]at h1;have:=h.owLen;simp only[length_nil]at h1;exact zq3 h1 (by omega)
theorem TH(f:CF)(n:Nd):(mu f n).1.length<=1/\(mu f n).2.length<=1:=by
 constructor
 .simp only[mu];split <;> simp
 .simp only[mu];split <;> simp
theorem TN{f:CF}(h:aj f)(n:Nd):(cn n f).nx.length<=96/\(cn n f).ot.length<=1:=by
 have op:∀v g,(bR (c9 f v) g).nx.length<=96/\(bR (c9 f v) g).ot.length<=1:=λv g=>⟨by simpa[bR] using uD h v,by simp[bR]⟩;have cm:=TH f n;unfold cn;split
 .simp[wN]
 .split
  .simp
  .split
   .exact op _ _
   .split
    .exact op _ _
    .split
     .split <;> simp
     .split
      .exact op _ _
      .split
       .simp
       .split
        .exact⟨zq3 cm.1 (by omega),cm.2⟩
        .split
         .exact⟨zq3 cm.2 (by omega),cm.1⟩
         .simp
theorem GV{b:Bool}{n k m:Nat}{s:Sr}(h:Gd m s):Gd m (wrI b n k s)/\f8 (wrI b n k s)=f8 s/\(wrI b n k s).lf=s.lf:=by
 unfold wrI;split
 .exact⟨⟨h.en,h.lo,h.fu,h.ok⟩,rfl,rfl⟩
 .exact⟨h,rfl,rfl⟩
theorem ab4{c:Cd}(hb:c.bd=true){fuel n:Nat}(dY:3002<=fuel){f:CF}{s:Sr}(hv:(c.nds.getD n aI).v<4)(ha:(c.nds.getD n aI).ai<4)(hf:Td f)(h:Gd 1152 s):Gd 500000 (po c fuel n f s)/\(f8 (po c fuel n f s):Int)+(po c fuel n f s).lf<=f8 s+s.lf:=by
 obtain⟨t1,t2⟩:=jI hv ha hf;obtain⟨l1,l2⟩:=TN hf.ok (c.nds.getD n aI);unfold po;obtain⟨a1,b1,c1⟩:=GV (b:=decide ((c.nds.getD n aI).op=0)&&!decide (dd f=[])) (n:=n) (k:=2) h;obtain⟨a2,b2,c2⟩:=GV (b:=(cn (c.nds.getD n aI) f).nu) (n:=n) (k:=3) a1;obtain⟨a3,b3,c3⟩:=GV (b:=(cn (c.nds.getD n aI) f).da) (n:=n) (k:=4) a2;obtain⟨s3,gj⟩:∃s3,s3=wrI (cn (c.nds.getD n aI) f).da n 4 (wrI (cn (c.nds.getD n aI) f).nu n 3 (wrI (decide ((c.nds.getD n aI).op=0)&&!decide (dd f=[])) n 2 s)):=⟨_,rfl⟩;rw[<-gj]at a3 b3 c3;have a4:Gd 1152 (fuS (cn (c.nds.getD n aI) f).fu s3):=⟨a3.en,a3.lo,λhx=>a3.fu (by
  have:(s3.fu||(cn (c.nds.getD n aI) f).fu)=false:=hx;rw[Bool.or_eq_false_iff]at this;exact this.1),a3.ok⟩
 obtain⟨g1,g2⟩:=E6 hb (a:=n) (b:=(c.nds.getD n aI).nx) dY (cn (c.nds.getD n aI) f).nx (m:=1152) (by omega) (by omega) t1 a4;obtain⟨k1,k2⟩:=E6 hb (a:=n) (b:=(c.nds.getD n aI).ot) dY (cn (c.nds.getD n aI) f).ot (m:=1152+3001*(cn (c.nds.getD n aI) f).nx.length) (by omega) (by omega) t2 g1;simp only[<-gj];refine⟨k1.wide (by omega),?_⟩;refine Int.le_trans k2 (Int.le_trans g2 ?_);show(f8 s3:Int)+s3.lf<=_;rw[b3,c3,b2,c2,b1,c1];exact Int.le_refl _
def NdV(c:Cd):Prop:=∀n,(c.nds.getD n aI).v<4/\(c.nds.getD n aI).ai<4
theorem RO{c:Cd}(hb:c.bd=true)(hc:NdV c){fuel n:Nat}(dY:3002<=fuel):∀(l:List CF) {s:Sr},bW l->qo s->Gd 500000 s->Gd 500000 (nO c fuel n l s)/\qo (nO c fuel n l s)/\(f8 (nO c fuel n l s):Int)+(nO c fuel n l s).lf<=f8 s+s.lf
 |[],s,_,hi,h=>⟨h,hi,Int.le_refl _⟩
 |f::r,s,hl,hi,h=>by
  unfold nO;split
  .exact⟨h,hi,Int.le_refl _⟩
  .rename_i hf;have AH:=h.fu (by simpa using hf);have h':Gd 1152 s:=⟨h.en,by omega,h.fu,h.ok⟩;obtain⟨g1,g2⟩:=ab4 hb dY (hc n).1 (hc n).2 (hl f (by simp)) h';obtain⟨k1,k2,k3⟩:=RO hb hc dY r (λx hx=>hl x (by simp[hx])) (ab5 (hc n).1 (hc n).2 (hl f (by simp)) hi) g1;exact⟨k1,k2,Int.le_trans k3 g2⟩
theorem Zy{l:List ii}(h:∀e∈l,Td e.f):bW (mI l):=by
 intro f hf;obtain⟨e,he,rfl⟩:=mem_map.1 hf;exact h e (mem_filter.1 he).1
theorem acc{c:Cd}(hb:c.bd=true)(hc:NdV c){fuel n:Nat}(dY:3002<=fuel){s:Sr}(hi:qo s)(h:Gd 500000 s)(hp:EP s=some n):Gd 500000 (sQ c fuel n s)/\qo (sQ c fuel n s)/\(f8 (sQ c fuel n s):Int)+(sQ c fuel n s).lf+1<=f8 s+s.lf:=by
 have IJ:=findIdx?_eq_some_iff_getElem.1 hp;obtain⟨hn,qG,-⟩:=IJ;have gw:br s n=s.kn[n]:=by unfold br;rw[getD_eq_getElem?_getD,getElem?_eq_getElem hn];rfl
 have hu:f8 { s with kn:=s.kn.set n ((br s n).map (λe=>⟨e.f,true⟩)) }+1<=f8 s:=by
  have h1:=xu (λl:List ii=>l.countP (λe=>!e.d)) [] s.kn n ((br s n).map (λe=>⟨e.f,true⟩));rw[if_pos hn,if_pos hn]at h1;have h2:List.countP (λe:ii=>!e.d) ((br s n).map (λe=>(⟨e.f,true⟩:ii)))=0:=by
   rw[countP_eq_zero];intro e he;obtain⟨x,-,rfl⟩:=mem_map.1 he;simp
  have h3:0<List.countP (λe:ii=>!e.d) (s.kn.getD n []):=by
   rw[countP_pos_iff];obtain⟨e,he,hd⟩:=any_eq_true.1 qG;exact⟨e,by rw[getD_eq_getElem?_getD,getElem?_eq_getElem hn];exact he,hd⟩
  unfold f8;simp only[h2]at h1;show a7 (λl:List ii=>l.countP (λe=>!e.d)) (s.kn.set n ((br s n).map (λe=>(⟨e.f,true⟩:ii))))+1<=_;omega
 have he:rW { s with kn:=s.kn.set n ((br s n).map (λe=>⟨e.f,true⟩)) }<=rW s:=by
  have:=GK (g:=List.length) (λl=>by simp) (s:=s) (n:=n) (d:=0) (x:=(br s n).map (λe=>(⟨e.f,true⟩:ii))) (by simp);simpa[rW] using this
 have h':Gd 500000 { s with kn:=s.kn.set n ((br s n).map (λe=>⟨e.f,true⟩)) }:=⟨by have:=h.en;show(rW _:Int)+s.lf<=3000;omega,h.lo,h.fu,h.ok⟩;have lS:qo { s with kn:=s.kn.set n ((br s n).map (λe=>⟨e.f,true⟩)) }:=hi.set n (λe he=>by
  obtain⟨x,hx,rfl⟩:=mem_map.1 he;exact hi.at n x hx)
 obtain⟨g1,g2,g3⟩:=RO hb hc (n:=n) dY (mI (br s n)) (Zy (hi.at n)) lS h';refine⟨g1,g2,?_⟩;show(f8 (nO c fuel n (mI (br s n)) { s with kn:=s.kn.set n ((br s n).map (λe=>⟨e.f,true⟩)) }):Int)+(nO c fuel n (mI (br s n)) { s with kn:=s.kn.set n ((br s n).map (λe=>⟨e.f,true⟩)) }).lf+1<=_;have:({ s with kn:=s.kn.set n ((br s n).map (λe=>⟨e.f,true⟩)) }:Sr).lf=s.lf:=rfl;rw[this]at g3;omega
theorem GH{c:Cd}(hb:c.bd=true)(hc:NdV c){fuel:Nat}(dY:3002<=fuel):∀(n:Nat) {s:Sr},qo s->Gd 500000 s->(f8 s:Int)+s.lf<n->0<n->(qg c fuel n s).ok=true
 |0,s,_,_,_,h=>by omega
 |n+1,s,hi,h,hn,_=>by
  unfold qg;split
  .exact h.ok
  .rename_i k hk;split
   .exact h.ok
   .rename_i hf;obtain⟨g1,g2,g3⟩:=acc hb hc dY hi h hk;have AH:=h.fu (by simpa using hf);have hu:0<f8 s:=by
     obtain⟨h1,h2,-⟩:=findIdx?_eq_some_iff_getElem.1 hk;have h3:=xr (λl:List ii=>l.countP (λe=>!e.d)) [] s.kn k h1;have h4:0<List.countP (λe:ii=>!e.d) (s.kn.getD k []):=by
      rw[countP_pos_iff];obtain⟨e,he,hd⟩:=any_eq_true.1 h2;exact⟨e,by rw[getD_eq_getElem?_getD,getElem?_eq_getElem h1];exact he,hd⟩
     unfold f8;omega
    exact GH hb hc dY n g2 g1 (by omega) (by omega)
theorem wE{ms:List Nat}{c d:Nat}(h:d∈iU ms c):d∈ms\/d=c:=by
 unfold iU at h;split at h
 .exact zq0 h
 .rw[mem_append,mem_singleton]at h;exact h
theorem DJ:∀(l:List Nat) {ms:List Nat} {d:Nat},d∈l.foldl iU ms->d∈ms\/d∈l
 |[],ms,d,h=>zq0 h
 |c::l,ms,d,h=>by
  rcases DJ l h with h|h
  .rcases wE h with h|rfl
   .exact zq0 h
   .exact zq1 (by simp)
  .exact zq1 (by simp[h])
theorem zy{f:CF}{p:Pr}(hp:p∈f.ow):p.l∈bM f/\p.r∈bM f:=⟨mem_append_right _ (mem_flatMap.2 ⟨p,hp,by simp⟩),mem_append_right _ (mem_flatMap.2 ⟨p,hp,by simp⟩)⟩
theorem Rq{f:CF}{k:Nat}{ms:List Nat}{d:Nat}(h:d∈zQ f k ms):d∈ms\/d∈bM f:=by
 unfold zQ at h;split at h
 .rename_i i hi;rcases wE h with h|rfl
  .exact zq0 h
  .exact zq1 (zy (uc hi)).2
 .exact zq0 h
theorem xo{f:CF}:∀(n k:Nat) {ms:List Nat} {d:Nat},d∈pm f n k ms->d∈ms\/d∈bM f
 |0,_,_,_,h=>zq0 h
 |n+1,k,ms,d,h=>by
  unfold pm at h;split at h
  .rcases xo n (k+1) h with h|h
   .exact Rq h
   .exact zq1 h
  .exact zq0 h
theorem D4{f:CF}:∀(l:List Pr) {ms:List Nat} {d:Nat},(∀p∈l,p∈f.ow)->d∈l.foldl (zI f) ms->d∈ms\/d∈bM f
 |[],_,_,_,h=>zq0 h
 |p::r,ms,d,hl,h=>by
  rcases D4 r (λq hq=>hl q (by simp[hq])) h with h|h
  .rcases xo _ _ h with h|h
   .rcases wE h with h|rfl
    .exact zq0 h
    .exact zq1 (zy (hl p (by simp))).1
   .exact zq1 h
  .exact zq1 h
theorem Rb{f:CF}{d:Nat}(h:d∈dg f):d∈bM f:=by
 rcases D4 f.ow (λp hp=>hp) h with h|h
 .rcases xo _ _ h with h|h
  .rcases DJ _ h with h|h
   .simp at h
   .exact mem_append_left _ h
  .exact h
 .exact h
theorem Gr:∀(l:List Pr) {m K:Nat},m<K->(∀p∈l,p.l<K/\p.r<K)->rb m l<K
 |[],_,_,h,_=>h
 |p::r,m,K,h,hl=>by
  have:=hl p (by simp);exact Gr r (m:=max (max m p.l) p.r) (by omega) (λq hq=>hl q (by simp[hq]))
theorem Qn{f:CF}{K:Nat}(hK:0<K)(h1:∀c∈ko f,c<K)(h2:∀p∈f.ow,p.l<K/\p.r<K)(h3:∀p∈f.ap,p.l<K/\p.r<K):aw f<=K:=by
 unfold aw;have h0:qs f<K:=by
  have a0:=h1 _ (gH (f:=f) (i:=0) (by omega));have a1:=h1 _ (gH (f:=f) (i:=1) (by omega));have a2:=h1 _ (gH (f:=f) (i:=2) (by omega));have a3:=h1 _ (gH (f:=f) (i:=3) (by omega));have a4:=h1 _ (gH (f:=f) (i:=4) (by omega));unfold qs;omega
 have:=Gr f.ap (Gr f.ow h0 h2) h3;omega
theorem gP{f:CF}:∀c∈bM f,c<aw f:=by
 have hc:qs f<aw f:=by
  have h1:=(iX f.ow (qs f)).1;have h2:=(iX f.ap (rb (qs f) f.ow)).1;unfold aw;omega
 intro c h;unfold bM at h;rw[mem_append,mem_flatMap]at h;rcases h with h|⟨p,hp,h⟩
 .unfold ko at h;unfold qs at hc;simp only[mem_cons,not_mem_nil,or_false]at h;omega
 .have h1:=(iX f.ow (qs f)).2 p hp;have h2:=(iX f.ap (rb (qs f) f.ow)).1;unfold aw;simp only[mem_cons,not_mem_nil,or_false]at h;rcases h with rfl|rfl <;> omega
theorem abO{f:CF}(h:aj f):0<(dg f).length:=by
 have:=(rp h.ow h.cl).2.2.1 _ (gH (f:=f) (i:=0) (by omega));exact length_pos_of_mem this
theorem aa4{f:CF}(h:aj f)(hl:∀p∈f.ap,p.l∈bM f/\p.r∈bM f):(∀c∈ko (wX f),c<(dg f).length)/\(∀p∈(wX f).ow,p.l<(dg f).length/\p.r<(dg f).length)/\∀p∈(wX f).ap,p.l<(dg f).length/\p.r<(dg f).length:=by
 have hL:=lI h.ow h.cl h.lf;refine⟨λc hc=>?_,λp hp=>?_,λp hp=>?_⟩
 .unfold wX at hc;rw[Hz]at hc;obtain⟨d,hd,rfl⟩:=mem_map.1 hc;exact idxOf_lt_length_iff.2 (hL d (mem_append_left _ hd))
 .obtain⟨q,hq,rfl⟩:=mem_map.1 hp;exact⟨idxOf_lt_length_iff.2 (hL _ (zy hq).1),idxOf_lt_length_iff.2 (hL _ (zy hq).2)⟩
 .obtain⟨q,hq,rfl⟩:=mem_map.1 hp;exact⟨idxOf_lt_length_iff.2 (hL _ (hl q hq).1),idxOf_lt_length_iff.2 (hL _ (hl q hq).2)⟩
theorem aa5{f:CF}(h:aj f):aw (aQ f)<=(dg f).length:=by
 obtain⟨h1,h2,h3⟩:=aa4 h.fg (λ_ hp=>iB hp);rw[GG]at h1 h2 h3;refine Qn (abO h) h1 (λp hp=>h2 p (dH.1 hp)) (λp hp=>?_);obtain⟨q,hq,rfl⟩:=mem_map.1 (dH.1 hp);have:=h3 q hq;unfold jf;split
 .exact⟨this.2,this.1⟩
 .exact this
theorem uA{f:CF}(h:aj f){S:List Nat}(hS:∀c∈bM f,c∈S):aw (aQ f)<=S.length :=
 zq3 (aa5 h) (List.Nodup.length_le_of_subset (rp h.ow h.cl).1.1 (λc hc=>hS c (Rb hc)))
def K3(f:CF):Prop:=∀p∈f.ow,p.k=3
theorem K3.td{f:CF}(h:K3 f):K3 (aQ f):=by
 intro p hp;obtain⟨q,hq,rfl⟩:=mem_map.1 (dH.1 hp);exact h q hq
theorem DI{f:CF}{i:Nat}(hi:i<5):f.cl.getD i 0∈bM f:=mem_append_left _ (gH hi)
theorem kW{f:CF}(h5:f.cl.length=5){c:Nat}:c∈bM f↔c∈f.cl\/∃p∈f.ow,c=p.l\/c=p.r:=by
 unfold bM;rw[mem_append,ud h5,mem_flatMap];constructor
 .rintro(h|⟨p,hp,h⟩)
  .exact zq0 h
  .exact zq1 ⟨p,hp,by simpa using h⟩
 .rintro(h|⟨p,hp,h⟩)
  .exact zq0 h
  .exact zq1 ⟨p,hp,by simpa using h⟩
theorem Bn{f:CF}(h5:f.cl.length=5){i d c:Nat}(h:c∈bM (setC f i d)):c∈bM f\/c=d:=by
 rw[kW (by simpa[setC] using h5)]at h;rw[kW h5];rcases h with h|h
 .rcases mem_or_eq_of_mem_set h with h|h
  .exact zq0 (zq0 h)
  .exact zq1 h
 .exact zq0 (zq1 h)
theorem Vl{f:CF}(h5:f.cl.length=5){i c:Nat}{p:Pr}(h:c∈bM (setO f i p)):c∈bM f\/c=p.l\/c=p.r:=by
 rw[kW (f:=setO f i p) h5]at h;rw[kW h5];rcases h with h|⟨q,hq,h⟩
 .exact zq0 (zq0 h)
 .rcases mem_or_eq_of_mem_set hq with hq|rfl
  .exact zq0 (zq1 ⟨q,hq,h⟩)
  .exact zq1 h
theorem aaZ{f:CF}(h5:f.cl.length=5){c:Nat}{p:Pr}(h:c∈bM (mf f p)):c∈bM f\/c=p.l\/c=p.r:=by
 rw[kW (f:=mf f p) h5]at h;rw[kW h5];rcases h with h|⟨q,hq,h⟩
 .exact zq0 (zq0 h)
 .rcases mem_append.1 hq with hq|hq
  .exact zq0 (zq1 ⟨q,hq,h⟩)
  .rw[mem_singleton]at hq;subst hq;exact zq1 h
theorem aa0{f:CF}(h5:f.cl.length=5){i c:Nat}(h:c∈bM (gZ f i)):c∈bM f:=by
 rw[kW (f:=gZ f i) h5]at h;rw[kW h5];rcases h with h|⟨q,hq,h⟩
 .exact zq0 h
 .exact zq1 ⟨q,(mp _ i).subset hq,h⟩
theorem Q8{a b c:Nat}:(cN a b c=c\/cN a b c=a)/\(cN a b c=b->a=b):=by
 unfold cN;split
 .exact⟨zq1 rfl,λe=>e⟩
 .rename_i h;exact⟨zq0 rfl,λe=>absurd e h⟩
theorem XW{f:CF}(h5:f.cl.length=5){a b c:Nat}(h:c∈bM (mM f a b)):(c∈bM f\/c=a)/\(c=b->a=b):=by
 have Uf:(mM f a b).cl.length=5:=by show(f.cl.map _).length=5;simpa using h5
 rw[kW Uf]at h;rw[kW h5];have key:∀d,(d∈f.cl\/∃p∈f.ow,d=p.l\/d=p.r)->c=cN a b d->((c∈f.cl\/∃p∈f.ow,c=p.l\/c=p.r)\/c=a)/\(c=b->a=b):=by
  intro d hd e;have:=@Q8 a b d;rw[<-e]at this;refine⟨?_,this.2⟩;rcases this.1 with h|h
  .exact zq0 (by rw[h];exact hd)
  .exact zq1 h
 rcases h with h|⟨q,hq,h⟩
 .obtain⟨d,hd,e⟩:=mem_map.1 h;exact key d (zq0 hd) e.symm
 .obtain⟨p,hp,rfl⟩:=mem_map.1 hq;rcases h with h|h
  .exact key p.l (zq1 ⟨p,hp,zq0 rfl⟩) h
  .exact key p.r (zq1 ⟨p,hp,zq1 rfl⟩) h
theorem Jf:∀(l:List Pr) {g:CF} {c d:Nat},d∈bM (l.foldl (λh p=>cg h c p.l) g)->d∈bM g
 |[],_,_,_,h=>h
 |p::r,g,c,d,h=>Jf r (g:=cg g c p.l) h
theorem BC:∀(l:List Pr) {g:CF} {c:Nat},(l.foldl (λh p=>cg h c p.l) g).ow=g.ow
 |[],_,_=>rfl
 |p::r,g,c=>BC r (g:=cg g c p.l)
structure Fs(B:Nat)(F0:List Nat)(w W:World)(O:Nat)(cs:List Value)(A:Nat)(f:CF)(av ov:Value)(X:Nat)(p:Pr)(v:Value)(L:List FE):Prop where
 fl:Fl W B v L
 bo:Bk W O 280 cs
 ff:eQ W A f av ov
 bx:Bk W X 182 [.int .i64 (p.k:Int),.int .i64 (p.l:Int),.int .i64 (p.r:Int)]
 no:∀k∈bf v L,k≠O/\k≠X/\k ∉ aG A av ov
 ox:O≠X
 of:O ∉ aG A av ov
 st:ar F0 w (O::bf v L) W
 bb:B<=W.heap.size
section
variable {B:Nat} {F0:List Nat} {w W W':World} {O A X:Nat} {cs:List Value} {f:CF} {av ov:Value} {p:Pr} {v:Value} {L:List FE}
theorem Fs.below(h:Fs B F0 w W O cs A f av ov X p v L)(hb:Below W.heap.size W W'):Fs B F0 w W' O cs A f av ov X p v L :=
 ⟨h.fl.below hb,h.bo.below hb,h.ff.below hb,h.bx.below hb,h.no,h.ox,h.of,⟨hb.os.trans h.st.os,hb.tape.trans h.st.tape,hb.output.trans h.st.output,zq3 h.st.size hb.size,λk hk hn=>(hb.block k (zq6 hk h.st.size)).trans (h.st.block k hk hn),h.st.foot⟩,zq3 h.bb hb.size⟩
theorem Fs.fresh(h:Fs B F0 w W O cs A f av ov X p v L){x:FE}(hx:∀k∈x.bs,W.heap.size<=k):∀k∈x.bs,k ∉ bf v L/\k≠O/\k≠X/\k ∉ aG A av ov/\w.heap.size<=k/\B<=k:=λk hk=>by
 have h1:=hx k hk;have:=h.bb;exact⟨λhn=>by have:=h.fl.lt k hn;omega,λe=>by have:=h.bo.lt;omega,λe=>by have:=h.bx.lt;omega,λhn=>by have:=h.ff.lt k hn;omega,zq3 h.st.size h1,by omega⟩
theorem Fs.app {g1 c1:Nat} {o:Obj} {x:FE} {W1:World} (h:Fs B F0 w W O cs A f av ov X p v L) (hx:Fm W x.A x.f x.av x.ov) (hd:∀k∈x.bs,k ∉ bf v L/\k≠O/\k≠X/\k ∉ aG A av ov/\w.heap.size<=k/\B<=k)
  (aL:W1.ownsRow B 126 1 (.slice (some ⟨g1,0,none⟩) (L.length+1) c1) (L.length+1) (L.map FE.p++[x.p])) (hg:(W.alloc o).grownBy W1 v.ownBlock) (cC:some g1=v.ownBlock\/g1=(W.alloc o).heap.size) :
  Fs B F0 w W1 O cs A f av ov X p (.slice (some ⟨g1,0,none⟩) (L.length+1) c1) (L++[x]):=by
 obtain⟨a1,a2,a3⟩:=h.fl.app hx (λk hk=>(hd k hk).2.2.2.2.2) (λk hk=>(hd k hk).1) h.bb aL hg cC;have hv:∀k∈v.ownBlock.toList,k∈bf v L:=λk hk=>mem_append_left _ hk;refine⟨a1,h.bo.stp a2 (λhn=>(h.no O (hv O hn)).1 rfl),h.ff.of_eq (λk hk=>a2.block k (h.ff.lt k hk) (λhn=>(h.no k (hv k hn)).2.2 hk)),h.bx.stp a2 (λhn=>(h.no X (hv X hn)).2.1 rfl),λk hk=>?_,h.ox,h.of,?_,zq3 h.bb a2.size⟩
 .rcases a3 k hk with q|q|q
  .exact h.no k q
  .exact⟨(hd k q).2.1,(hd k q).2.2.1,(hd k q).2.2.2.1⟩
  .exact⟨λe=>by have:=h.bo.lt;omega,λe=>by have:=h.bx.lt;omega,λhn=>by have:=h.ff.lt k hn;omega⟩
 .have h2:=h.st;refine⟨a2.os.trans h2.os,a2.tape.trans h2.tape,a2.output.trans h2.output,zq3 h2.size a2.size,λk hk hn=>?_,λk hk=>?_⟩
  .rw[a2.block k (zq6 hk h2.size) (λhm=>?_)]
   .exact h2.block k hk hn
   .rcases h2.foot k (mem_cons_of_mem _ (hv k hm)) with q|q
    .exact hn q
    .omega
  .rcases mem_cons.1 hk with rfl|hk
   .exact h2.foot k (by simp)
   .rcases a3 k hk with q|q|q
    .exact h2.foot k (mem_cons_of_mem _ q)
    .exact zq1 (hd k q).2.2.2.2.1
    .exact zq1 (zq3 h2.size q)
theorem Fs.fin {g1 c1:Nat} {o:Obj} {x:FE} {W1:World} (h:Fs B F0 w W O cs A f av ov X p v L) (hx:Fm W x.A x.f x.av x.ov) (hd:∀k∈x.bs,k ∉ bf v L/\k≠O/\(k∈F0\/w.heap.size<=k)/\B<=k)
  (aL:W1.ownsRow B 126 1 (.slice (some ⟨g1,0,none⟩) (L.length+1) c1) (L.length+1) (L.map FE.p++[x.p])) (hg:(W.alloc o).grownBy W1 v.ownBlock) (cC:some g1=v.ownBlock\/g1=(W.alloc o).heap.size) :
  Fl W1 B (.slice (some ⟨g1,0,none⟩) (L.length+1) c1) (L++[x])/\Bk W1 O 280 cs/\ar F0 w (O::bf (.slice (some ⟨g1,0,none⟩) (L.length+1) c1) (L++[x])) W1:=by
 obtain⟨a1,a2,a3⟩:=h.fl.app hx (λk hk=>(hd k hk).2.2.2) (λk hk=>(hd k hk).1) h.bb aL hg cC;have hv:∀k∈v.ownBlock.toList,k∈bf v L:=λk hk=>mem_append_left _ hk;refine⟨a1,h.bo.stp a2 (λhn=>(h.no O (hv O hn)).1 rfl),?_⟩;have h2:=h.st;refine⟨a2.os.trans h2.os,a2.tape.trans h2.tape,a2.output.trans h2.output,zq3 h2.size a2.size,λk hk hn=>?_,λk hk=>?_⟩
 .rw[a2.block k (zq6 hk h2.size) (λhm=>?_)]
  .exact h2.block k hk hn
  .rcases h2.foot k (mem_cons_of_mem _ (hv k hm)) with q|q
   .exact hn q
   .omega
 .rcases mem_cons.1 hk with rfl|hk
  .exact h2.foot k (by simp)
  .rcases a3 k hk with q|q|q
   .exact h2.foot k (mem_cons_of_mem _ q)
   .exact(hd k q).2.2.1
   .exact zq1 (zq3 h2.size q)
theorem Fs.flag(h:Fs B F0 w W O cs A f av ov X p v L)(j:Nat)(u:Value)(hO:O∈F0):Fs B F0 w (W.setCell ⟨O,j,none⟩ u) O (cs.set j u) A f av ov X p v L :=
 ⟨h.fl.of_eq (λk hk=>heap_setCell _ _ _ _ (h.no k hk).1),h.bo.set j u,h.ff.of_eq (λk hk=>heap_setCell _ _ _ _ (λe=>h.of (by have e':k=O:=e;rw[<-e'];exact hk))),h.bx.setO (p:=⟨O,j,none⟩) h.ox u,h.no,h.ox,h.of,h.st.setCell (p:=⟨O,j,none⟩) (zq0 hO) u,by simpa using h.bb⟩
end
theorem Fm.putW{w:World}{A:Nat}{f:CF}{av:Value}{g cap i:Nat}(h:Fm w A f av (.slice (some ⟨g,0,none⟩) f.ow.length cap))(hi:i<f.ow.length)(q:Pr):
  Fm (((w.setCell ⟨g,i*3,none⟩ (.int .i64 (q.k:Int))).setCell ⟨g,i*3+1,none⟩ (.int .i64 (q.l:Int))).setCell ⟨g,i*3+2,none⟩ (.int .i64 (q.r:Int))) A (setO f i q) av (.slice (some ⟨g,0,none⟩) f.ow.length cap)/\ar (aG A av (.slice (some ⟨g,0,none⟩) f.ow.length cap)) w (aG A av (.slice (some ⟨g,0,none⟩) f.ow.length cap)) (((w.setCell ⟨g,i*3,none⟩ (.int .i64 (q.k:Int))).setCell ⟨g,i*3+1,none⟩ (.int .i64 (q.l:Int))).setCell ⟨g,i*3+2,none⟩ (.int .i64 (q.r:Int))):=by
 obtain⟨r3,-,-⟩:=GA h.is.ow rfl hi q;have hs:ar (Value.slice (some ⟨g,0,none⟩) f.ow.length cap).ownBlock.toList w (Value.slice (some ⟨g,0,none⟩) f.ow.length cap).ownBlock.toList (((w.setCell ⟨g,i*3,none⟩ (.int .i64 (q.k:Int))).setCell ⟨g,i*3+1,none⟩ (.int .i64 (q.l:Int))).setCell ⟨g,i*3+2,none⟩ (.int .i64 (q.r:Int))):=(((ar.refl _ _).setCell (p:=⟨g,i*3,none⟩) (zq0 (by simp[Value.ownBlock])) _).setCell (p:=⟨g,i*3+1,none⟩) (zq0 (by simp[Value.ownBlock])) _).setCell (p:=⟨g,i*3+2,none⟩) (zq0 (by simp[Value.ownBlock])) _;exact h.newRow (ow':=f.ow.set i q) (by simp) r3 hs
theorem Fm.putK{w:World}{A:Nat}{f:CF}{av:Value}{g cap i:Nat}(h:Fm w A f av (.slice (some ⟨g,0,none⟩) f.ow.length cap))(hi:i<f.ow.length)(k:Nat):
  Fm (w.setCell ⟨g,i*3,none⟩ (.int .i64 (k:Int))) A (setO f i ⟨k,(owA f i).l,(owA f i).r⟩) av (.slice (some ⟨g,0,none⟩) f.ow.length cap)/\ar (aG A av (.slice (some ⟨g,0,none⟩) f.ow.length cap)) w (aG A av (.slice (some ⟨g,0,none⟩) f.ow.length cap)) (w.setCell ⟨g,i*3,none⟩ (.int .i64 (k:Int))):=by
 have h1:=(h.is.ow.stored (i*3) (.int .i64 (k:Int))).1;rw[mj hi]at h1;have hs:ar (Value.slice (some ⟨g,0,none⟩) f.ow.length cap).ownBlock.toList w (Value.slice (some ⟨g,0,none⟩) f.ow.length cap).ownBlock.toList (w.setCell ⟨g,i*3,none⟩ (.int .i64 (k:Int))):=(ar.refl _ _).setCell (p:=⟨g,i*3,none⟩) (zq0 (by simp[Value.ownBlock])) _;exact h.newRow (ow':=f.ow.set i ⟨k,(owA f i).l,(owA f i).r⟩) (by simp) h1 hs
theorem DK{f:CF}(h:aj f):rb (rb (qs f) f.ow) f.ap<24:=by
 have:aw f<=24:=Qn (by omega) h.cl h.ow h.ap;unfold aw at this;omega
section
variable {B:Nat} {w:World} {O A:Nat} {nv tv:Value} {nu da fu:Bool} {f:CF} {av ov:Value} {v:Value} {L:List FE}
theorem rX(hB:Fl w B v L)(EC:Bk w O 280 [nv,tv,.bool nu,.bool da,.bool fu])(hx:Fm w A f av ov)(hO:aj f)(ha:f.ap.length<=40000)(FM:∀k∈bf v L,k≠O/\k ∉ aG A av ov)(k6:O ∉ aG A av ov)(cX:∀k∈aG A av ov,B<=k)(hB':B<=w.heap.size){c i:Nat}(hb:cE f.ow c=some i)(hL:L.length<=900000):
  Calls prog 264 #[.pointer (some ⟨O,0,none⟩),v,.pointer (some ⟨A,0,none⟩),.int .i64 c] w λe w'=>∃v' L',e=.returned v'/\Fl w' B v' (L++L')/\L'.map (·.f)=(gV f c).1/\Bk w' O 280 [nv,tv,.bool nu,.bool da,.bool (fu||(gV f c).2)]/\ar (O::(bf v L++aG A av ov)) w (O::bf v' (L++L')) w':=by
 obtain⟨i0,lw,gY,gz,gL⟩:=info_parts infoPF;have iJ:=hO.owLen;obtain⟨hi,dU⟩:=eU hb;obtain⟨va,vc,hv,-,-⟩:=am hB.row;subst hv;have hfi:gV f c=On f c i:=by unfold gV;rw[hb]
 have mR:=ab (cP c hx.is);rw[hb]at mR;obtain⟨oa,oc,gy,-,-⟩:=am hx.is.ow;subst gy;have c6:=hx.is.c6;obtain⟨g,cap,dF,-,-⟩:=aE hx.is.ow hi;simp only[Value.slice.injEq,true_and]at dF;obtain⟨rfl,rfl⟩:=dF;obtain⟨x0,x1,x2⟩:=aB hx.is.ow hi;obtain⟨p,hp⟩:∃p,p=f.ow.getD i ay:=⟨_,rfl⟩;rw[<-hp]at x0 x1 x2;obtain⟨W1,d9⟩:∃W1,W1=w.alloc (.cells #[Value.int .i64 p.k,.int .i64 p.l,.int .i64 p.r] 182):=⟨_,rfl⟩;have cf:Below w.heap.size w W1:=by rw[d9];exact ah w _
 have hX:Bk W1 w.heap.size 182 [Value.int .i64 p.k,.int .i64 p.l,.int .i64 p.r]:=by rw[d9];exact Bk.new w _ _
 obtain⟨X,gW⟩:∃X,X=w.heap.size:=⟨_,rfl⟩;rw[<-gW]at hX;have hFs:Fs B (O::(bf (.slice va L.length vc) L++aG A av (.slice (some ⟨g,0,none⟩) f.ow.length oc))) w W1 O [nv,tv,.bool nu,.bool da,.bool fu] A f av (.slice (some ⟨g,0,none⟩) f.ow.length oc) X p (.slice va L.length vc) L:=by
  refine⟨hB.below cf,EC.below cf,hx.is.below cf,hX,λk hk=>⟨(FM k hk).1,λe=>?_,(FM k hk).2⟩,λe=>?_,k6,(ar.ofBw (F:=O::(bf (.slice va L.length vc) L++aG A av (.slice (some ⟨g,0,none⟩) f.ow.length oc))) cf).foots (λk hk=>?_),zq3 hB' cf.size⟩
  .have:=hB.lt k hk;omega
  .have:=EC.lt;omega
  .rcases mem_cons.1 hk with rfl|hk
   .exact zq0 (by simp)
   .exact zq0 (mem_cons_of_mem _ (mem_append_left _ hk))
 have b0:=hX.cell 0 rfl;have H1:=ab hFs;have HX1:=ab (hx.below cf);have Eo:=ab cX;have S5:=ab FM;have Yj:=ab k6;have HP:Hid (p=owA f i):=ab hp;have Em:=ab hfi;have HO:=ab hO;have i1:(0:Int)<=(i:Int):=by omega
 have i2:(i:Int)<(f.ow.length:Int):=by omega
 have xK:Hid ((owA f i).l=c):=ab dU;clear hB EC hO FM k6 cX cf hX hFs hp hfi hx hb dU hB';rw[show fV (some i)=(i:Int) from rfl]at mR;go_enter func264,ntmps264;go_wp2_with fail
 refine(uh mR).mono ?_;rintro e w1 ⟨rfl,rfl⟩;clear mR;go_upto_region 3 with fail;rw[<-d9,<-gW];clear d9 gW;by_cases Di:p.k=3
 .have d3:((p.k:Int)==3)=true:=by simp[Di]
  have HE:Hid (gV f c=([f],false)):=ab (by rw[uh Em];unfold On;rw[if_pos (show(owA f i).k=3 by rw[<-uh HP];exact Di)]);have HR:=ab (uh H1).fl.row;have mP:=(uh H1).bb;clear Di;go_wp2_with (at_builtin;refine aS _ rfl (.tmp 27) (.tmp 29) 125 rfl B 126 i0 _ 1 8 underlying125 lw gY gz gL rfl (by decide) _ L.length (L.map FE.p) rfl ((uh HR).alloc _) ⟨_,0,none⟩ 1 [.pointer (some ⟨A,0,none⟩)] rfl rfl (aN _ _ (by simp) [.pointer (some ⟨A,0,none⟩)] _) (by intro u hu;simp only[mem_singleton]at hu;subst hu;rfl) (by omega) (by omega) (by simp;omega) ?_)
  intro g1 cap1 wa fO dM kE;have HF:=ab ((uh H1).fin (x:=⟨A,f,av,.slice (some ⟨g,0,none⟩) f.ow.length oc⟩) (uh HX1) (λk hk=>⟨λhn=>(uh S5 k hn).2 hk,λe=>uh Yj (by rw[<-e];exact hk),zq0 (mem_cons_of_mem _ (mem_append_right _ hk)),uh Eo k hk⟩) fO dM (by simpa using kE));clear fO dM kE;go_wp2_with fail
  go_ret;refine⟨_,[⟨A,f,av,.slice (some ⟨g,0,none⟩) f.ow.length oc⟩],rfl,(uh HF).1,by rw[uh HE];rfl,?_,(uh HF).2.2⟩;rw[uh HE,Bool.or_false];exact(uh HF).2.1
 .have d3:((p.k:Int)==3)=false:=by simp;omega
  have afQ:gV f c=if 24<=aw f then ([gq f i],true) else ([gq f i,oS f c i],false):=by rw[uh Em];unfold On;rw[if_neg (show ¬ ((owA f i).k=3) by rw[<-uh HP];exact Di)]
  have ya:=ab afQ;have kZ:=ab (cQ (uh H1).ff (uh HO).c5 ha (zq3 iJ (by omega)));clear Di afQ;go_wp2_with fail
  refine(uh kZ).mono ?_;rintro e w2 ⟨A2,rfl,C5⟩;obtain⟨av2,ov2,mK⟩:=C5.frf;obtain⟨g2,cap2,dc,-,-⟩:=aE mK.fm.is.ow hi;have afY:ov2=.slice (some ⟨g2,0,none⟩) f.ow.length cap2:=dc;subst afY;have e6:=mK.fm.is.c6;obtain⟨Ey,cS⟩:=Fm.putK mK.fm hi 3;obtain⟨-,⟨⟨u0,y0⟩,-,-⟩,z0,-,-⟩:=GA mK.fm.is.ow rfl hi ay;obtain⟨w3,IM⟩:∃w3,w3=w2.setCell ⟨g2,i*3,none⟩ (.int .i64 3):=⟨_,rfl⟩;rw[show w2.setCell ⟨g2,i*3,none⟩ (.int .i64 ((3:Nat):Int))=w3 from IM.symm]at Ey cS;have m7:=mK.step (x':=⟨A2,gq f i,av2,.slice (some ⟨g2,0,none⟩) f.ow.length cap2⟩) Ey cS;have hL3:=(uh H1).below m7.bw;have HR:=ab hL3.fl.row;have MN:=ab ((uh H1).fresh m7.ge);have HF3:=ab m7.fm;have HL3:=ab hL3;have mP:=hL3.bb;clear C5 mK dc Ey cS m7 hL3 kZ;go_upto_region 7 with fail;rw[<-IM];clear IM e6 y0 z0 u0;go_wp2_with (at_builtin;refine aS _ rfl (.tmp 40) (.tmp 42) 125 rfl B 126 i0 _ 1 8 underlying125 lw gY gz gL rfl (by decide) _ L.length (L.map FE.p) rfl ((uh HR).alloc _) ⟨_,0,none⟩ 1 [.pointer (some ⟨A2,0,none⟩)] rfl rfl (aN _ _ (by simp) [.pointer (some ⟨A2,0,none⟩)] _) (by intro u hu;simp only[mem_singleton]at hu;subst hu;rfl) (by omega) (by omega) (by simp;omega) ?_)
  intro g4 cap4 w4 iL ew jM;have hL4:=(uh HL3).app (uh HF3) (uh MN) iL ew (by simpa using jM);have Cu:aw f<=100000:=by
   unfold aw;have h1:=DK (uh HO);omega
  have Si:=ab (vM hL4.ff (zq3 ha (by omega)) (zq3 iJ (by omega)) Cu);have HL4:=ab hL4;clear iL ew jM hL4 HR MN HF3 HL3;go_wp2_with fail
  refine(uh Si).mono ?_;rintro e w5 ⟨rfl,eu⟩;have ZL:=(uh HL4).below eu;have Yu:=ab ZL;obtain⟨N,hN⟩:∃N,N=aw f:=⟨_,rfl⟩;rw[<-hN]at Cu ya ⊢;have tY:=ab hN;clear eu Si HL4 hN;by_cases qI:24<=N
  .have d5:decide ((24:Int)<=(N:Int))=true:=(by simp;omega);have HE:Hid (gV f c=([gq f i],true)):=ab (by rw[uh ya,if_pos qI]);have o4:=ZL.bo.cell 4 rfl;have z4:=ZL.bo.frz 4;have HL6:=ab (ZL.flag 4 (.bool true) (by simp));clear qI ZL;go_wp2_with fail
   go_ret;refine⟨_,[⟨A2,gq f i,av2,.slice (some ⟨g2,0,none⟩) f.ow.length cap2⟩],rfl,(uh HL6).fl,by rw[uh HE];rfl,?_,(uh HL6).st⟩;rw[uh HE,Bool.or_true];exact(uh HL6).bo
  .have d5:decide ((24:Int)<=(N:Int))=false:=(by simp;omega);have HE:Hid (gV f c=([gq f i,oS f c i],false)):=ab (by rw[uh ya,if_neg qI]);have kZ:=ab (cQ ZL.ff (uh HO).c5 ha (zq3 iJ (by omega)));clear qI ZL;go_wp2_with fail
   refine(uh kZ).mono ?_;rintro e w6 ⟨A6,rfl,hN6⟩;obtain⟨av6,ov6,Mq⟩:=hN6.frf;obtain⟨g6,cap6,af0,-,-⟩:=aE Mq.fm.is.ow hi;have af1:ov6=.slice (some ⟨g6,0,none⟩) f.ow.length cap6:=af0;subst af1;have e6:=Mq.fm.is.c6;obtain⟨Um,Ez⟩:=Fm.putW Mq.fm hi ⟨3,c,N⟩;obtain⟨-,⟨⟨u0,y0⟩,⟨u1,y1⟩,⟨u2,y2⟩⟩,z0,z1,z2⟩:=GA Mq.fm.is.ow rfl hi ay;obtain⟨w7,hw7⟩:∃w7,w7=((w6.setCell ⟨g6,i*3,none⟩ (.int .i64 3)).setCell ⟨g6,i*3+1,none⟩ (.int .i64 (c:Int))).setCell ⟨g6,i*3+2,none⟩ (.int .i64 (N:Int)):=⟨_,rfl⟩;rw[show((w6.setCell ⟨g6,i*3,none⟩ (.int .i64 (((⟨3,c,N⟩:Pr).k:Nat):Int))).setCell ⟨g6,i*3+1,none⟩ (.int .i64 (((⟨3,c,N⟩:Pr).l:Nat):Int))).setCell ⟨g6,i*3+2,none⟩ (.int .i64 (((⟨3,c,N⟩:Pr).r:Nat):Int))=w7 from hw7.symm]at Um Ez;have vV:=Mq.step (x':=⟨A6,setO f i ⟨3,c,N⟩,av6,.slice (some ⟨g6,0,none⟩) f.ow.length cap6⟩) Um Ez;have b2:=((uh Yu).below vV.bw).bx.cell 2 rfl;have yH:=ab (qX vV.fm 4 N p.r (by
    show(f.ow.set i _).length<=100000;rw[length_set];exact zq3 iJ (by omega)))
   have HF7:=ab vV;clear hN6 Mq af0 Um Ez vV kZ;go_upto_region 14 with fail;rw[<-hw7];clear hw7 e6 y0 y1 y2 z0 z1 z2 u0 u1 u2;go_wp2_with fail
   refine(uh yH).mono ?_;rintro e w8 ⟨rfl,ov8,St,C7⟩;have xS:=(uh HF7).step (x':=⟨A6,oS f c i,av6,ov8⟩) (by
    have e9:oS f c i={ setO f i ⟨3,c,N⟩ with ow:=(setO f i ⟨3,c,N⟩).ow++[⟨4,N,p.r⟩] }:=(by rw[uh HP,uh tY];rfl);rw[e9];exact St) C7
   have hL8:=(uh Yu).below xS.bw;have HR:Hid (w8.ownsRow B 126 1 (.slice (some ⟨g4,0,none⟩) (L.length+1) cap4) (L.length+1) ((L++[(⟨A2,gq f i,av2,.slice (some ⟨g2,0,none⟩) f.ow.length cap2⟩:FE)]).map FE.p)):=ab (by have:=hL8.fl.row;rwa [length_append,length_singleton]at this);have MN:=ab ((uh Yu).fresh xS.ge);have S8:=ab xS.fm;have HL8:=ab hL8;have ash:=hL8.bb;clear St C7 xS hL8 yH;go_wp2_with (at_builtin;refine aS _ rfl (.tmp 68) (.tmp 70) 125 rfl B 126 i0 _ 1 8 underlying125 lw gY gz gL rfl (by decide) _ (L.length+1) ((L++[(⟨A2,gq f i,av2,.slice (some ⟨g2,0,none⟩) f.ow.length cap2⟩:FE)]).map FE.p) rfl ((uh HR).alloc _) ⟨_,0,none⟩ 1 [.pointer (some ⟨A6,0,none⟩)] rfl rfl (aN _ _ (by simp) [.pointer (some ⟨A6,0,none⟩)] _) (by intro u hu;simp only[mem_singleton]at hu;subst hu;rfl) (by omega) (by omega) (by simp;omega) ?_)
   intro g9 cap9 w9 XG Ph Xq;have HF:=ab ((uh HL8).fin (x:=⟨A6,oS f c i,av6,ov8⟩) (g1:=g9) (c1:=cap9) (uh S8) (λk hk=>⟨(uh MN k hk).1,(uh MN k hk).2.1,zq1 (uh MN k hk).2.2.2.2.1,(uh MN k hk).2.2.2.2.2⟩) (by rw[length_append,length_singleton,map_append,append_assoc];exact XG) Ph (by simpa using Xq));rw[append_assoc,length_append,length_singleton]at HF;clear XG Ph Xq;go_wp2_with fail
   go_ret;refine⟨_,[⟨A2,gq f i,av2,.slice (some ⟨g2,0,none⟩) f.ow.length cap2⟩,⟨A6,oS f c i,av6,ov8⟩],rfl,(uh HF).1,by rw[uh HE];rfl,?_,(uh HF).2.2⟩;rw[uh HE,Bool.or_false];exact(uh HF).2.1
end
