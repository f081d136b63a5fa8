import Derived.Test.YtciihepbeacppaaGreatM15
set_option maxRecDepth 100000
set_option maxHeartbeats 0
namespace Go.Proofs.YtciihepbeacppaaGreat
open Tryz Go.RowKit List World Below
set_option linter.unusedVariables false
theorem rB(f:CF)(c:Nat):(mC f c).1.length<=2:=by
 unfold mC;split
 .simp
 .unfold Vo;split
  .simp
  .split <;> simp
theorem pK{α β:Type}{d:Nat}(g:List α × Bool->β->List α × Bool):∀(l:List β) (r:List α × Bool),(∀b∈l,∀r,(g r b).1.length<=r.1.length+d)->(l.foldl g r).1.length<=r.1.length+d*l.length
 |[],r,_=>by simp
 |b::l,r,hg=>by
  have h1:=pK g l (g r b) (λb' m6=>hg b' (by simp[m6]));have h2:=hg b (by simp) r;rw[foldl_cons,length_cons,Nat.mul_succ];omega
theorem rQ{f:CF}(h:au f)(v:Nat):(gR f v).1.length<=96:=by
 unfold gR;split
 .simp
 .split
  .exact zq3 (rB _ _) (by omega)
  .have h1:=pK (d:=4) (λr i=>xj f v i r) (range f.ow.length) (([]:List CF),false) (λi _ r=>by
    have h2:=pK (d:=2) (λr g=>CK r g (g.cl.getD (1+v) 0)) (gt f (f.cl.getD (1+v) 0) i) r (λg _ r=>by
     unfold CK;have:=rB g (g.cl.getD (1+v) 0);rw[length_append];omega)
    have h3:=oE f (f.cl.getD (1+v) 0) i;exact zq3 h2 (by omega))
   rw[length_range]at h1;have:=h.owLen;simp only[length_nil]at h1;exact zq3 h1 (by omega)
theorem Ri(f:CF)(n:Nd):(kP f n).1.length<=1/\(kP f n).2.length<=1:=by
 constructor
 .simp only[kP];split <;> simp
 .simp only[kP];split <;> simp
theorem Rr{f:CF}(h:au f)(n:Nd):(d7 n f).nx.length<=96/\(d7 n f).ot.length<=1:=by
 have op:∀v g,(bV (gR f v) g).nx.length<=96/\(bV (gR f v) g).ot.length<=1:=λv g=>⟨by simpa[bV] using rQ h v,by simp[bV]⟩;have cm:=Ri f n;unfold d7;split
 .simp[EI]
 .split
  .simp
  .split
   .exact op _ _
   .split
    .exact op _ _
    .split
     .split <;> simp
     .split
      .exact op _ _
      .split
       .simp
       .split
        .exact⟨zq3 cm.1 (by omega),cm.2⟩
        .split
         .exact⟨zq3 cm.2 (by omega),cm.1⟩
         .simp
theorem E9{b:Bool}{n k m:Nat}{s:Sr}(h:Gd m s):Gd m (wrI b n k s)/\eM (wrI b n k s)=eM s/\(wrI b n k s).lf=s.lf:=by
 unfold wrI;split
 .exact⟨⟨h.en,h.lo,h.fu,h.ok⟩,rfl,rfl⟩
 .exact⟨h,rfl,rfl⟩
theorem Z5{c:Cd}(hb:c.bd=true){fuel n:Nat}(dM:3002<=fuel){f:CF}{s:Sr}(hv:(c.nds.getD n bj).v<4)(ha:(c.nds.getD n bj).ai<4)(hf:Td f)(h:Gd 1152 s):Gd 500000 (qB c fuel n f s)/\(eM (qB c fuel n f s):Int)+(qB c fuel n f s).lf<=eM s+s.lf:=by
 obtain⟨t1,t2⟩:=pG hv ha hf;obtain⟨l1,l2⟩:=Rr hf.ok (c.nds.getD n bj);unfold qB;obtain⟨a1,b1,c1⟩:=E9 (b:=decide ((c.nds.getD n bj).op=0)&&!decide (fJ f=[])) (n:=n) (k:=2) h;obtain⟨a2,b2,c2⟩:=E9 (b:=(d7 (c.nds.getD n bj) f).nu) (n:=n) (k:=3) a1;obtain⟨a3,b3,c3⟩:=E9 (b:=(d7 (c.nds.getD n bj) f).da) (n:=n) (k:=4) a2;obtain⟨s3,dP⟩:∃s3,s3=wrI (d7 (c.nds.getD n bj) f).da n 4 (wrI (d7 (c.nds.getD n bj) f).nu n 3 (wrI (decide ((c.nds.getD n bj).op=0)&&!decide (fJ f=[])) n 2 s)):=⟨_,rfl⟩;rw[<-dP]at a3 b3 c3;have a4:Gd 1152 (fuS (d7 (c.nds.getD n bj) f).fu s3):=⟨a3.en,a3.lo,λhx=>a3.fu (by
  have:(s3.fu||(d7 (c.nds.getD n bj) f).fu)=false:=hx;rw[Bool.or_eq_false_iff]at this;exact this.1),a3.ok⟩
 obtain⟨g1,g2⟩:=Dd hb (a:=n) (b:=(c.nds.getD n bj).nx) dM (d7 (c.nds.getD n bj) f).nx (m:=1152) (by omega) (by omega) t1 a4;obtain⟨k1,k2⟩:=Dd hb (a:=n) (b:=(c.nds.getD n bj).ot) dM (d7 (c.nds.getD n bj) f).ot (m:=1152+3001*(d7 (c.nds.getD n bj) f).nx.length) (by omega) (by omega) t2 g1;simp only[<-dP];refine⟨k1.wide (by omega),?_⟩;refine Int.le_trans k2 (Int.le_trans g2 ?_);show(eM s3:Int)+s3.lf<=_;rw[b3,c3,b2,c2,b1,c1];exact Int.le_refl _
def NdV(c:Cd):Prop:=∀n,(c.nds.getD n bj).v<4/\(c.nds.getD n bj).ai<4
theorem Pv{c:Cd}(hb:c.bd=true)(hc:NdV c){fuel n:Nat}(dM:3002<=fuel):∀(l:List CF) {s:Sr},c9 l->kx s->Gd 500000 s->Gd 500000 (pu c fuel n l s)/\kx (pu c fuel n l s)/\(eM (pu c fuel n l s):Int)+(pu c fuel n l s).lf<=eM s+s.lf
 |[],s,_,hi,h=>⟨h,hi,Int.le_refl _⟩
 |f::r,s,hl,hi,h=>by
  unfold pu;split
  .exact⟨h,hi,Int.le_refl _⟩
  .rename_i hf;have SH:=h.fu (by simpa using hf);have h':Gd 1152 s:=⟨h.en,by omega,h.fu,h.ok⟩;obtain⟨g1,g2⟩:=Z5 hb dM (hc n).1 (hc n).2 (hl f (by simp)) h';obtain⟨k1,k2,k3⟩:=Pv hb hc dM r (λx hx=>hl x (by simp[hx])) (O9 (hc n).1 (hc n).2 (hl f (by simp)) hi) g1;exact⟨k1,k2,Int.le_trans k3 g2⟩
theorem Mm{l:List gC}(h:∀e∈l,Td e.f):c9 (lN l):=by
 intro f hf;obtain⟨e,he,rfl⟩:=mem_map.1 hf;exact h e (mem_filter.1 he).1
theorem aad{c:Cd}(hb:c.bd=true)(hc:NdV c){fuel n:Nat}(dM:3002<=fuel){s:Sr}(hi:kx s)(h:Gd 500000 s)(hp:JK s=some n):Gd 500000 (uD c fuel n s)/\kx (uD c fuel n s)/\(eM (uD c fuel n s):Int)+(uD c fuel n s).lf+1<=eM s+s.lf:=by
 have YY:=findIdx?_eq_some_iff_getElem.1 hp;obtain⟨hn,nX,-⟩:=YY;have fC:bN s n=s.kn[n]:=by unfold bN;rw[getD_eq_getElem?_getD,getElem?_eq_getElem hn];rfl
 have hu:eM { s with kn:=s.kn.set n ((bN s n).map (λe=>⟨e.f,true⟩)) }+1<=eM s:=by
  have h1:=uq (λl:List gC=>l.countP (λe=>!e.d)) [] s.kn n ((bN s n).map (λe=>⟨e.f,true⟩));rw[if_pos hn,if_pos hn]at h1;have h2:List.countP (λe:gC=>!e.d) ((bN s n).map (λe=>(⟨e.f,true⟩:gC)))=0:=by
   rw[countP_eq_zero];intro e he;obtain⟨x,-,rfl⟩:=mem_map.1 he;simp
  have h3:0<List.countP (λe:gC=>!e.d) (s.kn.getD n []):=by
   rw[countP_pos_iff];obtain⟨e,he,hd⟩:=any_eq_true.1 nX;exact⟨e,by rw[getD_eq_getElem?_getD,getElem?_eq_getElem hn];exact he,hd⟩
  unfold eM;simp only[h2]at h1;show aV (λl:List gC=>l.countP (λe=>!e.d)) (s.kn.set n ((bN s n).map (λe=>(⟨e.f,true⟩:gC))))+1<=_;omega
 have he:pH { s with kn:=s.kn.set n ((bN s n).map (λe=>⟨e.f,true⟩)) }<=pH s:=by
  have:=EW (g:=List.length) (λl=>by simp) (s:=s) (n:=n) (d:=0) (x:=(bN s n).map (λe=>(⟨e.f,true⟩:gC))) (by simp);simpa[pH] using this
 have h':Gd 500000 { s with kn:=s.kn.set n ((bN s n).map (λe=>⟨e.f,true⟩)) }:=⟨by have:=h.en;show(pH _:Int)+s.lf<=3000;omega,h.lo,h.fu,h.ok⟩;have kZ:kx { s with kn:=s.kn.set n ((bN s n).map (λe=>⟨e.f,true⟩)) }:=hi.set n (λe he=>by
  obtain⟨x,hx,rfl⟩:=mem_map.1 he;exact hi.at n x hx)
 obtain⟨g1,g2,g3⟩:=Pv hb hc (n:=n) dM (lN (bN s n)) (Mm (hi.at n)) kZ h';refine⟨g1,g2,?_⟩;show(eM (pu c fuel n (lN (bN s n)) { s with kn:=s.kn.set n ((bN s n).map (λe=>⟨e.f,true⟩)) }):Int)+(pu c fuel n (lN (bN s n)) { s with kn:=s.kn.set n ((bN s n).map (λe=>⟨e.f,true⟩)) }).lf+1<=_;have:({ s with kn:=s.kn.set n ((bN s n).map (λe=>⟨e.f,true⟩)) }:Sr).lf=s.lf:=rfl;rw[this]at g3;omega
theorem ES{c:Cd}(hb:c.bd=true)(hc:NdV c){fuel:Nat}(dM:3002<=fuel):∀(n:Nat) {s:Sr},kx s->Gd 500000 s->(eM s:Int)+s.lf<n->0<n->(qa c fuel n s).ok=true
 |0,s,_,_,_,h=>by omega
 |n+1,s,hi,h,hn,_=>by
  unfold qa;split
  .exact h.ok
  .rename_i k hk;split
   .exact h.ok
   .rename_i hf;obtain⟨g1,g2,g3⟩:=aad hb hc dM hi h hk;have SH:=h.fu (by simpa using hf);have hu:0<eM s:=by
     obtain⟨h1,h2,-⟩:=findIdx?_eq_some_iff_getElem.1 hk;have h3:=um (λl:List gC=>l.countP (λe=>!e.d)) [] s.kn k h1;have h4:0<List.countP (λe:gC=>!e.d) (s.kn.getD k []):=by
      rw[countP_pos_iff];obtain⟨e,he,hd⟩:=any_eq_true.1 h2;exact⟨e,by rw[getD_eq_getElem?_getD,getElem?_eq_getElem h1];exact he,hd⟩
     unfold eM;omega
    exact ES hb hc dM n g2 g1 (by omega) (by omega)
theorem tO{ms:List Nat}{c d:Nat}(h:d∈gB ms c):d∈ms\/d=c:=by
 unfold gB at h;split at h
 .exact zq0 h
 .rw[mem_append,mem_singleton]at h;exact h
theorem BK:∀(l:List Nat) {ms:List Nat} {d:Nat},d∈l.foldl gB ms->d∈ms\/d∈l
 |[],ms,d,h=>zq0 h
 |c::l,ms,d,h=>by
  rcases BK l h with h|h
  .rcases tO h with h|rfl
   .exact zq0 h
   .exact zq1 (by simp)
  .exact zq1 (by simp[h])
theorem xh{f:CF}{p:Pr}(hp:p∈f.ow):p.l∈dC f/\p.r∈dC f:=⟨mem_append_right _ (mem_flatMap.2 ⟨p,hp,by simp⟩),mem_append_right _ (mem_flatMap.2 ⟨p,hp,by simp⟩)⟩
theorem O3{f:CF}{k:Nat}{ms:List Nat}{d:Nat}(h:d∈xD f k ms):d∈ms\/d∈dC f:=by
 unfold xD at h;split at h
 .rename_i i hi;rcases tO h with h|rfl
  .exact zq0 h
  .exact zq1 (xh (xV hi)).2
 .exact zq0 h
theorem ui{f:CF}:∀(n k:Nat) {ms:List Nat} {d:Nat},d∈my f n k ms->d∈ms\/d∈dC f
 |0,_,_,_,h=>zq0 h
 |n+1,k,ms,d,h=>by
  unfold my at h;split at h
  .rcases ui n (k+1) h with h|h
   .exact O3 h
   .exact zq1 h
  .exact zq0 h
theorem B4{f:CF}:∀(l:List Pr) {ms:List Nat} {d:Nat},(∀p∈l,p∈f.ow)->d∈l.foldl (xt f) ms->d∈ms\/d∈dC f
 |[],_,_,_,h=>zq0 h
 |p::r,ms,d,hl,h=>by
  rcases B4 r (λq hq=>hl q (by simp[hq])) h with h|h
  .rcases ui _ _ h with h|h
   .rcases tO h with h|rfl
    .exact zq0 h
    .exact zq1 (xh (hl p (by simp))).1
   .exact zq1 h
  .exact zq1 h
theorem OV{f:CF}{d:Nat}(h:d∈ku f):d∈dC f:=by
 rcases B4 f.ow (λp hp=>hp) h with h|h
 .rcases ui _ _ h with h|h
  .rcases BK _ h with h|h
   .simp at h
   .exact mem_append_left _ h
  .exact h
 .exact h
theorem EC:∀(l:List Pr) {m K:Nat},m<K->(∀p∈l,p.l<K/\p.r<K)->oF m l<K
 |[],_,_,h,_=>h
 |p::r,m,K,h,hl=>by
  have:=hl p (by simp);exact EC r (m:=max (max m p.l) p.r) (by omega) (λq hq=>hl q (by simp[hq]))
theorem N9{f:CF}{K:Nat}(hK:0<K)(h1:∀c∈jM f,c<K)(h2:∀p∈f.ow,p.l<K/\p.r<K)(h3:∀p∈f.ap,p.l<K/\p.r<K):aD f<=K:=by
 unfold aD;have h0:nF f<K:=by
  have a0:=h1 _ (fY (f:=f) (i:=0) (by omega));have a1:=h1 _ (fY (f:=f) (i:=1) (by omega));have a2:=h1 _ (fY (f:=f) (i:=2) (by omega));have a3:=h1 _ (fY (f:=f) (i:=3) (by omega));have a4:=h1 _ (fY (f:=f) (i:=4) (by omega));unfold nF;omega
 have:=EC f.ap (EC f.ow h0 h2) h3;omega
theorem fn{f:CF}:∀c∈dC f,c<aD f:=by
 have hc:nF f<aD f:=by
  have h1:=(gG f.ow (nF f)).1;have h2:=(gG f.ap (oF (nF f) f.ow)).1;unfold aD;omega
 intro c h;unfold dC at h;rw[mem_append,mem_flatMap]at h;rcases h with h|⟨p,hp,h⟩
 .unfold jM at h;unfold nF at hc;simp only[mem_cons,not_mem_nil,or_false]at h;omega
 .have h1:=(gG f.ow (nF f)).2 p hp;have h2:=(gG f.ap (oF (nF f) f.ow)).1;unfold aD;simp only[mem_cons,not_mem_nil,or_false]at h;rcases h with rfl|rfl <;> omega
theorem ZZ{f:CF}(h:au f):0<(ku f).length:=by
 have:=(oN h.ow h.cl).2.2.1 _ (fY (f:=f) (i:=0) (by omega));exact length_pos_of_mem this
theorem Zv{f:CF}(h:au f)(hl:∀p∈f.ap,p.l∈dC f/\p.r∈dC f):(∀c∈jM (B1 f),c<(ku f).length)/\(∀p∈(B1 f).ow,p.l<(ku f).length/\p.r<(ku f).length)/\∀p∈(B1 f).ap,p.l<(ku f).length/\p.r<(ku f).length:=by
 have hL:=oM h.ow h.cl h.lf;refine⟨λc hc=>?_,λp hp=>?_,λp hp=>?_⟩
 .unfold B1 at hc;rw[FI]at hc;obtain⟨d,hd,rfl⟩:=mem_map.1 hc;exact idxOf_lt_length_iff.2 (hL d (mem_append_left _ hd))
 .obtain⟨q,hq,rfl⟩:=mem_map.1 hp;exact⟨idxOf_lt_length_iff.2 (hL _ (xh hq).1),idxOf_lt_length_iff.2 (hL _ (xh hq).2)⟩
 .obtain⟨q,hq,rfl⟩:=mem_map.1 hp;exact⟨idxOf_lt_length_iff.2 (hL _ (hl q hq).1),idxOf_lt_length_iff.2 (hL _ (hl q hq).2)⟩
theorem Zw{f:CF}(h:au f):aD (bJ f)<=(ku f).length:=by
 obtain⟨h1,h2,h3⟩:=Zv h.fg (λ_ hp=>lM hp);rw[ZX]at h1 h2 h3;refine N9 (ZZ h) h1 (λp hp=>h2 p (j9.1 hp)) (λp hp=>?_);obtain⟨q,hq,rfl⟩:=mem_map.1 (j9.1 hp);have:=h3 q hq;unfold jp;split
 .exact⟨this.2,this.1⟩
 .exact this
theorem rP{f:CF}(h:au f){S:List Nat}(hS:∀c∈dC f,c∈S):aD (bJ f)<=S.length :=
 zq3 (Zw h) (List.Nodup.length_le_of_subset (oN h.ow h.cl).1.1 (λc hc=>hS c (OV hc)))
def K3(f:CF):Prop:=∀p∈f.ow,p.k=3
theorem K3.td{f:CF}(h:K3 f):K3 (bJ f):=by
 intro p hp;obtain⟨q,hq,rfl⟩:=mem_map.1 (j9.1 hp);exact h q hq
theorem BI{f:CF}{i:Nat}(hi:i<5):f.cl.getD i 0∈dC f:=mem_append_left _ (fY hi)
theorem ji{f:CF}(h5:f.cl.length=5){c:Nat}:c∈dC f↔c∈f.cl\/∃p∈f.ow,c=p.l\/c=p.r:=by
 unfold dC;rw[mem_append,ru h5,mem_flatMap];constructor
 .rintro(h|⟨p,hp,h⟩)
  .exact zq0 h
  .exact zq1 ⟨p,hp,by simpa using h⟩
 .rintro(h|⟨p,hp,h⟩)
  .exact zq0 h
  .exact zq1 ⟨p,hp,by simpa using h⟩
theorem yW{f:CF}(h5:f.cl.length=5){i d c:Nat}(h:c∈dC (setC f i d)):c∈dC f\/c=d:=by
 rw[ji (by simpa[setC] using h5)]at h;rw[ji h5];rcases h with h|h
 .rcases mem_or_eq_of_mem_set h with h|h
  .exact zq0 (zq0 h)
  .exact zq1 h
 .exact zq0 (zq1 h)
theorem Tr{f:CF}(h5:f.cl.length=5){i c:Nat}{p:Pr}(h:c∈dC (setO f i p)):c∈dC f\/c=p.l\/c=p.r:=by
 rw[ji (f:=setO f i p) h5]at h;rw[ji h5];rcases h with h|⟨q,hq,h⟩
 .exact zq0 (zq0 h)
 .rcases mem_or_eq_of_mem_set hq with hq|rfl
  .exact zq0 (zq1 ⟨q,hq,h⟩)
  .exact zq1 h
theorem Zp{f:CF}(h5:f.cl.length=5){c:Nat}{p:Pr}(h:c∈dC (q8 f p)):c∈dC f\/c=p.l\/c=p.r:=by
 rw[ji (f:=q8 f p) h5]at h;rw[ji h5];rcases h with h|⟨q,hq,h⟩
 .exact zq0 (zq0 h)
 .rcases mem_append.1 hq with hq|hq
  .exact zq0 (zq1 ⟨q,hq,h⟩)
  .rw[mem_singleton]at hq;subst hq;exact zq1 h
theorem Zq{f:CF}(h5:f.cl.length=5){i c:Nat}(h:c∈dC (fD f i)):c∈dC f:=by
 rw[ji (f:=fD f i) h5]at h;rw[ji h5];rcases h with h|⟨q,hq,h⟩
 .exact zq0 h
 .exact zq1 ⟨q,(kg _ i).subset hq,h⟩
theorem OT{a b c:Nat}:(jb a b c=c\/jb a b c=a)/\(jb a b c=b->a=b):=by
 unfold jb;split
 .exact⟨zq1 rfl,λe=>e⟩
 .rename_i h;exact⟨zq0 rfl,λe=>absurd e h⟩
theorem Wc{f:CF}(h5:f.cl.length=5){a b c:Nat}(h:c∈dC (rL f a b)):(c∈dC f\/c=a)/\(c=b->a=b):=by
 have h5':(rL f a b).cl.length=5:=by show(f.cl.map _).length=5;simpa using h5
 rw[ji h5']at h;rw[ji h5];have key:∀d,(d∈f.cl\/∃p∈f.ow,d=p.l\/d=p.r)->c=jb a b d->((c∈f.cl\/∃p∈f.ow,c=p.l\/c=p.r)\/c=a)/\(c=b->a=b):=by
  intro d hd e;have:=@OT a b d;rw[<-e]at this;refine⟨?_,this.2⟩;rcases this.1 with h|h
  .exact zq0 (by rw[h];exact hd)
  .exact zq1 h
 rcases h with h|⟨q,hq,h⟩
 .obtain⟨d,hd,e⟩:=mem_map.1 h;exact key d (zq0 hd) e.symm
 .obtain⟨p,hp,rfl⟩:=mem_map.1 hq;rcases h with h|h
  .exact key p.l (zq1 ⟨p,hp,zq0 rfl⟩) h
  .exact key p.r (zq1 ⟨p,hp,zq1 rfl⟩) h
theorem GQ:∀(l:List Pr) {g:CF} {c d:Nat},d∈dC (l.foldl (λh p=>cC h c p.l) g)->d∈dC g
 |[],_,_,_,h=>h
 |p::r,g,c,d,h=>GQ r (g:=cC g c p.l) h
theorem zg:∀(l:List Pr) {g:CF} {c:Nat},(l.foldl (λh p=>cC h c p.l) g).ow=g.ow
 |[],_,_=>rfl
 |p::r,g,c=>zg r (g:=cC g c p.l)
structure Fs(B:Nat)(F0:List Nat)(w W:World)(O:Nat)(cs:List Value)(A:Nat)(f:CF)(av ov:Value)(X:Nat)(p:Pr)(v:Value)(L:List FE):Prop where
 fl:Fl W B v L
 bo:Bk W O 280 cs
 ff:dm W A f av ov
 bx:Bk W X 182 [.int .i64 (p.k:Int),.int .i64 (p.l:Int),.int .i64 (p.r:Int)]
 no:∀k∈a6 v L,k≠O/\k≠X/\k ∉ aG A av ov
 ox:O≠X
 of:O ∉ aG A av ov
 st:am F0 w (O::a6 v L) W
 bb:B<=W.heap.size
section
variable {B:Nat} {F0:List Nat} {w W W':World} {O A X:Nat} {cs:List Value} {f:CF} {av ov:Value} {p:Pr} {v:Value} {L:List FE}
theorem Fs.below(h:Fs B F0 w W O cs A f av ov X p v L)(hb:Below W.heap.size W W'):Fs B F0 w W' O cs A f av ov X p v L :=
 ⟨h.fl.below hb,h.bo.below hb,h.ff.below hb,h.bx.below hb,h.no,h.ox,h.of,⟨hb.os.trans h.st.os,hb.tape.trans h.st.tape,hb.output.trans h.st.output,zq3 h.st.size hb.size,λk hk hn=>(hb.block k (zq6 hk h.st.size)).trans (h.st.block k hk hn),h.st.foot⟩,zq3 h.bb hb.size⟩
theorem Fs.fresh(h:Fs B F0 w W O cs A f av ov X p v L){x:FE}(hx:∀k∈x.bs,W.heap.size<=k):∀k∈x.bs,k ∉ a6 v L/\k≠O/\k≠X/\k ∉ aG A av ov/\w.heap.size<=k/\B<=k:=λk hk=>by
 have h1:=hx k hk;have:=h.bb;exact⟨λhn=>by have:=h.fl.lt k hn;omega,λe=>by have:=h.bo.lt;omega,λe=>by have:=h.bx.lt;omega,λhn=>by have:=h.ff.lt k hn;omega,zq3 h.st.size h1,by omega⟩
theorem Fs.app {g1 c1:Nat} {o:Obj} {x:FE} {W1:World} (h:Fs B F0 w W O cs A f av ov X p v L) (hx:Fm W x.A x.f x.av x.ov) (hd:∀k∈x.bs,k ∉ a6 v L/\k≠O/\k≠X/\k ∉ aG A av ov/\w.heap.size<=k/\B<=k)
  (aN:W1.ownsRow B 126 1 (.slice (some ⟨g1,0,none⟩) (L.length+1) c1) (L.length+1) (L.map FE.p++[x.p])) (hg:(W.alloc o).grownBy W1 v.ownBlock) (b7:some g1=v.ownBlock\/g1=(W.alloc o).heap.size) :
  Fs B F0 w W1 O cs A f av ov X p (.slice (some ⟨g1,0,none⟩) (L.length+1) c1) (L++[x]):=by
 obtain⟨a1,a2,a3⟩:=h.fl.app hx (λk hk=>(hd k hk).2.2.2.2.2) (λk hk=>(hd k hk).1) h.bb aN hg b7;have hv:∀k∈v.ownBlock.toList,k∈a6 v L:=λk hk=>mem_append_left _ hk;refine⟨a1,h.bo.stp a2 (λhn=>(h.no O (hv O hn)).1 rfl),h.ff.of_eq (λk hk=>a2.block k (h.ff.lt k hk) (λhn=>(h.no k (hv k hn)).2.2 hk)),h.bx.stp a2 (λhn=>(h.no X (hv X hn)).2.1 rfl),λk hk=>?_,h.ox,h.of,?_,zq3 h.bb a2.size⟩
 .rcases a3 k hk with q|q|q
  .exact h.no k q
  .exact⟨(hd k q).2.1,(hd k q).2.2.1,(hd k q).2.2.2.1⟩
  .exact⟨λe=>by have:=h.bo.lt;omega,λe=>by have:=h.bx.lt;omega,λhn=>by have:=h.ff.lt k hn;omega⟩
 .have h2:=h.st;refine⟨a2.os.trans h2.os,a2.tape.trans h2.tape,a2.output.trans h2.output,zq3 h2.size a2.size,λk hk hn=>?_,λk hk=>?_⟩
  .rw[a2.block k (zq6 hk h2.size) (λhm=>?_)]
   .exact h2.block k hk hn
   .rcases h2.foot k (mem_cons_of_mem _ (hv k hm)) with q|q
    .exact hn q
    .omega
  .rcases mem_cons.1 hk with rfl|hk
   .exact h2.foot k (by simp)
   .rcases a3 k hk with q|q|q
    .exact h2.foot k (mem_cons_of_mem _ q)
    .exact zq1 (hd k q).2.2.2.2.1
    .exact zq1 (zq3 h2.size q)
theorem Fs.fin {g1 c1:Nat} {o:Obj} {x:FE} {W1:World} (h:Fs B F0 w W O cs A f av ov X p v L) (hx:Fm W x.A x.f x.av x.ov) (hd:∀k∈x.bs,k ∉ a6 v L/\k≠O/\(k∈F0\/w.heap.size<=k)/\B<=k)
  (aN:W1.ownsRow B 126 1 (.slice (some ⟨g1,0,none⟩) (L.length+1) c1) (L.length+1) (L.map FE.p++[x.p])) (hg:(W.alloc o).grownBy W1 v.ownBlock) (b7:some g1=v.ownBlock\/g1=(W.alloc o).heap.size) :
  Fl W1 B (.slice (some ⟨g1,0,none⟩) (L.length+1) c1) (L++[x])/\Bk W1 O 280 cs/\am F0 w (O::a6 (.slice (some ⟨g1,0,none⟩) (L.length+1) c1) (L++[x])) W1:=by
 obtain⟨a1,a2,a3⟩:=h.fl.app hx (λk hk=>(hd k hk).2.2.2) (λk hk=>(hd k hk).1) h.bb aN hg b7;have hv:∀k∈v.ownBlock.toList,k∈a6 v L:=λk hk=>mem_append_left _ hk;refine⟨a1,h.bo.stp a2 (λhn=>(h.no O (hv O hn)).1 rfl),?_⟩;have h2:=h.st;refine⟨a2.os.trans h2.os,a2.tape.trans h2.tape,a2.output.trans h2.output,zq3 h2.size a2.size,λk hk hn=>?_,λk hk=>?_⟩
 .rw[a2.block k (zq6 hk h2.size) (λhm=>?_)]
  .exact h2.block k hk hn
  .rcases h2.foot k (mem_cons_of_mem _ (hv k hm)) with q|q
   .exact hn q
   .omega
 .rcases mem_cons.1 hk with rfl|hk
  .exact h2.foot k (by simp)
  .rcases a3 k hk with q|q|q
   .exact h2.foot k (mem_cons_of_mem _ q)
   .exact(hd k q).2.2.1
   .exact zq1 (zq3 h2.size q)
theorem Fs.flag(h:Fs B F0 w W O cs A f av ov X p v L)(j:Nat)(u:Value)(hO:O∈F0):Fs B F0 w (W.setCell ⟨O,j,none⟩ u) O (cs.set j u) A f av ov X p v L :=
 ⟨h.fl.of_eq (λk hk=>heap_setCell _ _ _ _ (h.no k hk).1),h.bo.set j u,h.ff.of_eq (λk hk=>heap_setCell _ _ _ _ (λe=>h.of (by have e':k=O:=e;rw[<-e'];exact hk))),h.bx.setO (p:=⟨O,j,none⟩) h.ox u,h.no,h.ox,h.of,h.st.setCell (p:=⟨O,j,none⟩) (zq0 hO) u,by simpa using h.bb⟩
end
theorem Fm.putW{w:World}{A:Nat}{f:CF}{av:Value}{g cap i:Nat}(h:Fm w A f av (.slice (some ⟨g,0,none⟩) f.ow.length cap))(hi:i<f.ow.length)(q:Pr):
  Fm (((w.setCell ⟨g,i*3,none⟩ (.int .i64 (q.k:Int))).setCell ⟨g,i*3+1,none⟩ (.int .i64 (q.l:Int))).setCell ⟨g,i*3+2,none⟩ (.int .i64 (q.r:Int))) A (setO f i q) av (.slice (some ⟨g,0,none⟩) f.ow.length cap)/\am (aG A av (.slice (some ⟨g,0,none⟩) f.ow.length cap)) w (aG A av (.slice (some ⟨g,0,none⟩) f.ow.length cap)) (((w.setCell ⟨g,i*3,none⟩ (.int .i64 (q.k:Int))).setCell ⟨g,i*3+1,none⟩ (.int .i64 (q.l:Int))).setCell ⟨g,i*3+2,none⟩ (.int .i64 (q.r:Int))):=by
 obtain⟨r3,-,-⟩:=EO h.is.ow rfl hi q;have hs:am (Value.slice (some ⟨g,0,none⟩) f.ow.length cap).ownBlock.toList w (Value.slice (some ⟨g,0,none⟩) f.ow.length cap).ownBlock.toList (((w.setCell ⟨g,i*3,none⟩ (.int .i64 (q.k:Int))).setCell ⟨g,i*3+1,none⟩ (.int .i64 (q.l:Int))).setCell ⟨g,i*3+2,none⟩ (.int .i64 (q.r:Int))):=(((am.refl _ _).setCell (p:=⟨g,i*3,none⟩) (zq0 (by simp[Value.ownBlock])) _).setCell (p:=⟨g,i*3+1,none⟩) (zq0 (by simp[Value.ownBlock])) _).setCell (p:=⟨g,i*3+2,none⟩) (zq0 (by simp[Value.ownBlock])) _;exact h.newRow (ow':=f.ow.set i q) (by simp) r3 hs
theorem Fm.putK{w:World}{A:Nat}{f:CF}{av:Value}{g cap i:Nat}(h:Fm w A f av (.slice (some ⟨g,0,none⟩) f.ow.length cap))(hi:i<f.ow.length)(k:Nat):
  Fm (w.setCell ⟨g,i*3,none⟩ (.int .i64 (k:Int))) A (setO f i ⟨k,(owA f i).l,(owA f i).r⟩) av (.slice (some ⟨g,0,none⟩) f.ow.length cap)/\am (aG A av (.slice (some ⟨g,0,none⟩) f.ow.length cap)) w (aG A av (.slice (some ⟨g,0,none⟩) f.ow.length cap)) (w.setCell ⟨g,i*3,none⟩ (.int .i64 (k:Int))):=by
 have h1:=(h.is.ow.stored (i*3) (.int .i64 (k:Int))).1;rw[j7 hi]at h1;have hs:am (Value.slice (some ⟨g,0,none⟩) f.ow.length cap).ownBlock.toList w (Value.slice (some ⟨g,0,none⟩) f.ow.length cap).ownBlock.toList (w.setCell ⟨g,i*3,none⟩ (.int .i64 (k:Int))):=(am.refl _ _).setCell (p:=⟨g,i*3,none⟩) (zq0 (by simp[Value.ownBlock])) _;exact h.newRow (ow':=f.ow.set i ⟨k,(owA f i).l,(owA f i).r⟩) (by simp) h1 hs
theorem BO{f:CF}(h:au f):oF (oF (nF f) f.ow) f.ap<24:=by
 have:aD f<=24:=N9 (by omega) h.cl h.ow h.ap;unfold aD at this;omega
section
variable {B:Nat} {w:World} {O A:Nat} {nv tv:Value} {nu da fu:Bool} {f:CF} {av ov:Value} {v:Value} {L:List FE}
theorem pI(hB:Fl w B v L)(wQ:Bk w O 280 [nv,tv,.bool nu,.bool da,.bool fu])(hx:Fm w A f av ov)(hO:au f)(ha:f.ap.length<=40000)(DW:∀k∈a6 v L,k≠O/\k ∉ aG A av ov)(gx:O ∉ aG A av ov)(bZ:∀k∈aG A av ov,B<=k)(hB':B<=w.heap.size){c i:Nat}(hb:dJ f.ow c=some i)(hL:L.length<=900000):
  Calls prog 264 #[.pointer (some ⟨O,0,none⟩),v,.pointer (some ⟨A,0,none⟩),.int .i64 c] w λe w'=>∃v' L',e=.returned v'/\Fl w' B v' (L++L')/\L'.map (·.f)=(mC f c).1/\Bk w' O 280 [nv,tv,.bool nu,.bool da,.bool (fu||(mC f c).2)]/\am (O::(a6 v L++aG A av ov)) w (O::a6 v' (L++L')) w':=by
 obtain⟨i0,iy,dG,du,ef⟩:=info_parts infoPF;have f8:=hO.owLen;obtain⟨hi,de⟩:=eW hb;obtain⟨va,vc,hv,-,-⟩:=ah hB.row;subst hv;have hfi:mC f c=Vo f c i:=by unfold mC;rw[hb]
 have kK:=ab (cj c hx.is);rw[hb]at kK;obtain⟨oa,oc,dB,-,-⟩:=ah hx.is.ow;subst dB;have c6:=hx.is.c6;obtain⟨g,cap,cM,-,-⟩:=aC hx.is.ow hi;simp only[Value.slice.injEq,true_and]at cM;obtain⟨rfl,rfl⟩:=cM;obtain⟨x0,x1,x2⟩:=aA hx.is.ow hi;obtain⟨p,hp⟩:∃p,p=f.ow.getD i az:=⟨_,rfl⟩;rw[<-hp]at x0 x1 x2;obtain⟨W1,dF⟩:∃W1,W1=w.alloc (.cells #[Value.int .i64 p.k,.int .i64 p.l,.int .i64 p.r] 182):=⟨_,rfl⟩;have aT:Below w.heap.size w W1:=by rw[dF];exact af w _
 have hX:Bk W1 w.heap.size 182 [Value.int .i64 p.k,.int .i64 p.l,.int .i64 p.r]:=by rw[dF];exact Bk.new w _ _
 obtain⟨X,fy⟩:∃X,X=w.heap.size:=⟨_,rfl⟩;rw[<-fy]at hX;have hFs:Fs B (O::(a6 (.slice va L.length vc) L++aG A av (.slice (some ⟨g,0,none⟩) f.ow.length oc))) w W1 O [nv,tv,.bool nu,.bool da,.bool fu] A f av (.slice (some ⟨g,0,none⟩) f.ow.length oc) X p (.slice va L.length vc) L:=by
  refine⟨hB.below aT,wQ.below aT,hx.is.below aT,hX,λk hk=>⟨(DW k hk).1,λe=>?_,(DW k hk).2⟩,λe=>?_,gx,(am.ofBw (F:=O::(a6 (.slice va L.length vc) L++aG A av (.slice (some ⟨g,0,none⟩) f.ow.length oc))) aT).foots (λk hk=>?_),zq3 hB' aT.size⟩
  .have:=hB.lt k hk;omega
  .have:=wQ.lt;omega
  .rcases mem_cons.1 hk with rfl|hk
   .exact zq0 (by simp)
   .exact zq0 (mem_cons_of_mem _ (mem_append_left _ hk))
 have b0:=hX.cell 0 rfl;have H1:=ab hFs;have HX1:=ab (hx.below aT);have zG:=ab bZ;have Qz:=ab DW;have WA:=ab gx;have HP:Hid (p=owA f i):=ab hp;have CA:=ab hfi;have HO:=ab hO;have i1:(0:Int)<=(i:Int):=by omega
 have i2:(i:Int)<(f.ow.length:Int):=by omega
 have qF:Hid ((owA f i).l=c):=ab de;clear hB wQ hO DW gx bZ aT hX hFs hp hfi hx hb de hB';rw[show eH (some i)=(i:Int) from rfl]at kK;go_enter func264,ntmps264;go_wp2_with fail
 refine(uh kK).mono ?_;rintro e w1 ⟨rfl,rfl⟩;clear kK;go_upto_region 3 with fail;rw[<-dF,<-fy];clear dF fy;by_cases Bj:p.k=3
 .have d3:((p.k:Int)==3)=true:=by simp[Bj]
  have HE:Hid (mC f c=([f],false)):=ab (by rw[uh CA];unfold Vo;rw[if_pos (show(owA f i).k=3 by rw[<-uh HP];exact Bj)]);have HR:=ab (uh H1).fl.row;have jO:=(uh H1).bb;clear Bj;go_wp2_with (at_builtin;refine aK _ rfl (.tmp 27) (.tmp 29) 125 rfl B 126 i0 _ 1 8 underlying125 iy dG du ef rfl (by decide) _ L.length (L.map FE.p) rfl ((uh HR).alloc _) ⟨_,0,none⟩ 1 [.pointer (some ⟨A,0,none⟩)] rfl rfl (aJ _ _ (by simp) [.pointer (some ⟨A,0,none⟩)] _) (by intro u hu;simp only[mem_singleton]at hu;subst hu;rfl) (by omega) (by omega) (by simp;omega) ?_)
  intro g1 cap1 wa cF bH iU;have HF:=ab ((uh H1).fin (x:=⟨A,f,av,.slice (some ⟨g,0,none⟩) f.ow.length oc⟩) (uh HX1) (λk hk=>⟨λhn=>(uh Qz k hn).2 hk,λe=>uh WA (by rw[<-e];exact hk),zq0 (mem_cons_of_mem _ (mem_append_right _ hk)),uh zG k hk⟩) cF bH (by simpa using iU));clear cF bH iU;go_wp2_with fail
  go_ret;refine⟨_,[⟨A,f,av,.slice (some ⟨g,0,none⟩) f.ow.length oc⟩],rfl,(uh HF).1,by rw[uh HE];rfl,?_,(uh HF).2.2⟩;rw[uh HE,Bool.or_false];exact(uh HF).2.1
 .have d3:((p.k:Int)==3)=false:=by simp;omega
  have adM:mC f c=if 24<=aD f then ([mo f i],true) else ([mo f i,sU f c i],false):=by rw[uh CA];unfold Vo;rw[if_neg (show ¬ ((owA f i).k=3) by rw[<-uh HP];exact Bj)]
  have se:=ab adM;have jk:=ab (cn (uh H1).ff (uh HO).c5 ha (zq3 f8 (by omega)));clear Bj adM;go_wp2_with fail
  refine(uh jk).mono ?_;rintro e w2 ⟨A2,rfl,sY⟩;obtain⟨av2,ov2,kF⟩:=sY.frf;obtain⟨g2,cap2,cS,-,-⟩:=aC kF.fm.is.ow hi;have adU:ov2=.slice (some ⟨g2,0,none⟩) f.ow.length cap2:=cS;subst adU;have e6:=kF.fm.is.c6;obtain⟨yr,cd⟩:=Fm.putK kF.fm hi 3;obtain⟨-,⟨⟨u0,y0⟩,-,-⟩,z0,-,-⟩:=EO kF.fm.is.ow rfl hi az;obtain⟨w3,Bw⟩:∃w3,w3=w2.setCell ⟨g2,i*3,none⟩ (.int .i64 3):=⟨_,rfl⟩;rw[show w2.setCell ⟨g2,i*3,none⟩ (.int .i64 ((3:Nat):Int))=w3 from Bw.symm]at yr cd;have kX:=kF.step (x':=⟨A2,mo f i,av2,.slice (some ⟨g2,0,none⟩) f.ow.length cap2⟩) yr cd;have hL3:=(uh H1).below kX.bw;have HR:=ab hL3.fl.row;have KC:=ab ((uh H1).fresh kX.ge);have WE:=ab kX.fm;have HL3:=ab hL3;have jO:=hL3.bb;clear sY kF cS yr cd kX hL3 jk;go_upto_region 7 with fail;rw[<-Bw];clear Bw e6 y0 z0 u0;go_wp2_with (at_builtin;refine aK _ rfl (.tmp 40) (.tmp 42) 125 rfl B 126 i0 _ 1 8 underlying125 iy dG du ef rfl (by decide) _ L.length (L.map FE.p) rfl ((uh HR).alloc _) ⟨_,0,none⟩ 1 [.pointer (some ⟨A2,0,none⟩)] rfl rfl (aJ _ _ (by simp) [.pointer (some ⟨A2,0,none⟩)] _) (by intro u hu;simp only[mem_singleton]at hu;subst hu;rfl) (by omega) (by omega) (by simp;omega) ?_)
  intro g4 cap4 w4 dO bU gi;have hL4:=(uh HL3).app (uh WE) (uh KC) dO bU (by simpa using gi);have Ef:aD f<=100000:=by
   unfold aD;have h1:=BO (uh HO);omega
  have KF:=ab (sW hL4.ff (zq3 ha (by omega)) (zq3 f8 (by omega)) Ef);have HL4:=ab hL4;clear dO bU gi hL4 HR KC WE HL3;go_wp2_with fail
  refine(uh KF).mono ?_;rintro e w5 ⟨rfl,b6⟩;have X7:=(uh HL4).below b6;have WN:=ab X7;obtain⟨N,hN⟩:∃N,N=aD f:=⟨_,rfl⟩;rw[<-hN]at Ef se ⊢;have rj:=ab hN;clear b6 KF HL4 hN;by_cases nZ:24<=N
  .have d5:decide ((24:Int)<=(N:Int))=true:=(by simp;omega);have HE:Hid (mC f c=([mo f i],true)):=ab (by rw[uh se,if_pos nZ]);have o4:=X7.bo.cell 4 rfl;have z4:=X7.bo.frz 4;have HL6:=ab (X7.flag 4 (.bool true) (by simp));clear nZ X7;go_wp2_with fail
   go_ret;refine⟨_,[⟨A2,mo f i,av2,.slice (some ⟨g2,0,none⟩) f.ow.length cap2⟩],rfl,(uh HL6).fl,by rw[uh HE];rfl,?_,(uh HL6).st⟩;rw[uh HE,Bool.or_true];exact(uh HL6).bo
  .have d5:decide ((24:Int)<=(N:Int))=false:=(by simp;omega);have HE:Hid (mC f c=([mo f i,sU f c i],false)):=ab (by rw[uh se,if_neg nZ]);have jk:=ab (cn X7.ff (uh HO).c5 ha (zq3 f8 (by omega)));clear nZ X7;go_wp2_with fail
   refine(uh jk).mono ?_;rintro e w6 ⟨A6,rfl,hN6⟩;obtain⟨av6,ov6,Kj⟩:=hN6.frf;obtain⟨g6,cap6,adW,-,-⟩:=aC Kj.fm.is.ow hi;have adX:ov6=.slice (some ⟨g6,0,none⟩) f.ow.length cap6:=adW;subst adX;have e6:=Kj.fm.is.c6;obtain⟨R5,CN⟩:=Fm.putW Kj.fm hi ⟨3,c,N⟩;obtain⟨-,⟨⟨u0,y0⟩,⟨u1,y1⟩,⟨u2,y2⟩⟩,z0,z1,z2⟩:=EO Kj.fm.is.ow rfl hi az;obtain⟨w7,hw7⟩:∃w7,w7=((w6.setCell ⟨g6,i*3,none⟩ (.int .i64 3)).setCell ⟨g6,i*3+1,none⟩ (.int .i64 (c:Int))).setCell ⟨g6,i*3+2,none⟩ (.int .i64 (N:Int)):=⟨_,rfl⟩;rw[show((w6.setCell ⟨g6,i*3,none⟩ (.int .i64 (((⟨3,c,N⟩:Pr).k:Nat):Int))).setCell ⟨g6,i*3+1,none⟩ (.int .i64 (((⟨3,c,N⟩:Pr).l:Nat):Int))).setCell ⟨g6,i*3+2,none⟩ (.int .i64 (((⟨3,c,N⟩:Pr).r:Nat):Int))=w7 from hw7.symm]at R5 CN;have ti:=Kj.step (x':=⟨A6,setO f i ⟨3,c,N⟩,av6,.slice (some ⟨g6,0,none⟩) f.ow.length cap6⟩) R5 CN;have b2:=((uh WN).below ti.bw).bx.cell 2 rfl;have vW:=ab (oB ti.fm 4 N p.r (by
    show(f.ow.set i _).length<=100000;rw[length_set];exact zq3 f8 (by omega)))
   have HF7:=ab ti;clear hN6 Kj adW R5 CN ti jk;go_upto_region 14 with fail;rw[<-hw7];clear hw7 e6 y0 y1 y2 z0 z1 z2 u0 u1 u2;go_wp2_with fail
   refine(uh vW).mono ?_;rintro e w8 ⟨rfl,ov8,P2,AZ⟩;have uL:=(uh HF7).step (x':=⟨A6,sU f c i,av6,ov8⟩) (by
    have e9:sU f c i={ setO f i ⟨3,c,N⟩ with ow:=(setO f i ⟨3,c,N⟩).ow++[⟨4,N,p.r⟩] }:=(by rw[uh HP,uh rj];rfl);rw[e9];exact P2) AZ
   have hL8:=(uh WN).below uL.bw;have HR:Hid (w8.ownsRow B 126 1 (.slice (some ⟨g4,0,none⟩) (L.length+1) cap4) (L.length+1) ((L++[(⟨A2,mo f i,av2,.slice (some ⟨g2,0,none⟩) f.ow.length cap2⟩:FE)]).map FE.p)):=ab (by have:=hL8.fl.row;rwa [length_append,length_singleton]at this);have KC:=ab ((uh WN).fresh uL.ge);have QC:=ab uL.fm;have HL8:=ab hL8;have aqH:=hL8.bb;clear P2 AZ uL hL8 vW;go_wp2_with (at_builtin;refine aK _ rfl (.tmp 68) (.tmp 70) 125 rfl B 126 i0 _ 1 8 underlying125 iy dG du ef rfl (by decide) _ (L.length+1) ((L++[(⟨A2,mo f i,av2,.slice (some ⟨g2,0,none⟩) f.ow.length cap2⟩:FE)]).map FE.p) rfl ((uh HR).alloc _) ⟨_,0,none⟩ 1 [.pointer (some ⟨A6,0,none⟩)] rfl rfl (aJ _ _ (by simp) [.pointer (some ⟨A6,0,none⟩)] _) (by intro u hu;simp only[mem_singleton]at hu;subst hu;rfl) (by omega) (by omega) (by simp;omega) ?_)
   intro g9 cap9 w9 VU M5 VE;have HF:=ab ((uh HL8).fin (x:=⟨A6,sU f c i,av6,ov8⟩) (g1:=g9) (c1:=cap9) (uh QC) (λk hk=>⟨(uh KC k hk).1,(uh KC k hk).2.1,zq1 (uh KC k hk).2.2.2.2.1,(uh KC k hk).2.2.2.2.2⟩) (by rw[length_append,length_singleton,map_append,append_assoc];exact VU) M5 (by simpa using VE));rw[append_assoc,length_append,length_singleton]at HF;clear VU M5 VE;go_wp2_with fail
   go_ret;refine⟨_,[⟨A2,mo f i,av2,.slice (some ⟨g2,0,none⟩) f.ow.length cap2⟩,⟨A6,sU f c i,av6,ov8⟩],rfl,(uh HF).1,by rw[uh HE];rfl,?_,(uh HF).2.2⟩;rw[uh HE,Bool.or_false];exact(uh HF).2.1
end
