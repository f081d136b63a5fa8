import Derived.Test.YtciihepbeacppaaGreatM33
import Derived.Test.YtciihepbeacppaaGreatM31
namespace Go.Proofs.YtciihepbeacppaaGreat
open Go.RowKit List
set_option linter.unusedVariables false
structure gg(f:CF):Prop where
 ap:∀p∈f.ap,p.l≠p.r
 ow:∀p∈f.ow,p.l≠f.cl.getD 0 0
section
variable {f g:CF}
theorem gg.td(hk:am f)(h:gg f):gg (bz f):=by
 have fs:=hk.fg;have dX:=j8 fs.ow fs.cl fs.lf;have inj:∀{a b},a∈db (my f)->b∈db (my f)->a≠b->(eF (my f)).idxOf a≠(eF (my f)).idxOf b:=λha hb aJ e=>aJ (GX (dX _ ha) (dX _ hb) e);have h0:(bz f).cl.getD 0 0=(eF (my f)).idxOf (f.cl.getD 0 0):=lN (my f) (λc=>(eF (my f)).idxOf c) (i:=0) (by omega);have Dl:f.cl.getD 0 0∈db (my f):=mem_append_left _ (eI (f:=my f) (i:=0) (by omega));refine⟨λp hp=>?_,λp hp=>?_⟩
 .obtain⟨q,hq,rfl⟩:=mem_map.1 (gC.1 (show p∈lK ((uQ (my f)).ap.map jw) from hp));obtain⟨x,hx,rfl⟩:=mem_map.1 (show q∈(my f).ap.map (qs (eF (my f))) from hq);obtain⟨g1,g2⟩:=kG hx;have aJ:=inj g1 g2 (h.ap x (mem_filter.1 hx).1);unfold jw;split
  .exact aJ.symm
  .exact aJ
 .rw[h0];obtain⟨x,hx,rfl⟩:=mem_map.1 (show p∈f.ow.map (qs (eF (my f))) from gC.1 (show p∈lK (uQ (my f)).ow from hp));exact inj (mem_append_right _ (mem_flatMap.2 ⟨x,hx,by simp⟩)) Dl (h.ow x hx)
theorem gg.fo1{k:Nat}(h:gg f):gg (qH f k):=by
 refine⟨h.ap,λp hp=>?_⟩;have hp2:=Fk (show p∈rp (f.ow.map (Go.Proofs.YtciihepbeacppaaGreat.fo1 (f.ow.getD k au).l (f.ow.getD k au).r)) k from hp);obtain⟨q,hq,rfl⟩:=mem_map.1 hp2;unfold Go.Proofs.YtciihepbeacppaaGreat.fo1;split
 .exact h.ow q hq
 .exact h.ow q hq
theorem gg.fold:∀(n:Nat) {f:CF},gg f->gg (fX n f)
 |0,_,h=>h
 |n+1,f,h=>by
  unfold fX;split
  .exact h
  .exact gg.fold n h.fo1
theorem gg.setC(h5:f.cl.length=5){v c:Nat}(hv:v<4)(h:gg f):gg (Go.Proofs.YtciihepbeacppaaGreat.setC f (1+v) c):=by
 refine⟨h.ap,λp hp=>?_⟩;rw[uT h5 (by omega),if_neg (by omega)];exact h.ow p hp
theorem gg.setO{i:Nat}{q:Pr}(hi:i<f.ow.length)(hq:q.l=(f.ow.getD i au).l)(h:gg f):gg (Go.Proofs.YtciihepbeacppaaGreat.setO f i q):=by
 refine⟨h.ap,λp hp=>?_⟩;rcases mem_or_eq_of_mem_set (show p∈f.ow.set i q from hp) with hp|rfl
 .exact h.ow p hp
 .rw[hq];exact h.ow _ (aZ hi)
theorem gg.fi{c:Nat}(h:gg f)(hg:g∈(lD f c).1):gg g:=by
 unfold lD at hg;split at hg
 .simp at hg
 .rename_i i hb;obtain⟨hi,hl⟩:=nT hb;have h1:gg (nY f i):=h.setO hi rfl;unfold MV at hg;split at hg
  .simp only[mem_singleton]at hg;rw[hg];exact h
  .split at hg
   .simp only[mem_singleton]at hg;rw[hg];exact h1
   .simp only[mem_cons,not_mem_nil,or_false]at hg;rcases hg with rfl|rfl
    .exact h1
    .have h2:gg (Go.Proofs.YtciihepbeacppaaGreat.setO f i ⟨3,c,aI f⟩):=h.setO hi hl.symm;refine⟨h2.ap,λp hp=>?_⟩;rcases mem_append.1 (show p∈f.ow.set i ⟨3,c,aI f⟩++[⟨4,aI f,(owA f i).r⟩] from hp) with hp|hp
     .exact h2.ow p hp
     .rw[mem_singleton.1 hp];have:=ER f (i:=0) (by omega);show aI f≠f.cl.getD 0 0;omega
theorem gg.par(h:gg f){a b:Nat}(aJ:a≠b):gg (cC f a b):=by
 refine⟨λp hp=>?_,h.ow⟩;rcases mem_append.1 (show p∈f.ap++[⟨2,a,b⟩] from hp) with hp|hp
 .exact h.ap p hp
 .rw[mem_singleton.1 hp];exact aJ
theorem gg.pars:∀(l:List Pr) {h:CF} {c:Nat},gg h->(∀p∈l,c≠p.l)->gg (l.foldl (λh p=>cC h c p.l) h)
 |[],_,_,h,_=>h
 |p::r,h,c,hn,hl=>by
  rw[foldl_cons];exact gg.pars r (hn.par (hl p (by simp))) (λq hq=>hl q (by simp[hq]))
theorem gg.fr{v j:Nat}(hk:am g)(h:gg g)(h1:cR g.ow (g.cl.getD (1+v) 0)=some j):gg (qK g v):=by
 obtain⟨hj,hl⟩:=nT h1;have WG:=(mr hj).map (·.l);have c9:((g.ow.getD j au::rp g.ow j).map (λx:Pr=>x.l)).Nodup:=((mr hj).map (λx:Pr=>x.l)).nodup_iff.1 hk.lf;rw[map_cons,nodup_cons]at c9;have ht:gg (jh g j):=⟨h.ap,λp hp=>h.ow p (Fk hp)⟩;unfold qK;simp only;rw[tK h1];refine gg.pars _ (ht.par ?_) (λp hp e=>c9.1 ?_)
 .rw[<-hl];exact h.ow _ (aZ hj)
 .rw[hl,e];exact mem_map_of_mem (f:=λx:Pr=>x.l) hp
theorem gg.cr(h5:f.cl.length=5){v:Nat}(hv:v<4)(h:gg f):gg (C9 f v):=by
 have h1:gg (qW f ⟨3,aI f,f.cl.getD 0 0⟩):=by
  refine⟨h.ap,λp hp=>?_⟩;rcases mem_append.1 (show p∈f.ow++[⟨3,aI f,f.cl.getD 0 0⟩] from hp) with hp|hp
  .exact h.ow p hp
  .rw[mem_singleton.1 hp];have:=ER f (i:=0) (by omega);show aI f≠f.cl.getD 0 0;omega
 exact gg.setC (f:=qW f ⟨3,aI f,f.cl.getD 0 0⟩) h5 hv h1
theorem gg.jo(h5:f.cl.length=5){a b:Nat}(h:gg f)(hd:dS f a b=false):gg (sS f a b):=by
 by_cases og:a=b
 .have e:∀c,gW a b c=c:=λc=>by
   unfold gW;split
   .rename_i e;rw[e,og]
   .rfl
  refine⟨λp hp=>?_,λp hp=>?_⟩
  .obtain⟨q,hq,rfl⟩:=mem_map.1 (show p∈f.ap.map (wF a b) from hp);show gW a b q.l≠gW a b q.r;rw[e,e];exact h.ap q hq
  .obtain⟨q,hq,rfl⟩:=mem_map.1 (show p∈f.ow.map (wF a b) from hp);rw[EK h5 (by omega)];show gW a b q.l≠_;rw[e,e];exact h.ow q hq
 .unfold dS at hd;rw[if_neg og,Bool.or_eq_false_iff,any_eq_false]at hd;obtain⟨d1,d2⟩:=hd;unfold qA at d2;rw[Bool.or_eq_false_iff]at d2;refine⟨λp hp=>?_,λp hp=>?_⟩
  .obtain⟨q,hq,rfl⟩:=mem_map.1 (show p∈f.ap.map (wF a b) from hp);show gW a b q.l≠gW a b q.r;have aJ:=h.ap q hq;have hx:=d1 q hq;intro e;apply hx;unfold gW at e;by_cases e1:q.l=b
   .rw[if_pos e1]at e;by_cases e2:q.r=b
    .exact absurd (e1.trans e2.symm) aJ
    .rw[if_neg e2]at e;simp[e1,e.symm]
   .rw[if_neg e1]at e;by_cases e2:q.r=b
    .rw[if_pos e2]at e;simp[e2,e]
    .rw[if_neg e2]at e;exact absurd e aJ
  .obtain⟨q,hq,rfl⟩:=mem_map.1 (show p∈f.ow.map (wF a b) from hp);rw[EK h5 (by omega)];show gW a b q.l≠gW a b (f.cl.getD 0 0);have aJ:=h.ow q hq;have oh:∀{c},q.l=c->(cR f.ow c).isSome=true:=λe=>o6.2 ⟨q,hq,e⟩;intro e;unfold gW at e;by_cases e1:q.l=b
   .rw[if_pos e1]at e;by_cases e2:f.cl.getD 0 0=b
    .exact aJ (e1.trans e2.symm)
    .rw[if_neg e2]at e;have:=d2.2;rw[oh e1,<-e]at this;simp at this
   .rw[if_neg e1]at e;by_cases e2:f.cl.getD 0 0=b
    .rw[if_pos e2]at e;have:=d2.1;rw[oh e,e2]at this;simp at this
    .rw[if_neg e2]at e;exact aJ e
end
theorem UE {vs:List UInt8} {f:CF} (hn:vs.Nodup) (hl:∀c∈vs,aX (bW c)=true) (hF:am f) (hN:gg f) (hH:fO f) (hU:∀i,vs.length<=i->i<4->f.cl.getD (1+i) 0=f.cl.getD 0 0)
  {s:PS} (hs:oP s) (h4:s.vars.length<=4) (h8:s.hid.length<=8) {A:List bC} (hA:∀a∈A,nM s.vars s.hid a) (hE:EU s.vars s.hid A=MH vs f) :
  dT (aG A)=false/\fO (aG A)/\vt (aG A).ow:=by
 have ht:gD A:=ti h4 h8 hA;obtain⟨m,hm⟩:∃m,m=jX A:=⟨_,rfl⟩
 -- values of names
 obtain⟨κ,hκ⟩:∃κ:ByteArray->Int,∀x c,Kn vs f x c->κ (bA x)=(c:Int):=by
  classical
  refine⟨λb=>if h:∃c,Kn vs f b.data.toList c then ((Classical.choose h:Nat):Int) else 0,λx c h=>?_⟩;have hx:∃c,Kn vs f (bA x).data.toList c:=⟨c,h⟩;show(if h:∃c,Kn vs f (bA x).data.toList c then ((Classical.choose h:Nat):Int) else 0)=c;rw[dif_pos hx];have:=Classical.choose_spec hx;rw[(Kn.fn hF hn hl this h)]
 have κn:∀c,c<24->κ (bA ((dx vs f).getD c []))=(c:Int):=λc hc=>hκ _ _ (agH hF hc);have κv:∀i,i<vs.length->κ (bA [vs.getD i 0])=(f.cl.getD (1+i) 0:Int):=λi hi=>hκ _ _ (zq1 (zq0 ⟨i,hi,rfl,rfl⟩));have κ0:κ fy=(f.cl.getD 0 0:Int):=hκ zB _ (zq0 ⟨rfl,rfl⟩);obtain⟨v,hv⟩:∃v:Nat->Int,v=λi=>κ (Ib s.vars s.hid i):=⟨_,rfl⟩;have vl:∀a∈A,v (tm a).l=κ (vL s.vars s.hid a).a:=λa ha=>by rw[hv];show κ (Ib _ _ (nj a.lk a.li))=_;rw[oI h4 (hA a ha).2.1];rfl
 have vr:∀a∈A,v (tm a).r=κ (vL s.vars s.hid a).b:=λa ha=>by rw[hv];show κ (Ib _ _ (nj a.rk a.ri))=_;rw[oI h4 (hA a ha).2.2];rfl
 have v0:v 0=(f.cl.getD 0 0:Int):=by rw[hv];exact κ0
 -- atoms and what was written
 have toE:∀a∈A,a.k≠0->vL s.vars s.hid a∈MH vs f:=λa ha h0=>by
  rw[<-hE];exact mem_map.2 ⟨a,mem_filter.2 ⟨ha,by simpa using h0⟩,rfl⟩
 have ofE:∀r∈MH vs f,∃a∈A,a.k≠0/\vL s.vars s.hid a=r:=λr hr=>by
  rw[<-hE]at hr;obtain⟨a,ha,e⟩:=mem_map.1 hr;obtain⟨h1,h2⟩:=mem_filter.1 ha;exact⟨a,h1,by simpa using h2,e⟩
 have mE:∀r∈MH vs f,(∃i,i<vs.length/\(dx vs f).getD (f.cl.getD (1+i) 0) []≠[vs.getD i 0]/\r=⟨bV,bA [vs.getD i 0],bA ((dx vs f).getD (f.cl.getD (1+i) 0) [])⟩)\/(∃p∈f.ap,r=Sv vs f p)\/∃p∈f.ow,r=Gk vs f p:=λr hr=>by
  unfold MH at hr;rw[mem_append,mem_append,mem_flatMap,mem_map,mem_map]at hr;rcases hr with(⟨i,hi,hr⟩|⟨p,hp,hr⟩)|⟨p,hp,hr⟩
  .unfold Yj at hr;split at hr
   .simp at hr
   .rename_i h;exact zq0 ⟨i,mem_range.1 hi,h,mem_singleton.1 hr⟩
  .exact zq1 (zq0 ⟨p,hp,hr.symm⟩)
  .exact zq1 (zq1 ⟨p,hp,hr.symm⟩)
 have kA:∀p,(Sv vs f p).k=dN:=λp=>by unfold Sv;split <;> rfl
 have ne1:dN≠bV:=aM (by simp[dN,bV]);have ne2:∀p,(Gk vs f p).k≠bV:=λp=>by unfold Gk;show(if p.k=4 then jU else kS)≠bV;split <;> exact aM (by simp[jU,kS,bV])
 have ne3:∀p,(Gk vs f p).k≠dN:=λp=>by unfold Gk;show(if p.k=4 then jU else kS)≠dN;split <;> exact aM (by simp[jU,kS,dN])
 have ne4:bV≠dN:=λe=>ne1 e.symm
 -- equalities
 have k8:∀a∈A,a.k=1->∃i,i<vs.length/\(vL s.vars s.hid a).a=bA [vs.getD i 0]/\(vL s.vars s.hid a).b=bA ((dx vs f).getD (f.cl.getD (1+i) 0) []):=λa ha hk=>by
  have gB:(vL s.vars s.hid a).k=bV:=by show wq a.k=bV;rw[hk];rfl
  rcases mE _ (toE a ha (by omega)) with⟨i,h1,-,h2⟩|⟨p,-,h2⟩|⟨p,-,h2⟩
  .exact⟨i,h1,by rw[h2],by rw[h2]⟩
  .rw[h2,kA]at gB;exact absurd gB ne1
  .rw[h2]at gB;exact absurd gB (ne2 p)
 have Wz:∀i,i<13->v (m.getD i 0)=v i:=λi hi=>by
  rw[hm];refine aan ht (λa ha hk=>?_) hi;obtain⟨j,h1,h2,h3⟩:=k8 a ha hk;rw[vl a ha,vr a ha,h2,h3,κv j h1,κn _ (hF.get _)]
 -- what is apart
 have fT:∀q∈(aG A).ap,q.l≠q.r:=λq hq e=>by
  obtain⟨a,ha,rfl⟩:=mem_map.1 (show q∈(A.filter (λa=>a.k==2)).map (fL (jX A)) from hq);obtain⟨ha,hk⟩:=mem_filter.1 ha;have hk:a.k=2:=by simpa using hk
  have gB:(vL s.vars s.hid a).k=dN:=by show wq a.k=dN;rw[hk];rfl
  have e':v (tm a).l=v (tm a).r:=by
   rw[<-Wz _ (ht a ha).1,<-Wz _ (ht a ha).2,hm];exact congrArg v e
  rw[vl a ha,vr a ha]at e';rcases mE _ (toE a ha (by omega)) with⟨i,-,-,h2⟩|⟨p,hp,h2⟩|⟨p,-,h2⟩
  .rw[h2]at gB;exact absurd gB ne4
  .have aq:=hF.ap p hp;have aJ:=hN.ap p hp;rw[h2]at e';unfold Sv at e';split at e'
   .have e':κ (bA ((dx vs f).getD p.r []))=κ (bA ((dx vs f).getD p.l [])):=e';rw[κn _ aq.1,κn _ aq.2]at e';omega
   .have e':κ (bA ((dx vs f).getD p.l []))=κ (bA ((dx vs f).getD p.r [])):=e';rw[κn _ aq.1,κn _ aq.2]at e';omega
  .rw[h2]at gB;exact absurd gB (ne3 p)
 -- owners
 have eE:(A.filter (λa=>a.k==3||a.k==4)).map (vL s.vars s.hid)=f.ow.map (Gk vs f):=by
  rw[<-aaw hA,hE];unfold MH;rw[filter_append,filter_append];have e1:((range vs.length).flatMap (Yj vs f)).filter Uv=[]:=by
   rw[filter_eq_nil_iff];intro r hr;rw[mem_flatMap]at hr;obtain⟨i,-,hr⟩:=hr;unfold Yj at hr;split at hr
   .simp at hr
   .rw[mem_singleton.1 hr];have n3:bO bV kS=false:=de (aM (by simp[kS,bV]));have n6:bO bV jU=false:=de (aM (by simp[jU,bV]));simp[Uv,n3,n6]
  have e2:(f.ap.map (Sv vs f)).filter Uv=[]:=by
   rw[filter_eq_nil_iff];intro r hr;obtain⟨p,-,rfl⟩:=mem_map.1 hr;have n4:bO dN kS=false:=de (aM (by simp[kS,dN]));have n7:bO dN jU=false:=de (aM (by simp[jU,dN]));unfold Uv;rw[kA,n4,n7];simp
  have e3:(f.ow.map (Gk vs f)).filter Uv=f.ow.map (Gk vs f):=by
   rw[filter_eq_self];intro r hr;obtain⟨p,-,rfl⟩:=mem_map.1 hr;unfold Uv Gk;show(bO (if p.k=4 then jU else kS) kS||bO (if p.k=4 then jU else kS) jU)=true;split
   .rw[bt,Bool.or_true]
   .rw[bt,Bool.true_or]
  rw[e1,e2,e3];simp
 have ofO:∀q∈(aG A).ow,∃a∈A,∃p∈f.ow,q=fL m a/\a.k≠0/\v (tm a).l=(p.l:Int)/\v (tm a).r=(p.r:Int):=λq hq=>by
  obtain⟨a,ha,rfl⟩:=mem_map.1 (show q∈(A.filter (λa=>a.k==3||a.k==4)).map (fL (jX A)) from hq);have hx:vL s.vars s.hid a∈f.ow.map (Gk vs f):=by rw[<-eE];exact mem_map.2 ⟨a,ha,rfl⟩
  obtain⟨p,hp,e⟩:=mem_map.1 hx;obtain⟨ha,hk⟩:=mem_filter.1 ha;have aq:=hF.ow p hp;refine⟨a,ha,p,hp,by rw[hm],λh0=>by rw[h0]at hk;simp at hk,?_,?_⟩
  .rw[vl a ha,<-e];exact κn _ aq.1
  .rw[vr a ha,<-e];exact κn _ aq.2
 have toO:∀p∈f.ow,∃a∈A,fL m a∈(aG A).ow/\a.k≠0/\v (tm a).l=(p.l:Int)/\v (tm a).r=(p.r:Int):=λp hp=>by
  have hx:Gk vs f p∈(A.filter (λa=>a.k==3||a.k==4)).map (vL s.vars s.hid):=by rw[eE];exact mem_map.2 ⟨p,hp,rfl⟩
  obtain⟨a,ha,e⟩:=mem_map.1 hx;have hq:fL m a∈(aG A).ow:=by rw[hm];exact mem_map.2 ⟨a,ha,rfl⟩
  obtain⟨ha,hk⟩:=mem_filter.1 ha;have aq:=hF.ow p hp;refine⟨a,ha,hq,λh0=>by rw[h0]at hk;simp at hk,?_,?_⟩
  .rw[vl a ha,e];exact κn _ aq.1
  .rw[vr a ha,e];exact κn _ aq.2
 have Zr:vt (aG A).ow:=by
  have e1:((aG A).ow.map (·.l)).map v=f.ow.map (λp=>(p.l:Int)):=by
   have e2:((aG A).ow.map (·.l)).map v=((A.filter (λa=>a.k==3||a.k==4)).map (vL s.vars s.hid)).map (λr=>κ r.a):=by
    show(((A.filter (λa=>a.k==3||a.k==4)).map (fL (jX A))).map (·.l)).map v=_;rw[map_map,map_map,map_map];apply map_congr_left;intro a ha;have ha:=(mem_filter.1 ha).1;show v ((jX A).getD (tm a).l 0)=κ (vL s.vars s.hid a).a;rw[<-hm,Wz _ (ht a ha).1,vl a ha]
   rw[e2,eE,map_map];apply map_congr_left;intro p hp;exact κn _ (hF.ow p hp).1
  have h1:(f.ow.map (λp=>(p.l:Int))).Nodup:=by
   have:=hF.lf;unfold vt at this;have e3:f.ow.map (λp=>(p.l:Int))=(f.ow.map (·.l)).map (λn:Nat=>(n:Int)):=(by rw[map_map];rfl);rw[e3];exact List.Pairwise.map _ (λa b og e=>og (by omega)) this
  rw[<-e1]at h1;exact List.Pairwise.of_map v (λa b og e=>og (by rw[e])) h1
 have lF:dT (aG A)=false:=by
  unfold dT;rw[Bool.or_eq_false_iff,any_eq_false];refine⟨λq hq=>by simpa using fT q hq,?_⟩;cases hd:nX [(aG A).cl.getD 0 0] (aG A).ow with
  |false=>rfl
  |true =>
   exfalso;obtain⟨i,hi,h⟩:=Bm hd;rcases h with h|⟨j,hj,h⟩
   .rw[mem_singleton,rz (by omega)]at h;obtain⟨a,ha,p,hp,e,-,h1,-⟩:=ofO _ (aZ hi);rw[e]at h;have h:m.getD (tm a).l 0=(jX A).getD 0 0:=h;have h2:=congrArg v h;rw[Wz _ (ht a ha).1,<-hm,Wz 0 (by omega),h1,v0]at h2;have:=hN.ow p hp;omega
   .have qQ:=Zr;unfold vt at qQ;have e1:((aG A).ow.map (·.l))[i]?=some ((aG A).ow.getD i au).l:=(by rw[getElem?_map,getElem?_eq_getElem hi,<-bK hi];rfl);have e2:((aG A).ow.map (·.l))[j]?=some ((aG A).ow.getD i au).l:=(by rw[getElem?_map,getElem?_eq_getElem (by omega),<-bK (by omega),<-h];rfl);have:=(getElem?_inj (by rw[length_map];exact hi) qQ).1 (e1.trans e2.symm);omega
 refine⟨lF,?_,Zr⟩
 -- what is named
 obtain⟨Lv,hLv⟩:∃Lv:Nat->Prop,Lv=λi=>i=0\/∃a∈A,a.k≠0/\(i=(tm a).l\/i=(tm a).r):=⟨_,rfl⟩;have lvl:∀a∈A,a.k≠0->Lv (tm a).l:=λa ha h0=>by rw[hLv];exact zq1 ⟨a,ha,h0,zq0 rfl⟩
 have lvr:∀a∈A,a.k≠0->Lv (tm a).r:=λa ha h0=>by rw[hLv];exact zq1 ⟨a,ha,h0,zq1 rfl⟩
 have lv0:Lv 0:=by rw[hLv];exact zq0 rfl
 have tmB:∀i,Lv i->∃k j,KE s.vars s.hid k j/\i=nj k j:=λi hi=>by
  rw[hLv]at hi;rcases hi with rfl|⟨a,ha,-,rfl|rfl⟩
  .exact⟨0,0,⟨by omega,λh=>by omega,λh=>by omega⟩,rfl⟩
  .exact⟨a.lk,a.li,(hA a ha).2.1,rfl⟩
  .exact⟨a.rk,a.ri,(hA a ha).2.2,rfl⟩
 have nmI2:∀i j,Lv i->Lv j->Ib s.vars s.hid i=Ib s.vars s.hid j->i=j:=λi j hi hj e=>by
  obtain⟨k,a,b1,rfl⟩:=tmB i hi;obtain⟨k',a',b2,rfl⟩:=tmB j hj;rw[oI h4 b1,oI h4 b2]at e;exact zW hs b1 b2 e
 have nml:∀a∈A,Ib s.vars s.hid (tm a).l=(vL s.vars s.hid a).a:=λa ha=>oI h4 (hA a ha).2.1;have nmr:∀a∈A,Ib s.vars s.hid (tm a).r=(vL s.vars s.hid a).b:=λa ha=>oI h4 (hA a ha).2.2
 -- each live term has its class's name,or is equal to that
 have J0:∀i,Lv i->∃c t:Nat,c<24/\Lv t/\v i=(c:Int)/\Ib s.vars s.hid t=bA ((dx vs f).getD c [])/\m.getD i 0=m.getD t 0:=λi hi=>by
  have byc:∀c,c<24->Ib s.vars s.hid i=bA ((dx vs f).getD c [])->∃c t:Nat,c<24/\Lv t/\v i=(c:Int)/\Ib s.vars s.hid t=bA ((dx vs f).getD c [])/\m.getD i 0=m.getD t 0:=λc hc e=>⟨c,i,hc,hi,by rw[hv];show κ _=_;rw[e];exact κn c hc,e,rfl⟩;have byv:∀j,j<vs.length->(dx vs f).getD (f.cl.getD (1+j) 0) []≠[vs.getD j 0]->Ib s.vars s.hid i=bA [vs.getD j 0]->∃c t:Nat,c<24/\Lv t/\v i=(c:Int)/\Ib s.vars s.hid t=bA ((dx vs f).getD c [])/\m.getD i 0=m.getD t 0:=λj hj aJ e=>by
   obtain⟨a,ha,h0,e2⟩:=ofE ⟨bV,bA [vs.getD j 0],bA ((dx vs f).getD (f.cl.getD (1+j) 0) [])⟩ (by
    unfold MH;refine mem_append_left _ (mem_append_left _ (mem_flatMap.2 ⟨j,mem_range.2 hj,?_⟩));unfold Yj;rw[if_neg aJ];exact mem_singleton.2 rfl)
   have hk:a.k=1:=by
    have:=(OJ (hA a ha).1 h0).1;refine this.1 ?_;have:wq a.k=bV:=congrArg oQ.k e2;rw[this];exact bt _
   have ei:(tm a).l=i:=nmI2 _ _ (lvl a ha h0) hi (by rw[nml a ha,e2,e]);refine⟨f.cl.getD (1+j) 0,(tm a).r,hF.get _,lvr a ha h0,?_,?_,?_⟩
   .rw[hv];show κ _=_;rw[e];exact κv j hj
   .rw[nmr a ha,e2]
   .rw[<-ei,hm];exact aam A _ ht (by simp) a ha hk
  have hi2:=hi;rw[hLv]at hi2;rcases hi2 with rfl|⟨a,ha,h0,hx⟩
  .refine byc _ (hF.get 0) ?_;rcases(mf (vs:=vs) hF).1 _ (hF.get 0) with⟨-,h2⟩|⟨h1,-⟩|⟨h1,-⟩
   .rw[h2];rfl
   .exact absurd rfl h1
   .exact absurd rfl h1.1
  .rcases mE _ (toE a ha h0) with⟨j,h1,aJ,h2⟩|⟨p,hp,h2⟩|⟨p,hp,h2⟩
   .rcases hx with rfl|rfl
    .exact byv j h1 aJ (by rw[nml a ha,h2])
    .exact byc _ (hF.get _) (by rw[nmr a ha,h2])
   .have aq:=hF.ap p hp;unfold Sv at h2;split at h2
    .rcases hx with rfl|rfl
     .exact byc _ aq.2 (by rw[nml a ha,h2])
     .exact byc _ aq.1 (by rw[nmr a ha,h2])
    .rcases hx with rfl|rfl
     .exact byc _ aq.1 (by rw[nml a ha,h2])
     .exact byc _ aq.2 (by rw[nmr a ha,h2])
   .have aq:=hF.ow p hp;rcases hx with rfl|rfl
    .exact byc _ aq.1 (by rw[nml a ha,h2];rfl)
    .exact byc _ aq.2 (by rw[nmr a ha,h2];rfl)
 have lZ:∀i j,Lv i->Lv j->v i=v j->m.getD i 0=m.getD j 0:=λi j hi hj e=>by
  obtain⟨c,t,-,g2,g3,g4,g5⟩:=J0 i hi;obtain⟨c',t',-,k2,k3,k4,k5⟩:=J0 j hj;have:c=c':=by omega
  subst this;rw[g5,k5,nmI2 t t' g2 k2 (by rw[g4,k4])]
 intro B hB hC;have du:∀i,i<5->B (m.getD i 0):=λi hi=>by have:=hB i hi;rwa [rz hi,<-hm]at this
 have hf:=hH (λc=>∀i,Lv i->v i=(c:Int)->B (m.getD i 0)) (λi hi=>?_) (λp hp eE=>?_)
 .intro q hq;obtain⟨a,ha,p,hp,rfl,h0,h1,-⟩:=ofO q hq;exact hf p hp _ (lvl a ha h0) h1
 .have at0:∀j,Lv j->v j=(f.cl.getD 0 0:Int)->B (m.getD j 0):=λj hj e=>by
   rw[lZ j 0 hj lv0 (by rw[e,v0])];exact du 0 (by omega)
  intro j hj e;rcases Nat.eq_zero_or_pos i with rfl|hip
  .exact at0 j hj e
  .obtain⟨k,rfl⟩:∃k,i=1+k:=⟨i-1,by omega⟩;by_cases hk:k<vs.length
   .obtain⟨c,t,hc,g2,g3,g4,g5⟩:=J0 j hj;have Q2:c=f.cl.getD (1+k) 0:=(by omega);rcases(mf (vs:=vs) hF).1 c hc with⟨h1,-⟩|⟨-,k',h1,-,h3⟩|⟨h1,-⟩
    .exact at0 j hj (by rw[g3,h1])
    .rw[g5];rw[h3]at g4;have ht5:t<5:=by
      obtain⟨kk,jj,b1,rfl⟩:=tmB t g2;rw[oI h4 b1]at g4;unfold nj;by_cases e1:kk=1
      .rw[if_pos e1];have:=b1.2.1 e1;omega
      .rw[if_neg e1];by_cases e2:kk=2
       .exfalso;have xH:=hs.lh _ (jr (b1.2.2 e2));unfold Dw at g4;rw[if_neg e1,if_pos e2]at g4;rw[g4]at xH;have:=qY _ (show aX (bA [vs.getD k' 0])=true from hl _ (jr h1));rw[this]at xH;cases xH
       .rw[if_neg e2];omega
     exact du t ht5
    .exact absurd Q2.symm (h1.2 k hk)
   .rw[hU k (by omega) (by omega)]at e;exact at0 j hj e
 .obtain⟨a,ha,hq,h0,h1,h2⟩:=toO p hp;have hb:=hC _ hq (eE _ (lvl a ha h0) h1);intro j hj e;rw[lZ j (tm a).r hj (lvr a ha h0) (by rw[e,h2])];exact hb
theorem Vl{vs:List UInt8}{f:CF}(hn:vs.Nodup)(hl:∀c∈vs,aX (bW c)=true)(hF:am f)(hN:gg f)(hH:fO f)(hU:∀i,vs.length<=i->i<4->f.cl.getD (1+i) 0=f.cl.getD 0 0):
  wZ (qe vs f) (qe vs f)=(true,0)\/wZ (qe vs f) (qe vs f)=(false,1)\/wZ (qe vs f) (qe vs f)=(false,4):=by
 obtain⟨hsp,hr⟩:=Vk (λc hc=>agQ (vs:=vs) hF hl hc) (λi hi=>Pf (hl _ (jr hi))) hF;generalize qe vs f=t at hsp hr ⊢;have bf:∀v,(nL v t).failed=false:=λv=>(Qq v t).2 ⟨_,hr⟩;by_cases aej:240<t.length
 .right;left;have e:∀v,lx v t=1:=λv=>by unfold lx;rw[if_pos aej]
  unfold wZ vi;rw[e];rfl
 .have e:∀v,lx v t=0:=λv=>by unfold lx;rw[if_neg aej,if_neg hsp,bf v];rfl
  have hE:vi t t=if 4<(nK t t).vars.length\/8<(nJ t).hid.length\/8<(nK t t).hid.length then 4 else 0:=by
   unfold vi;rw[e,e,if_neg (by omega),if_neg (by omega)]
  unfold wZ;rw[hE];by_cases jD:4<(nK t t).vars.length\/8<(nJ t).hid.length\/8<(nK t t).hid.length
  .right;right;rw[if_pos jD,if_pos (by omega)]
  .left;rw[if_neg jD,if_neg (by omega)];obtain⟨-,i2,⟨al,i3,i4⟩,i5,-⟩:=CT (bf []);obtain⟨-,j2,⟨al',j3,j4⟩,j5,j6⟩:=CT (bf (nJ t).vars);rw[hr]at i3 j3;injection i3 with i3;injection j3 with j3;rw[<-i3]at i4;rw[<-j3]at j4;have hL1:oP (nJ t):=OZ (Hp nodup_nil (λc hc=>by cases hc)) t;have QX:oP (nK t t):=OZ (Hp hL1.nv hL1.lv) t;have hh:(nJ t).hid=(nK t t).hid:=by
    have e1:(nJ t).hid.map bW=(nK t t).hid.map bW:=i2.trans j2.symm;exact(map_inj_right (λc d h=>by
     have:(bW c).data.toList=(bW d).data.toList:=(by rw[h]);injection this)).1 e1
   have hG:mS (nJ t) (nK t t):=⟨j6,by rw[hh];exact prefix_refl _⟩;have i4':MH vs f=EU (nK t t).vars (nK t t).hid (IN t):=i4.trans (Ia hG i5).symm;have i5':∀a∈IN t,nM (nK t t).vars (nK t t).hid a:=λa ha=>(i5 a ha).gro hG;have yZ:(nK t t).vars.length<=4:=(by omega);have hh8:(nK t t).hid.length<=8:=(by omega);obtain⟨g1,g2,g3⟩:=UE hn hl hF hN hH hU QX yZ hh8 i5' i4'.symm;have hcf:aG (U9 t t)=aG (IN t):=by
    rw[VV,VV];refine congrArg cfT (ux (g:=vL (nK t t).vars (nK t t).hid) (P:=λa=>nM (nK t t).vars (nK t t).hid a/\a.k≠0) (λa b ha hb og=>Um QX ha.1 hb.1 ha.2 hb.2 og) _ _ (λa ha=>?_) (λa ha=>?_) (j4.symm.trans i4'))
    .obtain⟨k1,k2⟩:=mem_filter.1 ha;exact⟨j5 a k1,by simpa using k2⟩
    .obtain⟨k1,k2⟩:=mem_filter.1 ha;exact⟨i5' a k1,by simpa using k2⟩
   have cN:(IN t).length<=1000:=by
    have h1:=PJ hsp;have h2:=yE (ws:=bN t) ((bN t).length+1) (dH (bN t) (nI []));show(_::(fW (bN t) ((bN t).length+1) (dH (bN t) (nI []))).1).length<=1000;rw[length_cons];omega
   have:=M0 (ti yZ hh8 i5') g1 g2 g3 cN;unfold Dc at this ⊢;rw[hcf];exact this
def AO(Q:CF->Prop)(s:Sr):Prop:=∀n,∀e∈bh s n,Q e.f
structure QR(c:Cd)(Q:CF->Prop):Prop where
 ef:∀n f,Td f->Q f->(b8 (c.nds.getD n aS) f).nu=false->(b8 (c.nds.getD n aS) f).da=false->(∀x∈(b8 (c.nds.getD n aS) f).nx,Q x)/\∀x∈(b8 (c.nds.getD n aS) f).ot,Q x
 ly:∀f,am f->Q f->Q (bz (Jq f))
section
variable {c:Cd} {N n:Nat} {f:CF} {s:Sr} {Q:CF->Prop}
theorem St{nd:Nd}(hk:am f)(hv:nd.v<4)(ha:nd.ai<4)(h:gg f)(cnu:(b8 nd f).nu=false)(cda:(b8 nd f).da=false):(∀x∈(b8 nd f).nx,gg x)/\∀x∈(b8 nd f).ot,gg x:=by
 have opn:∀{w:Nat} {G:CF->CF},w<4->(fC f w).2.1=false->(fC f w).2.2.1=false->(∀x,am x->gg x->∀j,cR x.ow (x.cl.getD (1+w) 0)=some j->am (G x)/\gg (G x))->∀x∈(fC f w).1.map (λx=>bz (G x)),gg x:=by
  intro w G hw g1 g2 hG x hx;obtain⟨y,hy,rfl⟩:=mem_map.1 hx;have Re:=iU (N:=f.ap.length) hw hk (zq4 _) _ hy;have TP:gg y:=by
   unfold fC at g1 g2 hy;by_cases e0:f.cl.getD (1+w) 0=f.cl.getD 0 0
   .rw[if_pos e0]at g1;cases g1
   .rw[if_neg e0]at g1 g2 hy;by_cases eb:(cR f.ow (f.cl.getD (1+w) 0)).isSome=true
    .rw[if_pos eb]at hy;exact h.fi hy
    .rw[if_neg eb]at g2;cases g2
  obtain⟨j,hj⟩:=Option.isSome_iff_exists.1 Re.bg;obtain⟨k1,k2⟩:=hG y Re.ok TP j hj;exact k2.td k1
 have Do:=h.td hk;have kj:(∀x∈(jM f nd).1,gg x)/\∀x∈(jM f nd).2,gg x:=by
  unfold jM;simp only;refine⟨λx hx=>?_,λx hx=>?_⟩
  .split at hx
   .simp at hx
   .rename_i hd;have hd:dS f (f.cl.getD (1+nd.v) 0) (nV f nd.ak nd.ai)=false:=(by simpa using hd);rw[mem_singleton.1 hx];exact(h.jo hk.c5 hd).td (hk.jo (hk.get _) (gi hd))
  .split at hx
   .simp at hx
   .rename_i aJ;rw[mem_singleton.1 hx];exact(h.par aJ).td (hk.pa (hk.get _) (hk.cT _ _))
 unfold b8 at cnu cda ⊢;by_cases o0:nd.op=0
 .rw[if_pos o0];exact⟨by simp[uF],by simp[uF]⟩
 rw[if_neg o0]at cnu cda ⊢;by_cases o1:nd.op=1
 .rw[if_pos o1];exact⟨λx hx=>by rw[mem_singleton.1 hx];exact(h.setC hk.c5 hv).td (hk.sC _ (hk.cT _ _)),by simp⟩
 rw[if_neg o1]at cnu cda ⊢;by_cases o2:nd.op=2
 .rw[if_pos o2]at cnu cda ⊢;exact⟨opn ha cnu cda (λx k1 k2 j _=>⟨by unfold gG;exact k1.sC _ (k1.oA _).2,by unfold gG;exact k2.setC k1.c5 hv⟩),by simp[br]⟩
 rw[if_neg o2]at cnu cda ⊢;by_cases o3:nd.op=3
 .rw[if_pos o3]at cnu cda ⊢;exact⟨opn hv cnu cda (λx k1 k2 j hj=>⟨by unfold qX;exact k1.sO (λ_=>rfl) (k1.cT _ _) (k1.oA _).1,by unfold qX;simp only;rw[tK hj];exact k2.setO (nT hj).1 rfl⟩),by simp[br]⟩
 rw[if_neg o3]at cnu cda ⊢;by_cases o4:nd.op=4
 .rw[if_pos o4];split
  .exact⟨by simp,by simp⟩
  .rename_i hn;exact⟨λx hx=>by rw[mem_singleton.1 hx];exact(h.cr hk.c5 hv).td (qB hk (by omega)),by simp⟩
 rw[if_neg o4]at cnu cda ⊢;by_cases o5:nd.op=5
 .rw[if_pos o5]at cnu cda ⊢;exact⟨opn hv cnu cda (λx k1 k2 j hj=>⟨(qL (N:=x.ap.length) ⟨k1,zq4 _,by rw[hj];rfl⟩).1,k2.fr k1 hj⟩),by simp[br]⟩
 rw[if_neg o5];by_cases o7:nd.op=7
 .rw[if_pos o7];exact⟨λx hx=>by rw[mem_singleton.1 hx];exact Do,λx hx=>by rw[mem_singleton.1 hx];exact Do⟩
 rw[if_neg o7];by_cases o8:nd.op=8
 .rw[if_pos o8];exact kj
 rw[if_neg o8];by_cases o9:nd.op=9
 .rw[if_pos o9];exact⟨kj.2,kj.1⟩
 rw[if_neg o9];exact⟨λx hx=>by rw[mem_singleton.1 hx];exact Do,by simp⟩
theorem aay(hO:vu c.nds):QR c gg:=⟨λn _ hf h a b=>St hf.ok (hO.v n).1 (hO.v n).2 h a b,λ_ hf h=>(h.fold _).td (gH _ hf).1⟩
theorem ag1(hQ:QR c Q)(h:Q f)(hf:am f):Q (ch c n f):=by
 unfold ch;split
 .exact hQ.ly f hf h
 .exact h
theorem Hh(hQ:QR c Q)(hn:n<s.kn.length)(hf:am f)(h:Q f)(hs:AO Q s):AO Q (bG c n f s):=by
 unfold bG;split
 .exact hs
 .intro m e he;have hkA:bh (pV c (m9 n (ch c n f) (mb c s (2*(bh s n).length)))) m=if n=m then (bh s n).filter (λe=>!zZ e.f (ch c n f))++[⟨ch c n f,false⟩] else bh s m:=iO hn m
  rw[hkA]at he;by_cases e0:n=m
  .rw[if_pos e0]at he;rcases mem_append.1 he with he|he
   .exact hs n e (mem_filter.1 he).1
   .rw[mem_singleton.1 he];exact ag1 hQ h hf
  .rw[if_neg e0]at he;exact hs m e he
theorem DN(hQ:QR c Q){fuel a b:Nat}(ha:a<N):∀(l:List CF) {s:Sr},(l≠[]->b<N)->cG l->(∀x∈l,Q x)->gZ N s->Sf (l.foldl (λs g=>dG c fuel a b g s) s)->AO Q s->AO Q (l.foldl (λs g=>dG c fuel a b g s) s)
 |[],_,_,_,_,_,_,h=>h
 |g::l,s,hb,hl,hx,hs,hS,h=>by
  rw[foldl_cons]at hS ⊢;have hbN:=hb (by simp);obtain⟨-,h2,-⟩:=nR (c:=c) (fuel:=fuel) (hl g (by simp)) hs ha hbN;obtain⟨h4,-,-⟩:=jy (c:=c) (fuel:=fuel) ha l (λ_=>hbN) (λx hx=>hl x (by simp[hx])) h2;obtain⟨-,e⟩:=yp (hl g (by simp)) hs ha hbN (h4.sf hS);refine DN hQ ha l (λ_=>hbN) (λx hx=>hl x (by simp[hx])) (λx vK=>hx x (by simp[vK])) h2 hS ?_;rw[e];exact Hh hQ (by rw[hs.kn];exact hbN) (hl g (by simp)).ok (hx g (by simp)) h
theorem abn(hQ:QR c Q){fuel:Nat}(hN:c.nds.length=N)(hO:vu c.nds)(hn:n<N)(hf:Td f)(hq:Q f)(hs:gZ N s)(hS:Sf (nH c fuel n f s))(h:AO Q s):AO Q (nH c fuel n f s):=by
 obtain⟨hv,ha⟩:=hO.v n;obtain⟨t1,t2⟩:=lQ hv ha hf;obtain⟨-,-,du⟩:=zT (fuel:=fuel) hN hO hn hf hs;obtain⟨q1,q2⟩:=hQ.ef n f hf hq (du hS).nu (du hS).da;have fU:n<c.nds.length:=by rw[hN];exact hn
 have bQ:(b8 (c.nds.getD n aS) f).nx≠[]->(c.nds.getD n aS).nx<N:=λh=>by rw[<-hN];exact hO.nx n fU (tR h)
 have vy:(b8 (c.nds.getD n aS) f).ot≠[]->(c.nds.getD n aS).ot<N:=λh=>by rw[<-hN];exact hO.ot n fU (qD h)
 unfold nH at hS ⊢;simp only at hS ⊢;obtain⟨-,a2,-⟩:=eN (b:=decide ((c.nds.getD n aS).op=0)&&!decide (eY f=[])) (k:=2) hs hn (by omega);obtain⟨-,b2,-⟩:=eN (b:=(b8 (c.nds.getD n aS) f).nu) (k:=3) a2 hn (by omega);obtain⟨-,d2,-⟩:=eN (b:=(b8 (c.nds.getD n aS) f).da) (k:=4) b2 hn (by omega);obtain⟨-,e2,-⟩:=yH (b8 (c.nds.getD n aS) f).fu d2;obtain⟨-,g2,-⟩:=jy (c:=c) (fuel:=fuel) (b:=(c.nds.getD n aS).nx) hn (b8 (c.nds.getD n aS) f).nx bQ t1 e2;obtain⟨k1,-,-⟩:=jy (c:=c) (fuel:=fuel) (b:=(c.nds.getD n aS).ot) hn (b8 (c.nds.getD n aS) f).ot vy t2 g2;refine DN hQ hn _ vy t2 q2 g2 hS (DN hQ hn _ bQ t1 q1 e2 (k1.sf hS) ?_);intro m e he;refine h m e ?_;have e1:(fuS (b8 (c.nds.getD n aS) f).fu (wrI (b8 (c.nds.getD n aS) f).da n 4 (wrI (b8 (c.nds.getD n aS) f).nu n 3 (wrI (decide ((c.nds.getD n aS).op=0)&&!decide (eY f=[])) n 2 s)))).kn=s.kn:=by
  show(wrI _ n 4 (wrI _ n 3 (wrI _ n 2 s))).kn=s.kn;rw[gw,gw,gw]
 unfold bh at he ⊢;rw[e1]at he;exact he
theorem Qz(hQ:QR c Q){fuel:Nat}(hN:c.nds.length=N)(hO:vu c.nds)(hn:n<N):∀(l:List CF) {s:Sr},cG l->(∀x∈l,Q x)->gZ N s->Sf (lL c fuel n l s)->AO Q s->AO Q (lL c fuel n l s)
 |[],_,_,_,_,_,h=>h
 |f::r,s,hl,hx,hs,hS,h=>by
  unfold lL at hS ⊢;split
  .exact h
  .rename_i dW;rw[if_neg dW]at hS;obtain⟨-,h2,-⟩:=zT (fuel:=fuel) hN hO hn (hl f (by simp)) hs;obtain⟨h4,-,-⟩:=zX (fuel:=fuel) hN hO hn r (λx hx=>hl x (by simp[hx])) h2;exact Qz hQ hN hO hn r (λx hx=>hl x (by simp[hx])) (λx hxr=>hx x (by simp[hxr])) h2 hS (abn hQ hN hO hn (hl f (by simp)) (hx f (by simp)) hs (h4.sf hS) h)
theorem abw(hQ:QR c Q){fuel:Nat}(hN:c.nds.length=N)(hO:vu c.nds)(hn:n<N)(hs:gZ N s)(hS:Sf (qd c fuel n s))(h:AO Q s):AO Q (qd c fuel n s):=by
 have eV:n<s.kn.length:=by rw[hs.kn];exact hn
 obtain⟨s0,vG⟩:∃s0:Sr,s0={ s with kn:=s.kn.set n ((bh s n).map (λe:f9=>(⟨e.f,true⟩:f9))) }:=⟨_,rfl⟩;have hkA:∀m,bh s0 m=if n=m then (bh s n).map (λe=>⟨e.f,true⟩) else bh s m:=λm=>by rw[vG];exact iO eV m
 have Nv:gZ N s0:=by
  rw[vG];refine⟨by show(s.kn.set n _).length=N;rw[length_set];exact hs.kn,hs.wr,hs.rw,λl hl e he=>?_⟩;rcases mem_or_eq_of_mem_set (show l∈s.kn.set n _ from hl) with h1|rfl
  .exact hs.td l h1 e he
  .obtain⟨x,hx,rfl⟩:=mem_map.1 he;exact hs.td.at n x hx
 have ir:cG (kH (bh s n)):=λg hg=>by
  obtain⟨e,he,rfl⟩:=mem_map.1 hg;exact hs.td.at n e (mem_filter.1 he).1
 have hfn:∀x∈kH (bh s n),Q x:=λg hg=>by
  obtain⟨e,he,rfl⟩:=mem_map.1 hg;exact h n e (mem_filter.1 he).1
 have e1:qd c fuel n s=lL c fuel n (kH (bh s n)) s0:=by rw[vG];rfl
 rw[e1]at hS ⊢;refine Qz hQ hN hO hn _ ir hfn Nv hS (λm e he=>?_);rw[hkA]at he;by_cases e0:n=m
 .rw[if_pos e0]at he;obtain⟨x,hx,rfl⟩:=mem_map.1 he;exact h n x hx
 .rw[if_neg e0]at he;exact h m e he
theorem PV(hQ:QR c Q){fuel:Nat}(hN:c.nds.length=N)(hO:vu c.nds):∀(k:Nat) {s:Sr},gZ N s->Sf (ng c fuel k s)->AO Q s->AO Q (ng c fuel k s)
 |0,_,_,_,h=>h
 |k+1,s,hs,hS,h=>by
  unfold ng at hS ⊢;split
  .exact h
  .rename_i n wh;rw[wh]at hS;simp only at hS;have hn:n<N:=by
    unfold E1 at wh;obtain⟨h1,-⟩:=findIdx?_eq_some_iff_getElem.1 wh;rw[<-hs.kn];exact h1
   split
   .exact h
   .rename_i dW;rw[if_neg dW]at hS;obtain⟨-,h2,-⟩:=Ft (fuel:=fuel) hN hO hn hs;obtain⟨h4,-,-⟩:=mM (fuel:=fuel) hN hO k h2;exact PV hQ hN hO k h2 hS (abw hQ hN hO hn hs (h4.sf hS) h)
theorem aax{al:List bC}(hf:dT (aG al)=false)(nv:Nat):gg (sG (aG al) nv):=by
 unfold dT at hf;rw[Bool.or_eq_false_iff,any_eq_false]at hf;refine⟨λp hp e=>?_,λp hp e=>?_⟩
 .have:=hf.1 p hp;simp[e]at this
 .have hd:∀(l:List Pr) (seen:List Nat),nX seen l=false->∀p∈l,p.l ∉ seen:=by
   intro l;induction l with
   |nil=>intro seen _ p hp;simp at hp
   |cons q r ih =>
    intro seen h p hp;unfold nX at h;split at h
    .cases h
    .rename_i hq;rcases mem_cons.1 hp with rfl|hp
     .exact hq
     .exact λhm=>ih _ h p hp (mem_cons_of_mem _ hm)
  exact hd _ _ hf.2 p hp (by rw[e];exact mem_singleton.2 rfl)
end
theorem PY{l:List UInt8}(h:lJ l=0)(hv:(wQ (bN l)).vd=0){Q:CF->Prop}(hQ:QR (Ao (b7 l).nodes (b7 l).vars.length (fZ (bN l) bY)) Q)(Rc:dT (aG (fZ (bN l) bY))=false->Q (bz (sG (aG (fZ (bN l) bY)) (b7 l).vars.length))):AO Q (oS (b7 l).nodes (b7 l).vars.length (fZ (bN l) bY)):=by
 have hA:=ky h;obtain⟨c,hc⟩:∃c,c=Ao (b7 l).nodes (b7 l).vars.length (fZ (bN l) bY):=⟨_,rfl⟩;have fQ:c.nds=(b7 l).nodes:=by rw[hc];rfl
 have hS:Sf (oS (b7 l).nodes (b7 l).vars.length (fZ (bN l) bY)):=by
  have hv:(vU (b7 l).nodes (b7 l).vars.length (fZ (bN l) bY)).vd=0:=hv;unfold vU AM at hv;split at hv
  .cases hv
  .rename_i dW;refine⟨by simpa using dW,DG ?_⟩;apply Classical.byContradiction;intro h0;have hv:(if RS (oS (b7 l).nodes (b7 l).vars.length (fZ (bN l) bY)).wr=[] then 0 else 1)=0:=hv;rw[if_neg h0]at hv;cases hv
 unfold oS at hS ⊢;rw[<-hc]at hS hQ ⊢;have h0:=zR (b7 l).nodes;have nC:(b7 l).nodes.length-1<(b7 l).nodes.length:=by have:=hA.p;omega
 have hE:gZ (b7 l).nodes.length (dL c 4000 (b7 l).vars.length (fZ (bN l) bY) (jH (b7 l).nodes))/\(Sf (dL c 4000 (b7 l).vars.length (fZ (bN l) bY) (jH (b7 l).nodes))->AO Q (dL c 4000 (b7 l).vars.length (fZ (bN l) bY) (jH (b7 l).nodes))):=by
  have oq:AO Q (jH (b7 l).nodes):=λn e he=>by rw[Fj]at he;simp at he
  unfold dL;split
  .exact⟨h0,λ_=>oq⟩
  .rename_i lF;have Ws:dT (aG (fZ (bN l) bY))=false:=(by simpa using lF);have fs:=gy (jA hA.a.tm Ws) (b7 l).vars.length;rw[fQ];obtain⟨-,k2,-⟩:=nR (c:=c) (fuel:=4000) (a:=(b7 l).nodes.length-1) (b:=0) fs.tidy h0 nC hA.p;refine⟨k2,λhS=>?_⟩;obtain⟨-,e⟩:=yp fs.tidy h0 nC hA.p hS;rw[e];exact Hh hQ (by rw[h0.kn];exact hA.p) fs.td (Rc Ws) oq
 obtain⟨r1,-,-⟩:=mM (c:=c) (fuel:=4000) (by rw[fQ]) (by rw[fQ];exact hA.n) 1000000 hE.1;exact PV hQ (by rw[fQ]) (by rw[fQ];exact hA.n) 1000000 hE.1 hS (hE.2 (r1.sf hS))
theorem PX{l:List UInt8}(h:lJ l=0)(hv:(wQ (bN l)).vd=0):AO gg (oS (b7 l).nodes (b7 l).vars.length (fZ (bN l) bY)):=by
 have hA:=ky h;exact PY h hv (aay hA.n) (λWs=>(aax Ws _).td (gy (jA hA.a.tm Ws) (b7 l).vars.length))
def rx(nv:Nat)(f:CF):Prop:=∀i,nv<=i->i<4->f.cl.getD (1+i) 0=f.cl.getD 0 0
section
variable {nv:Nat} {f g:CF} {c:Cd}
theorem rx.eq(h:rx nv f)(e:g.cl=f.cl):rx nv g:=by unfold rx;rw[e];exact h
theorem rx.map(h5:f.cl.length=5)(h:rx nv f){k:Nat->Nat}(e:g.cl=f.cl.map k):rx nv g:=λi hi h4=>by
 have hg:∀j,j<5->(f.cl.map k).getD j 0=k (f.cl.getD j 0):=λj hj=>by simp[getD_eq_getElem?_getD,getElem?_eq_getElem (show j<f.cl.length by omega)]
 rw[e,hg _ (by omega),hg 0 (by omega),h i hi h4]
theorem rx.td(hk:am f)(h:rx nv f):rx nv (bz f):=h.map hk.c5 (k:=λc=>(eF (my f)).idxOf c) (by have e:(bz f).cl=(jJ (my f)).map (λc=>(eF (my f)).idxOf c):=rfl;rw[e,pf (f:=my f) hk.c5];rfl)
theorem rx.set(h:rx nv f){v x:Nat}(hv:v<nv):rx nv (setC f (1+v) x):=λi hi h4=>by
 have hg:∀j,1+v≠j->(setC f (1+v) x).cl.getD j 0=f.cl.getD j 0:=λj hj=>by
  show(f.cl.set (1+v) x).getD j 0=_;rw[getD_eq_getElem?_getD,getElem?_set_ne hj,<-getD_eq_getElem?_getD]
 rw[hg _ (by omega),hg 0 (by omega),h i hi h4]
theorem xq:∀(n:Nat) (f:CF),(fX n f).cl=f.cl
 |0,_=>rfl
 |n+1,f=>by
  unfold fX;split
  .rfl
  .rw[xq n];rfl
theorem Ig:∀(l:List Pr) (x:Nat) (h:CF),(l.foldl (λh p=>cC h x p.l) h).cl=h.cl
 |[],_,_=>rfl
 |p::l,x,h=>by rw[foldl_cons,Ig l x];rfl
theorem ad6{x:Nat}(hg:g∈(lD f x).1):g.cl=f.cl:=by
 unfold lD at hg;split at hg
 .simp at hg
 .unfold MV at hg;split at hg
  .rw[mem_singleton.1 hg]
  .split at hg
   .rw[mem_singleton.1 hg];rfl
   .rcases mem_cons.1 hg with rfl|hg
    .rfl
    .rw[mem_singleton.1 hg];rfl
theorem Su{nd:Nd}(hk:am f)(hv:¬ X0 nd->nd.v<nv)(yZ:nd.v<4)(ha:nd.ai<4)(h:rx nv f)(cnu:(b8 nd f).nu=false)(cda:(b8 nd f).da=false):(∀x∈(b8 nd f).nx,rx nv x)/\∀x∈(b8 nd f).ot,rx nv x:=by
 have opn:∀{w:Nat} {G:CF->CF},w<4->(fC f w).2.1=false->(fC f w).2.2.1=false->(∀x,am x->rx nv x->∀j,cR x.ow (x.cl.getD (1+w) 0)=some j->am (G x)/\rx nv (G x))->∀x∈(fC f w).1.map (λx=>bz (G x)),rx nv x:=by
  intro w G hw g1 g2 hG x hx;obtain⟨y,hy,rfl⟩:=mem_map.1 hx;have Re:=iU (N:=f.ap.length) hw hk (zq4 _) _ hy;have TP:rx nv y:=by
   unfold fC at g1 g2 hy;by_cases e0:f.cl.getD (1+w) 0=f.cl.getD 0 0
   .rw[if_pos e0]at g1;cases g1
   .rw[if_neg e0]at g1 g2 hy;by_cases eb:(cR f.ow (f.cl.getD (1+w) 0)).isSome=true
    .rw[if_pos eb]at hy;exact h.eq (ad6 hy)
    .rw[if_neg eb]at g2;cases g2
  obtain⟨j,hj⟩:=Option.isSome_iff_exists.1 Re.bg;obtain⟨k1,k2⟩:=hG y Re.ok TP j hj;exact k2.td k1
 have Do:=h.td hk;have kj:(∀x∈(jM f nd).1,rx nv x)/\∀x∈(jM f nd).2,rx nv x:=by
  unfold jM;simp only;refine⟨λx hx=>?_,λx hx=>?_⟩
  .split at hx
   .simp at hx
   .rename_i hd;have hd:dS f (f.cl.getD (1+nd.v) 0) (nV f nd.ak nd.ai)=false:=(by simpa using hd);rw[mem_singleton.1 hx];exact(h.map hk.c5 rfl).td (hk.jo (hk.get _) (gi hd))
  .split at hx
   .simp at hx
   .rename_i aJ;rw[mem_singleton.1 hx];exact(h.eq (g:=cC f _ _) rfl).td (hk.pa (hk.get _) (hk.cT _ _))
 unfold X0 at hv;unfold b8 at cnu cda ⊢;by_cases o0:nd.op=0
 .rw[if_pos o0];exact⟨by simp[uF],by simp[uF]⟩
 rw[if_neg o0]at cnu cda ⊢;by_cases o1:nd.op=1
 .rw[if_pos o1];exact⟨λx hx=>by rw[mem_singleton.1 hx];exact(h.set (hv (by omega))).td (hk.sC _ (hk.cT _ _)),by simp⟩
 rw[if_neg o1]at cnu cda ⊢;by_cases o2:nd.op=2
 .rw[if_pos o2]at cnu cda ⊢;exact⟨opn ha cnu cda (λx k1 k2 j _=>⟨by unfold gG;exact k1.sC _ (k1.oA _).2,by unfold gG;exact k2.set (hv (by omega))⟩),by simp[br]⟩
 rw[if_neg o2]at cnu cda ⊢;by_cases o3:nd.op=3
 .rw[if_pos o3]at cnu cda ⊢;exact⟨opn yZ cnu cda (λx k1 k2 j hj=>⟨by unfold qX;exact k1.sO (λ_=>rfl) (k1.cT _ _) (k1.oA _).1,k2.eq rfl⟩),by simp[br]⟩
 rw[if_neg o3]at cnu cda ⊢;by_cases o4:nd.op=4
 .rw[if_pos o4];split
  .exact⟨by simp,by simp⟩
  .rename_i hn;exact⟨λx hx=>by rw[mem_singleton.1 hx];exact(rx.set (f:=qW f _) (h.eq rfl) (hv (by omega))).td (qB hk (by omega)),by simp⟩
 rw[if_neg o4]at cnu cda ⊢;by_cases o5:nd.op=5
 .rw[if_pos o5]at cnu cda ⊢;exact⟨opn yZ cnu cda (λx k1 k2 j hj=>⟨(qL (N:=x.ap.length) ⟨k1,zq4 _,by rw[hj];rfl⟩).1,k2.eq (by unfold qK;simp only;rw[Ig];rfl)⟩),by simp[br]⟩
 rw[if_neg o5];by_cases o7:nd.op=7
 .rw[if_pos o7];exact⟨λx hx=>by rw[mem_singleton.1 hx];exact Do,λx hx=>by rw[mem_singleton.1 hx];exact Do⟩
 rw[if_neg o7];by_cases o8:nd.op=8
 .rw[if_pos o8];exact kj
 rw[if_neg o8];by_cases o9:nd.op=9
 .rw[if_pos o9];exact⟨kj.2,kj.1⟩
 rw[if_neg o9];exact⟨λx hx=>by rw[mem_singleton.1 hx];exact Do,by simp⟩
theorem abs(hN:NdS c.nds nv):QR c (rx nv):=⟨λn _ hf h a b=>Su hf.ok (hN.v n) (hN.o.v n).1 (hN.o.v n).2 h a b,λf hf h=>(h.eq (xq _ f)).td (gH _ hf).1⟩
theorem Sy(f:CF)(nv:Nat):rx nv (sG f nv):=λi hi h4=>by
 have hg:∀j,j<5->(sG f nv).cl.getD j 0=if nv<j then f.cl.getD 0 0 else f.cl.getD j 0:=λj hj=>by
  show((range 5).map (λi=>if nv<i then f.cl.getD 0 0 else f.cl.getD i 0)).getD j 0=_;simp[getD_eq_getElem?_getD,hj]
 rw[hg _ (by omega),hg 0 (by omega),if_pos (by omega),if_neg (by omega)]
end
theorem PZ{l:List UInt8}(h:lJ l=0)(hv:(wQ (bN l)).vd=0):AO (rx (b7 l).vars.length) (oS (b7 l).nodes (b7 l).vars.length (fZ (bN l) bY)):=by
 have hA:=ky h;exact PY h hv (abs (aaV h)) (λWs=>(Sy _ _).td (gy (jA hA.a.tm Ws) (b7 l).vars.length))
def GL(s s':PS):Prop:=mS s s'/\(oP s->oP s')
theorem GL.refl(s:PS):GL s s:=⟨mS.refl s,id⟩
theorem GL.trans{a b c:PS}(h:GL a b)(k:GL b c):GL a c:=⟨h.1.trans k.1,λx=>k.2 (h.2 x)⟩
theorem GL.same{s s':PS}(hv:s'.vars=s.vars)(hh:s'.hid=s.hid):GL s s':=⟨⟨by rw[hv];exact prefix_refl _,by rw[hh];exact prefix_refl _⟩,λh=>⟨by rw[hv];exact h.nv,by rw[hh];exact h.nh,by rw[hv];exact h.lv,by rw[hh];exact h.lh⟩⟩
section
variable {ws:List ByteArray}
theorem kY(k:ByteArray)(s:PS):GL s (bp ws k s):=⟨n9 ws k s,qZ⟩
theorem Gz(s:PS):GL s (cn ws s):=⟨M8 ws s,O0⟩
theorem yI(s:PS):GL s (cO ws s):=⟨GC ws s,Hq⟩
theorem nZ(s:PS):GL s s.adv:=GL.same rfl rfl
theorem Ef(nd:Nd)(s:PS):GL s (dR nd s):=GL.same rfl rfl
theorem YC(s:PS):GL s (Aq ws s):=by unfold Aq;split;exact nZ s;exact kY _ s
theorem aed(s:PS):GL s (tO ws s):=by
 unfold tO;split
 .exact nZ s
 .exact((Gz s).trans (YC _)).trans (yI _)
theorem V5(s:PS):GL s (jx ws s):=by
 unfold jx K7;exact(((kY _ s).trans (aed _)).trans (kY _ _)).trans (Ef _ _)
theorem aea(s:PS):GL s (rW ws s):=by
 unfold rW;split
 .exact nZ s
 .split
  .exact((yI s).trans (nZ _)).trans (kY _ _)
  .exact yI s
theorem aeh(s:PS):GL s (mq ws s):=by
 unfold mq;split
 .exact nZ s
 .split
  .exact(nZ s).trans (Gz _)
  .split
   .unfold Dv;exact((((Gz s).trans (nZ _)).trans (kY _ _)).trans (kY _ _)).trans (yI _)
   .exact((Gz s).trans (kY _ _)).trans (aea _)
theorem aeg(s:PS):GL s (Iw ws s):=by
 unfold Iw;exact((aeh s).trans (kY _ _)).trans (Ef _ _)
theorem aeb{blk:PS->PS}(hb:∀s,GL s (blk s))(s:PS):GL s (F8 blk ws s):=by
 have h1:GL s (fP blk ws s):=by unfold fP;exact((kY _ s).trans (V5 _)).trans (hb _)
 unfold F8;split
 .refine h1.trans (GL.trans (b:=sE s.nodes.length (fP blk ws s)) (GL.same rfl rfl) ((hb _).trans (GL.same rfl rfl)))
 .exact h1.trans (GL.same rfl rfl)
theorem aee{blk:PS->PS}(hb:∀s,GL s (blk s))(s:PS):GL s (Cl blk ws s):=by
 have h1:GL s (rP blk ws s):=by unfold rP;exact((kY _ s).trans (V5 _)).trans (hb _)
 exact h1.trans (GL.same rfl rfl)
theorem aec{blk:PS->PS}(hb:∀s,GL s (blk s))(s:PS):GL s (tM blk ws s):=by
 unfold tM;split
 .exact aeb hb s
 .split
  .exact aee hb s
  .exact aeg s
theorem M7{c:PS->PS}(hc:∀s,GL s (c s)):∀n s,GL s (mX c ws n s)
 |0,s=>GL.refl s
 |n+1,s=>by
  show GL s (if _ then s else mX c ws n (c s));split
  .exact GL.refl s
  .exact(hc s).trans (M7 hc n _)
theorem V4:∀f s,GL s (DS ws f s)
 |0,s=>GL.refl s
 |f+1,s=>((kY _ s).trans (M7 (aec (V4 f)) _ _)).trans (kY _ _)
theorem aef(s:PS):GL (po ws (bp ws m8 s)) (lu ws s):=by
 have h1:GL (po ws (bp ws m8 s)) (Pz ws s):=(V4 _ _).trans (Ef _ _);unfold lu;split
 .exact h1
 .exact h1.trans (GL.same rfl rfl)
theorem T7:oP bY:=⟨nodup_nil,nodup_nil,λc hc=>(by cases hc),λc hc=>(by cases hc)⟩
theorem aah:oP (lu ws bY):=(aef bY).2 (OY (qZ T7))
end
def UR(c:UInt8):Bool:=gq c.toNat
def shU(k:Nat)(c:UInt8):UInt8:=UInt8.ofNat (97+(c.toNat-97+k)%26)
theorem US{c:UInt8}:UR c=true↔97<=c.toNat/\c.toNat<=122:=by
 unfold UR gq;rw[Bool.and_eq_true,decide_eq_true_eq,decide_eq_true_eq];omega
theorem UN(k:Nat)(c:UInt8):(shU k c).toNat=97+(c.toNat-97+k)%26:=by
 unfold shU;have:(c.toNat-97+k)%26<26:=Nat.mod_lt _ (by omega);rw[UInt8.toNat_ofNat'];exact Nat.mod_eq_of_lt (by omega)
theorem abg(k:Nat)(c:UInt8):UR (shU k c)=true:=by
 rw[US,UN];have:(c.toNat-97+k)%26<26:=Nat.mod_lt _ (by omega);omega
def rnL(k:Nat)(f:Bool)(x:List UInt8):List UInt8 :=
 match x with
 |[c]=>if UR c&&!f then [shU k c] else [c]
 |x=>x
def rnW(k:Nat):Bool->List (List UInt8)->List (List UInt8)
 |_,[]=>[]
 |f,x::r=>rnL k f x::rnW k (decide (x=[46])) r
def rnB(k:Nat)(ws:List ByteArray):List ByteArray:=(rnW k false (ws.map (·.data.toList))).map (λx=>⟨x.toArray⟩)
def rnS(k:Nat)(s:PS):PS:={ s with vars:=s.vars.map (shU k) }
theorem Iu(k:Nat):∀(L:List (List UInt8)) (f:Bool) (i:Nat),(rnW k f L)[i]?=(L[i]?).map (rnL k (if i=0 then f else decide (L[i-1]?=some [46])))
 |[],f,i=>by simp[rnW]
 |x::r,f,0=>by simp[rnW]
 |x::r,f,i+1=>by
  simp only[rnW,getElem?_cons_succ];rw[Iu k r];cases i with
  |zero=>simp
  |succ i=>simp
def ptB(ws:List ByteArray)(s:PS):Bool:=if s.pos=0 then false else decide ((ws.map (·.data.toList))[s.pos-1]?=some [46])
theorem agZ(k:Nat)(ws:List ByteArray)(s:PS):(pk (rnB k ws) (rnS k s)).data.toList=rnL k (ptB ws s) (pk ws s).data.toList:=by
 unfold pk;rw[show(rnS k s).failed=s.failed from rfl,show(rnS k s).pos=s.pos from rfl];split
 .rfl
 .unfold rnB;rw[getElem?_map,Iu];unfold ptB;rw[show(List.map (λx:ByteArray=>x.data.toList) ws)[s.pos]?=(ws[s.pos]?).map (λx:ByteArray=>x.data.toList) from getElem?_map ..];cases hw:ws[s.pos]? with
  |none=>rfl
  |some x=>rfl
theorem UI{k:Nat}{f:Bool}{x key:List UInt8}(hk:∀c,key=[c]->UR c=false):rnL k f x=key↔x=key:=by
 unfold rnL;split
 .rename_i c;split
  .rename_i h;have hc:UR c=true:=(by rw[Bool.and_eq_true]at h;exact h.1);constructor
   .intro e;have:=hk _ e.symm;rw[abg]at this;cases this
   .intro e;have:=hk _ e.symm;rw[hc]at this;cases this
  .exact Iff.rfl
 .exact Iff.rfl
def Key(w:ByteArray):Prop:=(∀c,w.data.toList=[c]->UR c=false)/\w.data.toList≠[46]
section
variable {k:Nat} {ws:List ByteArray} {s:PS}
theorem FO{key:ByteArray}:cL ws key s=true↔(pk ws s).data.toList=key.data.toList:=by
 unfold cL;rw[beq_iff_eq,ByteArray.toList_eq,ByteArray.toList_eq]
theorem X4{key:ByteArray}(hk:∀c,key.data.toList=[c]->UR c=false):cL (rnB k ws) key (rnS k s)=cL ws key s:=by
 rw[Bool.eq_iff_iff,FO,FO,agZ,UI hk]
structure RnI(ws:List ByteArray)(s:PS):Prop where
 nd:s.failed=true\/ptB ws s=false
 sv:∀c∈s.vars,UR c=true
def Z7(w:ByteArray):Bool:=(match w.data.toList with|[c]=>!UR c|_=>true)&&!(w.data.toList==[46])&&!(w.data.toList==[])
theorem Z8{w:ByteArray}(h:Z7 w=true):Key w/\w.data.toList≠[]:=by
 unfold Z7 at h;rw[Bool.and_eq_true,Bool.and_eq_true]at h;obtain⟨⟨h1,h2⟩,h3⟩:=h;refine⟨⟨λc hc=>?_,λe=>?_⟩,λe=>?_⟩
 .rw[hc]at h1;simpa using h1
 .rw[e]at h2;exact absurd h2 (by decide)
 .rw[e]at h3;exact absurd h3 (by decide)
theorem ke{key:ByteArray}(hk:Z7 key=true):cL (rnB k ws) key (rnS k s)=cL ws key s:=X4 (Z8 hk).1.1
def Sb(k:Nat)(ws:List ByteArray)(b' b:PS->PS):Prop:=∀s,RnI ws s->b' (rnS k s)=rnS k (b s)/\RnI ws (b s)
variable {b' b:PS->PS}
end
theorem mz{α:Type}{g:List UInt8->α->List UInt8}(h:∀t x,(g t x).length<=t.length+20):∀(l:List α) (t:List UInt8),(l.foldl g t).length<=t.length+20*l.length
 |[],_=>by simp
 |a::l,t=>by
  rw[foldl_cons];have h1:=mz h l (g t a);have h2:=h t a;rw[length_cons];omega
theorem Vj{vs:List UInt8}{f:CF}(hT:Td f)(hv:vs.length<=4):(qe vs f).length<=20000:=by
 have hN:=Hz vs f;have h1:=mz (g:=Fx vs f (dx vs f)) (λt i=>by
  unfold Fx;split
  .omega
  .have:=fN t (lC [vs.getD i 0] ((dx vs f).getD (f.cl.getD (1+i) 0) []));have:=hN.2 (f.cl.getD (1+i) 0);have h9:(lC [vs.getD i 0] ((dx vs f).getD (f.cl.getD (1+i) 0) [])).length<=7:=(by unfold lC;simp only[length_append,length_cons,length_nil];omega);omega) (range vs.length) []
 have h2:=mz (g:=KB (dx vs f)) (λt p=>by
  unfold KB;have:=fN t (K8 ((dx vs f).getD p.l []) ((dx vs f).getD p.r []));have:=IR ((dx vs f).getD p.l []) ((dx vs f).getD p.r []);have:=hN.2 p.l;have:=hN.2 p.r;omega) f.ap ((range vs.length).foldl (Fx vs f (dx vs f)) [])
 have h3:=mz (g:=KC (dx vs f)) (λt p=>by
  unfold KC;have a1:=hN.2 p.l;have a2:=hN.2 p.r;split
  .have:=fN t (Ho ((dx vs f).getD p.l []) ((dx vs f).getD p.r []));have h9:(Ho ((dx vs f).getD p.l []) ((dx vs f).getD p.r [])).length<=11:=(by unfold Ho;simp only[length_append,length_cons,length_nil];omega);omega
  .have:=fN t (Jg ((dx vs f).getD p.l []) ((dx vs f).getD p.r []));have h9:(Jg ((dx vs f).getD p.l []) ((dx vs f).getD p.r [])).length<=10:=(by unfold Jg;simp only[length_append,length_cons,length_nil];omega);omega) f.ow (f.ap.foldl (KB (dx vs f)) ((range vs.length).foldl (Fx vs f (dx vs f)) []))
 have h4:=hT.ln;have h5:=hT.ok.owLen;rw[length_range,length_nil]at h1;unfold qe;split
 .simp
 .unfold wr3;omega
theorem adU{ps:PS}{al:List bC}(h:An ps al):∀l∈(vU ps.nodes ps.vars.length al).kn,∀f∈l,Td f:=by
 unfold vU AM;split
 .intro l hl;simp at hl
 .intro l hl f hf;obtain⟨x,hx,rfl⟩:=mem_map.1 (show l∈(oS ps.nodes ps.vars.length al).kn.map (λl=>l.map (·.f)) from hl);obtain⟨e,he,rfl⟩:=mem_map.1 hf;exact(VQ h).2 x hx e he
theorem BB{α:Type}{l:List (List α)}{n:Nat}{x:α}(h:x∈l.getD n []):∃y∈l,x∈y:=by
 rw[getD_eq_getElem?_getD]at h;cases hg:l[n]? with
 |none=>rw[hg]at h;simp at h
 |some y=>rw[hg]at h;exact⟨y,mem_of_getElem? hg,h⟩
theorem Z5{ws:List ByteArray}(hA:AnW ws)(z:Int):(rM (lu ws bY).vars (wQ ws) z).length<=1000000000001/\∀t∈rM (lu ws bY).vars (wQ ws) z,t.length<=20000:=by
 unfold rM ivL;split
 .exact⟨by simp,by simp⟩
 .refine⟨?_,λt ht=>?_⟩
  .rw[length_map,getD_eq_getElem?_getD];cases hg:(wQ ws).kn[z.toNat]? with
   |none=>simp
   |some y=>exact AY hA y (mem_of_getElem? hg)
  .obtain⟨f,hf,rfl⟩:=mem_map.1 ht;obtain⟨y,hy,Zl⟩:=BB hf;exact Vj (adU hA y hy f Zl) hA.v
theorem Kr{l:List UInt8}(h:lJ l=0)(hv:(wQ (bN l)).vd=0)(z:Int):∀t∈rM (lu (bN l) bY).vars (wQ (bN l)) z,wZ t t=(true,0)\/wZ t t=(false,1)\/wZ t t=(false,4):=by
 intro t ht;unfold rM at ht;obtain⟨f,hf,rfl⟩:=mem_map.1 ht;have hk:∃n,∃e∈bh (oS (b7 l).nodes (b7 l).vars.length (fZ (bN l) bY)) n,e.f=f:=by
  unfold ivL at hf;split at hf
  .simp at hf
  .obtain⟨y,hy,Zl⟩:=BB hf;have hy:y∈(AM (oS (b7 l).nodes (b7 l).vars.length (fZ (bN l) bY))).kn:=hy;unfold AM at hy;split at hy
   .simp at hy
   .obtain⟨x,hx,rfl⟩:=mem_map.1 (show y∈(oS (b7 l).nodes (b7 l).vars.length (fZ (bN l) bY)).kn.map (λl=>l.map (·.f)) from hy);obtain⟨e,he,rfl⟩:=mem_map.1 Zl;obtain⟨n,hn,rfl⟩:=mem_iff_getElem.1 hx;exact⟨n,e,by unfold bh;rw[getD_eq_getElem?_getD,getElem?_eq_getElem hn];exact he,rfl⟩
 obtain⟨n,e,he,rfl⟩:=hk;have hL:oP (lu (bN l) bY):=aah;have hF:am e.f:=((CJ (ky h) hv).1.td.at n e he).ok;exact Vl hL.nv hL.lv hF (PX h hv n e he) (PW h hv n e he) (PZ h hv n e he)
