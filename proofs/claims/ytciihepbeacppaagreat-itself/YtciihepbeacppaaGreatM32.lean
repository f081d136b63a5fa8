import Derived.Test.YtciihepbeacppaaGreatM29
namespace Go.Proofs.YtciihepbeacppaaGreat
open Go.RowKit List
set_option linter.unusedVariables false
def nN(ad nx:List Int)(s:Nat->Int)(f:CF):Prop:=∃val,XT ad nx val f/\∀i,i<5->val (f.cl.getD i 0)=s i
section
variable {ad nx:List Int} {s:Nat->Int} {f g:CF}
theorem LB{v v':Nat->Int}{g:Pr->Pr}:∀{l:List Pr} {fr:List Bool},(∀p∈l,((g p).k≠4->p.k≠4)/\v' (g p).l=v p.l/\v' (g p).r=v p.r)->vT ad nx v l fr->vT ad nx v' (l.map g) fr
 |[],_,_,h=>h
 |p::r,fr,hg,h=>by
  obtain⟨q,fr',h1,h2,h3,h4⟩:=h;obtain⟨g1,g2,g3⟩:=hg p (by simp);refine⟨q,fr',by rw[g2,g3];exact h1,h2,λhk=>h3 (g1 hk),?_⟩;exact LB (λp hp=>hg p (by simp[hp])) h4
theorem nN.fg(h:nN ad nx s f):nN ad nx s (my f):=by
 obtain⟨val,h1,h2⟩:=h;exact⟨val,⟨h1.nl,λp hp=>h1.ap p (mem_filter.1 hp).1,h1.sp⟩,h2⟩
theorem lN(f:CF)(G:Nat->Nat){i:Nat}(hi:i<5):((jJ f).map G).getD i 0=G (f.cl.getD i 0):=by
 have:i=0\/i=1\/i=2\/i=3\/i=4:=by omega
 rcases this with rfl|rfl|rfl|rfl|rfl <;> rfl
theorem nN.rn(hk:am f)(hl:∀p∈f.ap,p.l∈db f/\p.r∈db f)(h:nN ad nx s f):nN ad nx s (uQ f):=by
 obtain⟨val,h1,h2⟩:=h;have dX:=j8 hk.ow hk.cl hk.lf;have hv:∀c,c∈db f->val ((eF f).getD ((eF f).idxOf c) 0)=val c:=λc hc=>by
  have hm:=dX c hc;rw[getD_eq_getElem?_getD,getElem?_eq_getElem (idxOf_lt_length_iff.2 hm)];simp
 have du:∀i,i<5->f.cl.getD i 0∈db f:=λi hi=>mem_append_left _ (eI hi);refine⟨λn=>val ((eF f).getD n 0),⟨?_,λp hp=>?_,?_⟩,λi hi=>?_⟩
 .show val ((eF f).getD ((uQ f).cl.getD 0 0) 0)=0;have e:(uQ f).cl.getD 0 0=(eF f).idxOf (f.cl.getD 0 0):=lN f (λc=>(eF f).idxOf c) (i:=0) (by omega);rw[e,hv _ (du 0 (by omega))];exact h1.nl
 .obtain⟨q,hq,rfl⟩:=mem_map.1 (show p∈f.ap.map (qs (eF f)) from hp);obtain⟨g1,g2⟩:=hl q hq;show val ((eF f).getD ((eF f).idxOf q.l) 0)≠val ((eF f).getD ((eF f).idxOf q.r) 0);rw[hv _ g1,hv _ g2];exact h1.ap q hq
 .show vT ad nx _ (f.ow.map (qs (eF f))) _;refine LB (λp hp=>⟨λh=>h,hv _ ?_,hv _ ?_⟩) h1.sp
  .exact mem_append_right _ (mem_flatMap.2 ⟨p,hp,by simp⟩)
  .exact mem_append_right _ (mem_flatMap.2 ⟨p,hp,by simp⟩)
 .show val ((eF f).getD ((uQ f).cl.getD i 0) 0)=s i;have e:(uQ f).cl.getD i 0=(eF f).idxOf (f.cl.getD i 0):=lN f (λc=>(eF f).idxOf c) hi;rw[e,hv _ (du i hi)];exact h2 i hi
theorem nN.or(hk:am f)(h:nN ad nx s f):nN ad nx s (orF f):=by
 obtain⟨val,h1,h2⟩:=h;refine⟨val,⟨h1.nl,λp hp=>?_,tH (CO hk.lf).symm h1.sp⟩,h2⟩;obtain⟨q,hq,rfl⟩:=mem_map.1 (gC.1 (show p∈lK (f.ap.map jw) from hp));have:=h1.ap q hq;unfold jw;split
 .exact this.symm
 .exact this
theorem nN.td(hk:am f)(h:nN ad nx s f):nN ad nx s (bz f):=nN.or (hk.fg.rn (λ_ hp=>kG hp)) (nN.rn hk.fg (λ_ hp=>kG hp) h.fg)
theorem nN.within(hd:ad.Nodup)(hp:∀v∈ad,0<v)(hg:am g)(hw:zZ f g=true)(h:nN ad nx s f):nN ad nx s g:=by
 obtain⟨val,h1,h2⟩:=h;unfold zZ at hw;rw[Bool.and_eq_true]at hw;obtain⟨-,hw⟩:=hw;cases jm:rC f g [0,1,2,3,4] (replicate 24 none) with
 |none=>rw[jm]at hw;cases hw
 |some an =>
  rw[jm]at hw;obtain⟨g1,_,g3,g4⟩:=Bl (λi _=>hg.get i) (by decide) (by simp) jm;obtain⟨sv,k1,k2,k3⟩:=SJ h1 hd hp hg.ow g1 (st:=128) (s':=(xj f g an 128).2) (Prod.ext hw rfl);have hv:∀i,i<5->sv (g.cl.getD i 0)=s i:=λi hi=>by rw[k1 _ _ (g3 i (by simp;omega))];exact h2 i hi
  refine⟨sv,⟨?_,k2,k3⟩,hv⟩;rw[hv 0 (by omega),<-h2 0 (by omega)];exact h1.nl
theorem U4(g:Pr->Pr)(l:List Pr)(i k:Nat)(hk:k<=l.length):pZ (l.map g) i k=(pZ l i k).map g:=by
 unfold pZ;rw[map_map];apply map_congr_left;intro j hj;have hj2:=mem_range.1 (mem_filter.1 hj).1;have eu:j<l.length:=by omega
 simp[getD_eq_getElem?_getD,eu]
theorem IK(g:Pr->Pr)(l:List Pr)(i:Nat):rp (l.map g) i=(rp l i).map g:=by
 unfold rp;rw[length_map];exact U4 g l i l.length (zq4 _)
theorem E6(l:List Pr):(range l.length).map (λj=>l.getD j au)=l:=by
 apply ext_getElem
 .simp
 .intro i h1 h2;simp only[getElem_map,getElem_range];exact bK h2
theorem mr{l:List Pr}{i:Nat}(hi:i<l.length):l.Perm (l.getD i au::rp l i):=by
 have h1:(range l.length).Perm (i::(range l.length).filter (λj=>j != i)):=by
  have:=ji (p:=λ_=>true) (q:=λj=>j != i) (l:=range l.length) (i:=i) nodup_range (by simpa using hi) rfl (by simp) (λj hj=>by simpa using hj);rwa [filter_eq_self.2 (λ_ _=>rfl)]at this
 have h2:=h1.map (λj=>l.getD j au);rw[E6]at h2;exact h2
theorem wX{l:List Pr}{P:Pr->Bool}(h:l.countP P=1):∃q R,l.Perm (q::R)/\P q=true/\∀x∈R,P x=false:=by
 obtain⟨q,hq,hp⟩:=countP_pos_iff.1 (show 0<l.countP P by omega);obtain⟨a,b,rfl⟩:=append_of_mem hq;rw[countP_append,countP_cons,hp]at h;simp only[if_true]at h;refine⟨q,a++b,perm_middle,hp,λx hx=>?_⟩;have h0:(a++b).countP P=0:=by rw[countP_append];omega
 have:=countP_eq_zero.1 h0 x hx;simpa using this
theorem IC{p:Pr}(h:IB f p=true):nmB f p.l=false/\p.r≠p.l/\Da f.ow p.l=1:=by
 unfold IB at h;simp only[Bool.and_eq_true,Bool.not_eq_true',Bool.or_eq_false_iff,decide_eq_true_eq,decide_eq_false_iff_not]at h;exact⟨h.1.1,h.1.2,h.2⟩
theorem nN.fo1{k:Nat}(hs:Ff f=some k)(h:nN ad nx s f):nN ad nx s (qH f k):=by
 obtain⟨hk,hp⟩:k<f.ow.length/\IB f (f.ow.getD k au)=true:=by
  unfold Ff at hs;obtain⟨h1,h2,-⟩:=findIdx?_eq_some_iff_getElem.1 hs;exact⟨h1,by rw[bK h1];exact h2⟩
 obtain⟨val,h1,h2⟩:=h;obtain⟨p,wh⟩:∃p,p=f.ow.getD k au:=⟨_,rfl⟩;rw[<-wh]at hp;obtain⟨-,aJ,hc⟩:=IC hp;have uk:=mr hk;rw[<-wh]at uk;have r7:(rp f.ow k).countP (λq=>decide (q.r=p.l))=1:=by
  have:=uk.countP_eq (λq=>decide (q.r=p.l));unfold Da at hc;rw[hc,countP_cons,decide_eq_false aJ]at this;simpa using this.symm
 obtain⟨q,R,hqR,hq,hR⟩:=wX r7;have hq:q.r=p.l:=by simpa using hq
 have hR:∀x∈R,x.r≠p.l:=λx hx=>by simpa using hR x hx
 have hsp:vT ad nx val (q::p::R) (replicate ad.length true):=AT (tH (uk.trans (hqR.cons p)) h1.sp);refine⟨val,⟨h1.nl,h1.ap,?_⟩,h2⟩;show vT ad nx val (rp (f.ow.map (Go.Proofs.YtciihepbeacppaaGreat.fo1 (f.ow.getD k au).l (f.ow.getD k au).r)) k) _;rw[IK,<-wh];have ak6:((rp f.ow k).map (Go.Proofs.YtciihepbeacppaaGreat.fo1 p.l p.r)).Perm (⟨4,q.l,p.r⟩::R):=by
  have h3:=hqR.map (Go.Proofs.YtciihepbeacppaaGreat.fo1 p.l p.r);rw[map_cons]at h3;have e1:Go.Proofs.YtciihepbeacppaaGreat.fo1 p.l p.r q=⟨4,q.l,p.r⟩:=by unfold Go.Proofs.YtciihepbeacppaaGreat.fo1;rw[if_pos hq]
  have e2:R.map (Go.Proofs.YtciihepbeacppaaGreat.fo1 p.l p.r)=R:=by
   conv=>rhs;rw[<-map_id R]
   apply map_congr_left;intro x hx;unfold Go.Proofs.YtciihepbeacppaaGreat.fo1;rw[if_neg (hR x hx)];rfl
  rw[e1,e2]at h3;exact h3
 refine tH ak6.symm ?_;obtain⟨u,fr1,a1,a2,a3,v,fr2,b1,b2,b3,hr⟩:=hsp;rw[hq]at a1;exact⟨u++v,fr2,Iy a1 b1,by rw[vf,a2];exact b2,λh=>absurd rfl h,hr⟩
theorem nN.fold:∀(n:Nat) {f:CF},nN ad nx s f->nN ad nx s (fX n f)
 |0,_,h=>h
 |n+1,f,h=>by
  unfold fX;split
  .exact h
  .rename_i k hk;exact nN.fold n (h.fo1 hk)
theorem nN.fo(h:nN ad nx s f):nN ad nx s (Jq f):=h.fold _
end
def fO(F:CF):Prop:=∀B:Nat->Prop,(∀i,i<5->B (F.cl.getD i 0))->(∀p∈F.ow,B p.l->B p.r)->∀p∈F.ow,B p.l
structure Idt(F:CF)(s:SS)(count:Nat):Prop where
 b24:s.bd.length=24
 idn:∀c a,s.b c=some a->a=c
 nam:∀i,i<5->s.b (F.cl.getD i 0)=some (F.cl.getD i 0)
 otl:s.ot.length=F.ow.length
 pll:s.pl.length=F.ow.length
 fre:∀i,i<F.ow.length->s.pl.getD i false=false->s.ot.getD i none=none
 plc:∀i,i<F.ow.length->s.pl.getD i false=true->s.b (F.ow.getD i au).r=some (F.ow.getD i au).r
 cnt:(s.pl.countP id)=count
 un:s.un+count=F.ow.length
 st:(F.ow.length:Int)-count<=s.st/\s.st<=1000000
theorem yw{T:CF}{s:SS}:∀(l:List Nat) (o:Option Nat),(∃k∈l,s.pl.getD k false=false/\(s.b (T.ow.getD k au).l).isSome=true)->∃k∈l,KM T s l o=some k/\s.pl.getD k false=false/\(s.b (T.ow.getD k au).l).isSome=true
 |[],_,h=>by obtain⟨k,hk,-⟩:=h;simp at hk
 |j::l,o,h=>by
  unfold KM;by_cases h1:s.pl.getD j false=true
  .rw[if_pos h1];obtain⟨k,hk,h2,h3⟩:=h;rcases mem_cons.1 hk with rfl|hk
   .rw[h1]at h2;cases h2
   .obtain⟨k',g1,g2⟩:=yw l o ⟨k,hk,h2,h3⟩;exact⟨k',mem_cons_of_mem _ g1,g2⟩
  .rw[if_neg h1];by_cases h4:(s.b (T.ow.getD j au).l).isSome=true
   .rw[if_pos h4];exact⟨j,mem_cons_self,rfl,by simpa using h1,h4⟩
   .rw[if_neg h4];obtain⟨k,hk,h2,h3⟩:=h;rcases mem_cons.1 hk with rfl|hk
    .exact absurd h3 h4
    .obtain⟨k',g1,g2⟩:=yw l (if o.isSome=true then o else some j) ⟨k,hk,h2,h3⟩;exact⟨k',mem_cons_of_mem _ g1,g2⟩
section
variable {F:CF}
theorem Idt.next(hF:fO F){s:SS}{count:Nat}(h:Idt F s count)(hc:count<F.ow.length):∃k,k<F.ow.length/\VW F s=some k/\s.pl.getD k false=false/\s.b (F.ow.getD k au).l=some (F.ow.getD k au).l:=by
 have hex:∃k∈range s.pl.length,s.pl.getD k false=false/\(s.b (F.ow.getD k au).l).isSome=true:=by
  apply Classical.byContradiction;intro B7;have B7:∀k,k<F.ow.length->s.pl.getD k false=false->s.b (F.ow.getD k au).l=none:=λk hk hp=>by
   cases hb:s.b (F.ow.getD k au).l with
   |none=>rfl
   |some a=>exact absurd ⟨k,by rw[h.pll];simpa using hk,hp,by rw[hb];rfl⟩ B7
  have hB:=hF (λc=>s.b c≠none) (λi hi=>by rw[h.nam i hi];simp) (λp hp hl=>by
   obtain⟨i,hi,rfl⟩:=mem_iff_getElem.1 hp;have e:F.ow.getD i au=F.ow[i]:=bK hi;cases eE:s.pl.getD i false with
   |false =>
    have:=B7 i hi eE;rw[e]at this;exact absurd this hl
   |true =>
    have:=h.plc i hi eE;rw[e]at this;rw[this];simp)
  have dh:∀k,k<F.ow.length->s.pl.getD k false=true:=λk hk=>by
   cases eE:s.pl.getD k false with
   |true=>rfl
   |false=>exact absurd (B7 k hk eE) (hB _ (aZ hk))
  have Tq:s.pl.countP id=s.pl.length:=by
   rw[countP_eq_length];intro x hx;obtain⟨k,hk,rfl⟩:=mem_iff_getElem.1 hx;have:=dh k (by rw[<-h.pll];exact hk);rw[getD_eq_getElem?_getD,getElem?_eq_getElem hk]at this;exact this
  have:=h.cnt;have:=h.pll;omega
 obtain⟨k,g1,g2,g3,g4⟩:=yw (T:=F) (s:=s) (range s.pl.length) none hex;refine⟨k,by have:=mem_range.1 g1;rw[h.pll]at this;exact this,g2,g3,?_⟩;obtain⟨a,ha⟩:=Option.isSome_iff_exists.1 g4;rw[ha,h.idn _ _ ha]
theorem LY(hl:vt F.ow){k:Nat}(hk:k<F.ow.length):cR F.ow (F.ow.getD k au).l=some k:=by
 obtain⟨i,h1,h2⟩:=LX hl (aZ hk);obtain⟨h3,-⟩:=eO h1;have:i=k:=by
  have hn:=hl;unfold vt at hn;have e1:(F.ow.map (·.l))[i]?=some (F.ow.getD k au).l:=by rw[getElem?_map,getElem?_eq_getElem h3,<-bK h3,h2];rfl
  have e2:(F.ow.map (·.l))[k]?=some (F.ow.getD k au).l:=by rw[getElem?_map,getElem?_eq_getElem hk,<-bK hk];rfl
  exact(getElem?_inj (by rw[length_map];exact h3) hn).1 (e1.trans e2.symm)
 rw[h1,this]
theorem DY{l:List Bool}{k:Nat}(hk:k<l.length)(h:l.getD k false=false):(l.set k true).countP id=l.countP id+1:=by
 induction l generalizing k with
 |nil=>simp at hk
 |cons a l ih =>
  cases k with
  |zero =>
   have:a=false:=h;subst this;simp
  |succ k =>
   have:=ih (k:=k) (by simpa using hk) h;rw[set_cons_succ,countP_cons,countP_cons,this];omega
theorem RW(ha:∀p∈F.ap,p.l≠p.r){s:SS}(h:∀c a,s.b c=some a->a=c):DI F F s=true:=by
 unfold DI;rw[all_eq_true];intro p hp;have aJ:=ha p hp;rw[Bool.and_eq_true];refine⟨by simpa using aJ,?_⟩;split
 .rename_i a b h1 h2;rw[h _ _ h1,h _ _ h2];unfold dS;rw[if_neg aJ,Bool.or_eq_true];left;rw[any_eq_true];exact⟨p,hp,by simp⟩
 .rfl
theorem Bs(hF:fO F)(hl:vt F.ow)(hr:∀p∈F.ow,p.l<24/\p.r<24)(ha:∀p∈F.ap,p.l≠p.r):∀(n m count:Nat) (s:SS),count+n=F.ow.length->n<m->Idt F s count->(pP (wk F F m) F F s count).1=true
 |0,m,count,s,hn,hm,h=>by
  unfold pP;rw[if_pos (by omega)];have:s.un=0:=by have:=h.un;omega
  show(decide (s.un=0)&&DI F F s)=true;rw[this,RW ha h.idn];rfl
 |n+1,m,count,s,hn,hm,h=>by
  obtain⟨k,hk,h1,h2,h3⟩:=h.next hF (by omega);obtain⟨m,rfl⟩:∃m',m=m'+1:=⟨m-1,by omega⟩;unfold pP;rw[if_neg (by omega),if_neg (by have:=h.un;omega),h1];simp only;rw[h3];simp only;have aE:wrap64 (s.st-1)=s.st-1:=by
   have:=h.st;unfold wrap64;omega
  obtain⟨p,hp⟩:∃p,p=F.ow.getD k au:=⟨_,rfl⟩;have WG:p∈F.ow:=by rw[hp];exact aZ hk
  have hI:Idt F { s with st:=s.st-1,ot:=s.ot.set k (some k),un:=s.un-1,bd:=s.bd.set p.r (some p.r),pl:=s.pl.set k true } (count+1):=by
   have hb:∀c,({ s with st:=s.st-1,ot:=s.ot.set k (some k),un:=s.un-1,bd:=s.bd.set p.r (some p.r),pl:=s.pl.set k true }:SS).b c=if p.r=c then some p.r else s.b c:=λc=>aU _ _ _ _ _ (by rw[h.b24];exact(hr p WG).2)
   have eE:∀i,(s.pl.set k true).getD i false=if k=i then true else s.pl.getD i false:=λi=>aU _ _ _ _ _ (by rw[h.pll];exact hk)
   refine⟨by show(s.bd.set _ _).length=24;rw[length_set];exact h.b24,λc a hc=>?_,λi hi=>?_,by show(s.ot.set _ _).length=_;rw[length_set];exact h.otl,by show(s.pl.set _ _).length=_;rw[length_set];exact h.pll,λi hi hf=>?_,λi hi ht=>?_,?_,?_,?_⟩
   .rw[hb]at hc;by_cases e:p.r=c
    .rw[if_pos e]at hc;injection hc with hc;rw[<-hc,e]
    .rw[if_neg e]at hc;exact h.idn c a hc
   .rw[hb];by_cases e:p.r=F.cl.getD i 0
    .rw[if_pos e,e]
    .rw[if_neg e];exact h.nam i hi
   .have hf:(s.pl.set k true).getD i false=false:=hf;rw[eE]at hf;by_cases e:k=i
    .rw[if_pos e]at hf;cases hf
    .rw[if_neg e]at hf;show(s.ot.set k (some k)).getD i none=none;rw[aU _ _ _ _ _ (by rw[h.otl];exact hk),if_neg e];exact h.fre i hi hf
   .have ht:(s.pl.set k true).getD i false=true:=ht;rw[eE]at ht;rw[hb];by_cases e:k=i
    .rw[<-e,<-hp,if_pos rfl]
    .rw[if_neg e]at ht;by_cases e2:p.r=(F.ow.getD i au).r
     .rw[if_pos e2,e2]
     .rw[if_neg e2];exact h.plc i hi ht
   .show(s.pl.set k true).countP id=count+1;rw[DY (by rw[h.pll];exact hk) h2,h.cnt]
   .show s.un-1+(count+1)=_;have:=h.un;omega
   .show(F.ow.length:Int)-((count+1:Nat):Int)<=s.st-1/\s.st-1<=1000000;have:=h.st;omega
  have ih:=Bs hF hl hr ha n m (count+1) _ (by omega) (by omega) hI;rw[wk];rw[aE,if_neg (by have:=h.st;omega),LY hl hk];simp only;rw[if_neg (by rw[h.fre k hk h2];simp),if_neg (λhh=>hh.1 hh.2)];rw[<-hp];have hen:yB (pP (wk F F m) F F) F { s with st:=s.st-1,ot:=s.ot.set k (some k),un:=s.un-1 } k p.r count=(true,(pP (wk F F m) F F { s with st:=s.st-1,ot:=s.ot.set k (some k),un:=s.un-1,bd:=s.bd.set p.r (some p.r),pl:=s.pl.set k true } (count+1)).2):=by
   unfold yB;rw[<-hp,if_neg]
   .have e:pP (wk F F m) F F { s with st:=s.st-1,ot:=s.ot.set k (some k),un:=s.un-1,bd:=s.bd.set p.r (some p.r),pl:=s.pl.set k true } (count+1)=(true,(pP (wk F F m) F F { s with st:=s.st-1,ot:=s.ot.set k (some k),un:=s.un-1,bd:=s.bd.set p.r (some p.r),pl:=s.pl.set k true } (count+1)).2):=Prod.ext ih rfl;simp only;rw[e]
   .rintro⟨g1,g2⟩;have g1:s.b p.r≠none:=g1;have g2:s.b p.r≠some p.r:=g2;cases hb:s.b p.r with
    |none=>exact g1 hb
    |some a=>exact g2 (by rw[hb,h.idn _ _ hb])
  rw[hen]
theorem Bj(h5:∀i,i<5->F.cl.getD i 0<24):∀(is:List Nat) (an:List (Option Nat)),(∀i∈is,i<5)->an.length=24->(∀c a,an.getD c none=some a->a=c) ->
  ∃an',rC F F is an=some an'/\an'.length=24/\(∀c a,an'.getD c none=some a->a=c)/\(∀c,an.getD c none=some c->an'.getD c none=some c)/\∀i∈is,an'.getD (F.cl.getD i 0) none=some (F.cl.getD i 0)
 |[],an,_,h1,h2=>⟨an,rfl,h1,h2,λ_ h=>h,λi hi=>by simp at hi⟩
 |i::is,an,hi,h1,h2=>by
  have cf:∀c,(an.set (F.cl.getD i 0) (some (F.cl.getD i 0))).getD c none=if F.cl.getD i 0=c then some (F.cl.getD i 0) else an.getD c none:=λc=>aU _ _ _ _ _ (by rw[h1];exact h5 i (hi i (by simp)))
  obtain⟨an',g1,g2,g3,g4,g5⟩:=Bj h5 is (an.set (F.cl.getD i 0) (some (F.cl.getD i 0))) (λj hj=>hi j (by simp[hj])) (by rw[length_set];exact h1) (λc a hc=>by
   rw[cf]at hc;by_cases e:F.cl.getD i 0=c
   .rw[if_pos e]at hc;injection hc with hc;rw[<-hc,e]
   .rw[if_neg e]at hc;exact h2 c a hc)
  refine⟨an',?_,g2,g3,λc hc=>g4 c ?_,λj hj=>?_⟩
  .unfold rC;rw[if_neg]
   .exact g1
   .rintro⟨k1,k2⟩;cases hb:an.getD (F.cl.getD i 0) none with
    |none=>exact k1 hb
    |some a=>exact k2 (by rw[hb,h2 _ _ hb])
  .rw[cf];by_cases e:F.cl.getD i 0=c
   .rw[if_pos e,e]
   .rw[if_neg e];exact hc
  .rcases mem_cons.1 hj with rfl|hj
   .exact g4 _ (by rw[cf,if_pos rfl])
   .exact g5 j hj
theorem M0{al:List bC}(ht:gD al)(hf:dT (aG al)=false)(hF:fO (aG al))(hl:vt (aG al).ow)(cN:al.length<=1000):Dc al al=(true,0):=by
 have h5:∀i,i<5->(aG al).cl.getD i 0<24:=λi hi=>by rw[rz hi];have:=md ht (i:=i) (by omega);omega
 obtain⟨an,g1,g2,g3,-,g5⟩:=Bj h5 [0,1,2,3,4] (replicate 24 none) (by decide) (by simp) (λc a hc=>by
  rw[getD_eq_getElem?_getD,getElem?_replicate]at hc;split at hc <;> cases hc)
 have fT:∀p∈(aG al).ap,p.l≠p.r:=λp hp e=>by
  unfold dT at hf;rw[Bool.or_eq_false_iff,any_eq_false]at hf;have:=hf.1 p hp;simp[e]at this
 have gl:(aG al).ow.length<=1000:=by
  show((al.filter _).map _).length<=1000;rw[length_map];exact zq3 (length_filter_le _ _) cN
 have hI:Idt (aG al) (lM (aG al) (aG al) an 262144) 0:=by
  have eE:∀i,(replicate (aG al).ow.length false).getD i false=false:=λi=>by
   rw[getD_eq_getElem?_getD,getElem?_replicate];split <;> rfl
  refine⟨g2,g3,λi hi=>g5 i (by simp;omega),by simp[lM],by simp[lM],λi _ _=>?_,λi _ ht=>?_,?_,rfl,?_⟩
  .show(replicate (aG al).ow.length (none:Option Nat)).getD i none=none;rw[getD_eq_getElem?_getD,getElem?_replicate];split <;> rfl
  .have ht:(replicate (aG al).ow.length false).getD i false=true:=ht;rw[eE]at ht;cases ht
  .show(replicate (aG al).ow.length false).countP id=0;rw[countP_eq_zero];intro x hx;rw[eq_of_mem_replicate hx];simp
  .show((aG al).ow.length:Int)-((0:Nat):Int)<=262144/\(262144:Int)<=1000000;omega
 have yT:=Bs hF hl (λp hp=>by have:=agT ht p hp;omega) fT (aG al).ow.length ((aG al).ow.length+1) 0 _ (by omega) (by omega) hI;unfold Dc;rw[hf];simp only[Bool.false_eq_true,if_false];rw[g1];simp only;unfold rV;have e:xj (vw (aG al) (aG al).ow) (aG al) an 262144=(true,(xj (aG al) (aG al) an 262144).2):=Prod.ext yT rfl;rw[e]
end
def chH:List (Int × Int)->Int->Int->Prop
 |[],_,_=>False
 |[c],v,e=>c.1=v/\c.2=e
 |c::d::r,v,e=>c.1=v/\chH (d::r) c.2 e
def VN(val:Nat->Int):List Pr->List (Int × Int)->Prop
 |[],cs=>cs=[]
 |p::r,cs=>∃q cs',cs.Perm (q++cs')/\chH q (val p.l) (val p.r)/\(p.k≠4->q.length=1)/\VN val r cs'
structure MoH(cs:List (Int × Int))(val:Nat->Int)(V:CF):Prop where
 nl:val (V.cl.getD 0 0)=0
 ap:∀p∈V.ap,val p.l≠val p.r
 sp:VN val V.ow cs
def CX(cs:List (Int × Int))(s:Nat->Int)(f:CF):Prop:=∃val,MoH cs val f/\∀i,i<5->val (f.cl.getD i 0)=s i
section
variable {ad nx:List Int} {val:Nat->Int}
def QV(ad nx:List Int)(k:Nat):Int × Int:=(ad.getD k 0,nx.getD k 0)
def At(fr:List Bool):List Nat:=(range fr.length).filter (λk=>fr.getD k false)
theorem yx:∀(q:List Nat) (v e:Int),chH (q.map (QV ad nx)) v e↔Ix ad nx q v e
 |[],_,_=>Iff.rfl
 |[k],_,_=>Iff.rfl
 |k::j::r,v,e=>by
  show(ad.getD k 0=v/\chH ((j::r).map (QV ad nx)) (nx.getD k 0) e)↔_;rw[yx (j::r)];exact Iff.rfl
theorem Gw{fr:List Bool}{k:Nat}(h:fr.getD k false=true):(At fr).Perm (k::At (fr.set k false)):=by
 have hk:=Gy h;unfold At;rw[length_set];refine ji nodup_range (by simpa using hk) h ?_ (λj hj=>?_)
 .rw[aU _ _ _ _ _ hk,if_pos rfl]
 .rw[aU _ _ _ _ _ hk,if_neg (λe=>hj e.symm)]
theorem YB{fr:List Bool}{k:Nat}(h:k∈At fr):fr.getD k false=true:=(mem_filter.1 h).2
theorem Qg:∀{q:List Nat} {fr fr':List Bool},tk fr q=some fr'->(At fr).Perm (q++At fr')
 |[],_,_,h=>by cases h;exact List.Perm.refl _
 |k::r,fr,fr',h=>by
  unfold tk at h;split at h
  .rename_i hk;exact(Gw hk).trans ((Qg h).cons k)
  .cases h
theorem M5:∀{q:List Nat} {fr:List Bool} {L:List Nat},(At fr).Perm (q++L)->∃fr',tk fr q=some fr'/\(At fr').Perm L
 |[],fr,_,h=>⟨fr,rfl,h⟩
 |k::r,fr,L,h=>by
  have hk:fr.getD k false=true:=YB (h.symm.subset (by simp));obtain⟨fr',h1,h2⟩:=M5 (q:=r) (fr:=fr.set k false) (L:=L) (((Gw hk).symm.trans h).cons_inv);refine⟨fr',?_,h2⟩;unfold tk;rw[if_pos hk];exact h1
theorem Bx{fr:List Bool}:fr.any id=false↔At fr=[]:=by
 unfold At;rw[filter_eq_nil_iff,any_eq_false];constructor
 .intro h k hk;have hk:=mem_range.1 hk;have:=h fr[k] (getElem_mem hk);simpa[getD_eq_getElem?_getD,hk] using this
 .intro h x hx;obtain⟨k,hk,rfl⟩:=mem_iff_getElem.1 hx;have:=h k (by simpa using hk);simpa[getD_eq_getElem?_getD,hk] using this
theorem Km{α β:Type}{f:α->β}{l:List α}:∀{m:List β},(l.map f).Perm m->∃l',l.Perm l'/\l'.map f=m:=by
 intro m h;generalize hl:l.map f=L at h;induction h generalizing l with
 |nil=>exact⟨[],by rw[map_eq_nil_iff.1 hl],rfl⟩
 |cons x _ ih =>
  cases l with
  |nil=>cases hl
  |cons a l =>
   simp only[map_cons,List.cons.injEq]at hl;obtain⟨l',h1,h2⟩:=ih hl.2;exact⟨a::l',h1.cons a,by rw[map_cons,h2,hl.1]⟩
 |swap x y t =>
  cases l with
  |nil=>cases hl
  |cons a l =>
   cases l with
   |nil=>simp at hl
   |cons b l =>
    simp only[map_cons,List.cons.injEq]at hl;obtain⟨h1,h2,h3⟩:=hl;exact⟨b::a::l,List.Perm.swap b a l,by simp[h1,h2,h3]⟩
 |trans _ _ ih1 ih2 =>
  obtain⟨l1,h1,h2⟩:=ih1 hl;obtain⟨l2,h3,h4⟩:=ih2 h2;exact⟨l2,h1.trans h3,h4⟩
theorem Ja:∀{l:List Pr} {cs cs':List (Int × Int)},cs.Perm cs'->VN val l cs->VN val l cs'
 |[],_,_,h,h2=>by rw[VN]at h2 ⊢;rw[h2]at h;exact h.nil_eq.symm
 |p::r,_,_,h,h2=>by
  obtain⟨q,c,h3,h4⟩:=h2;exact⟨q,c,h.symm.trans h3,h4⟩
theorem VM:∀{l:List Pr} {fr:List Bool},vT ad nx val l fr->VN val l ((At fr).map (QV ad nx))
 |[],_,h=>by
  show(At _).map _=[];rw[Bx.1 h];rfl
 |p::r,fr,h=>by
  obtain⟨q,fr',h1,h2,h3,h4⟩:=h;refine⟨q.map (QV ad nx),(At fr').map (QV ad nx),?_,(yx q _ _).2 h1,λhk=>by rw[length_map];exact h3 hk,VM h4⟩;rw[<-map_append];exact(Qg h2).map _
theorem VO:∀{l:List Pr} {fr:List Bool},VN val l ((At fr).map (QV ad nx))->vT ad nx val l fr
 |[],_,h=>by
  have:(At _).map (QV ad nx)=[]:=h;exact Bx.2 (map_eq_nil_iff.1 this)
 |p::r,fr,h=>by
  obtain⟨q,cs',h1,h2,h3,h4⟩:=h;obtain⟨I,g1,g2⟩:=Km h1;obtain⟨a,b,rfl,ha,hb⟩:=map_eq_append_iff.1 g2;obtain⟨fr',k1,k2⟩:=M5 g1;subst ha;refine⟨a,fr',(yx a _ _).1 h2,k1,λhk=>by have:=h3 hk;rwa [length_map]at this,VO (Ja ?_ h4)⟩;rw[<-hb];exact(k2.map _).symm
theorem ST(n:Nat):At (replicate n true)=range n:=by
 unfold At;rw[length_replicate,filter_eq_self];intro k hk;have:=mem_range.1 hk;simp[getD_eq_getElem?_getD,this]
theorem Sg(cs:List (Int × Int)):(range cs.length).map (QV (cs.map (·.1)) (cs.map (·.2)))=cs:=by
 apply ext_getElem
 .simp
 .intro i h1 h2;simp only[getElem_map,getElem_range];unfold QV;simp[h2]
theorem FM{cs:List (Int × Int)}{l:List Pr}:vT (cs.map (·.1)) (cs.map (·.2)) val l (replicate (cs.map (·.1)).length true)↔VN val l cs:=by
 have e:(At (replicate (cs.map (·.1)).length true)).map (QV (cs.map (·.1)) (cs.map (·.2)))=cs:=by
  rw[ST,length_map];exact Sg cs
 constructor
 .intro h;have:=VM h;rwa [e]at this
 .intro h;refine VO ?_;rw[e];exact h
theorem kq{cs:List (Int × Int)}{s:Nat->Int}{f:CF}:CX cs s f↔nN (cs.map (·.1)) (cs.map (·.2)) s f:=by
 constructor
 .rintro⟨v,h1,h2⟩;exact⟨v,⟨h1.nl,h1.ap,FM.2 h1.sp⟩,h2⟩
 .rintro⟨v,h1,h2⟩;exact⟨v,⟨h1.nl,h1.ap,FM.1 h1.sp⟩,h2⟩
end
section
variable {cs cs':List (Int × Int)} {s:Nat->Int} {f g:CF} {val:Nat->Int}
theorem CX.td(hk:am f)(h:CX cs s f):CX cs s (bz f):=kq.2 (nN.td hk (kq.1 h))
theorem CX.fo(h:CX cs s f):CX cs s (Jq f):=kq.2 (nN.fo (kq.1 h))
structure CsH(cs:List (Int × Int)):Prop where
 nd:(cs.map (·.1)).Nodup
 ps:∀c∈cs,0<c.1
theorem CX.within(hc:CsH cs)(hg:am g)(hw:zZ f g=true)(h:CX cs s f):CX cs s g :=
 kq.2 (nN.within hc.nd (λv hv=>by obtain⟨c,h1,rfl⟩:=mem_map.1 hv;exact hc.ps c h1) hg hw (kq.1 h))
end
section
variable {cs cs':List (Int × Int)} {s:Nat->Int} {f g:CF} {val:Nat->Int}
theorem aao(f:CF){i:Nat}(hi:i<5):f.cl.getD i 0<=pN f:=by
 have:i=0\/i=1\/i=2\/i=3\/i=4:=by omega
 unfold pN;rcases this with rfl|rfl|rfl|rfl|rfl <;> omega
theorem ER(f:CF){i:Nat}(hi:i<5):f.cl.getD i 0<aI f:=by
 have h1:=aao f hi;have h2:=(iR f.ow (pN f)).1;have h3:=(iR f.ap (qq (pN f) f.ow)).1;unfold aI;omega
theorem uA(f:CF){p:Pr}(hp:p∈f.ow):p.l<aI f/\p.r<aI f:=by
 have h2:=(iR f.ow (pN f)).2 p hp;have h3:=(iR f.ap (qq (pN f) f.ow)).1;unfold aI;omega
theorem EK(h5:f.cl.length=5){a b i:Nat}(hi:i<5):(sS f a b).cl.getD i 0=gW a b (f.cl.getD i 0):=by
 show(f.cl.map (gW a b)).getD i 0=_;simp[getD_eq_getElem?_getD,h5,hi]
theorem uT(h5:f.cl.length=5){i j c:Nat}(hi:i<5):(setC f i c).cl.getD j 0=if i=j then c else f.cl.getD j 0:=by
 show(f.cl.set i c).getD j 0=_;exact aU _ _ _ _ _ (by omega)
theorem Fk{l:List Pr}{i:Nat}{p:Pr}(h:p∈rp l i):p∈l:=(kR l i).subset h
theorem nT{l:List Pr}{c i:Nat}(h:cR l c=some i):i<l.length/\(l.getD i au).l=c:=eO h
theorem tK{c j:Nat}(h:cR g.ow c=some j):oZ g c=j:=by unfold oZ;rw[h];rfl
end
def I8(s:Sr)(n:Nat)(P:CF->Prop):Prop:=∃e∈bh s n,P e.f
def KnH(s:Sr)(n:Nat)(cs:List (Int × Int))(t:Nat->Int):Prop:=I8 s n (CX cs t)
structure Rj(P:CF->Prop):Prop where
 wi:∀{f g:CF},am f->am g->zZ f g=true->P f->P g
 fo:∀{f:CF},am f->P f->P (bz (Jq f))
theorem Md{cs:List (Int × Int)}{t:Nat->Int}(hc:CsH cs):Rj (CX cs t):=⟨λ_ hg hw h=>CX.within hc hg hw h,λhf h=>CX.td (gH _ hf).1 h.fo⟩
def KN(s:Sr)(n k:Nat):Bool:=(s.wr.getD n []).getD k false
def Sf(s:Sr):Prop:=s.fu=false/\∀n k,k=2\/k=3\/k=4->KN s n k=false
structure gZ(N:Nat)(s:Sr):Prop where
 kn:s.kn.length=N
 wr:s.wr.length=N
 rw:∀r∈s.wr,r.length=5
 td:lB s
structure mu(s s':Sr):Prop where
 fu:s.fu=true->s'.fu=true
 fl:∀n k,KN s n k=true->KN s' n k=true
 kn:∀n P,Rj P->I8 s n P->I8 s' n P
theorem mu.refl(s:Sr):mu s s:=⟨λh=>h,λ_ _ h=>h,λ_ _ _ h=>h⟩
theorem mu.trans{a b c:Sr}(h:mu a b)(h':mu b c):mu a c:=⟨λx=>h'.fu (h.fu x),λn k x=>h'.fl n k (h.fl n k x),λn P hc x=>h'.kn n P hc (h.kn n P hc x)⟩
theorem mu.sf{a b:Sr}(h:mu a b)(hs:Sf b):Sf a:=by
 refine⟨?_,λn k hk=>?_⟩
 .cases hf:a.fu with
  |false=>rfl
  |true=>have:=h.fu hf;rw[hs.1]at this;cases this
 .cases hf:KN a n k with
  |false=>rfl
  |true=>have:=h.fl n k hf;rw[hs.2 n k hk]at this;cases this
section
variable {c:Cd} {N n:Nat} {f:CF} {s:Sr} {cs:List (Int × Int)} {t:Nat->Int}
theorem mu.knH{s s':Sr}(h:mu s s')(n:Nat)(cs:List (Int × Int))(t:Nat->Int)(hc:CsH cs)(hk:KnH s n cs t):KnH s' n cs t:=h.kn n _ (Md hc) hk
theorem OL{P:CF->Prop}(hP:Rj P)(hk:am f)(h:P f):P (ch c n f):=by
 unfold ch;split
 .exact hP.fo hk h
 .exact h
theorem iO{l:List f9}(hn:n<s.kn.length)(m:Nat):(s.kn.set n l).getD m []=if n=m then l else bh s m:=aU _ _ _ _ _ hn
theorem zp(hf:Td f)(hs:gZ N s)(hn:n<N):mu s (bG c n f s)/\gZ N (bG c n f s)/\∀P,Rj P->P f->I8 (bG c n f s) n P:=by
 have oj:lB (bG c n f s):=zo hf hs.td;have hg:Td (ch c n f):=zn hf;have eV:n<s.kn.length:=by rw[hs.kn];exact hn
 unfold bG at oj ⊢;split
 .rename_i px;rw[if_pos px]at oj;refine⟨⟨λh=>?_,λ_ _ h=>h,λ_ _ _ h=>h⟩,⟨hs.kn,hs.wr,hs.rw,oj⟩,λP hc h=>?_⟩
  .show(s.fu||_)=true;rw[h];rfl
  .obtain⟨e,he,hw⟩:=any_eq_true.1 px;exact⟨e,he,hc.wi hg.ok (hs.td.at n e he).ok hw (OL hc hf.ok h)⟩
 .rename_i px;rw[if_neg px]at oj;have hkA:∀m,bh (pV c (m9 n (ch c n f) (mb c s (2*(bh s n).length)))) m=if n=m then (bh s n).filter (λe=>!zZ e.f (ch c n f))++[⟨ch c n f,false⟩] else bh s m:=λm=>iO eV m
  refine⟨⟨λh=>?_,λ_ _ h=>h,λm P hc h=>?_⟩,⟨?_,hs.wr,hs.rw,oj⟩,λP hc h=>?_⟩
  .show((s.fu||_)||_)=true;rw[h];rfl
  .obtain⟨e,he,Dm⟩:=h;unfold I8;rw[hkA];by_cases e0:n=m
   .subst e0;rw[if_pos rfl];by_cases hw:zZ e.f (ch c n f)=true
    .exact⟨⟨ch c n f,false⟩,by simp,hc.wi (hs.td.at n e he).ok hg.ok hw Dm⟩
    .exact⟨e,mem_append_left _ (mem_filter.2 ⟨he,by simpa using hw⟩),Dm⟩
   .rw[if_neg e0];exact⟨e,he,Dm⟩
  .show(s.kn.set n _).length=N;rw[length_set];exact hs.kn
  .unfold I8;rw[hkA,if_pos rfl];exact⟨⟨ch c n f,false⟩,by simp,OL hc hf.ok h⟩
theorem zm:∀(l:List CF) {s:Sr},cG l->gZ N s->n<N->mu s (l.foldl (λs g=>bG c n g s) s)/\gZ N (l.foldl (λs g=>bG c n g s) s)
 |[],s,_,h,_=>⟨mu.refl s,h⟩
 |g::l,s,hl,h,hn=>by
  rw[foldl_cons];obtain⟨h1,h2,-⟩:=zp (c:=c) (hl g (by simp)) h hn;obtain⟨h3,h4⟩:=zm l (λx hx=>hl x (by simp[hx])) h2 hn;exact⟨h1.trans h3,h4⟩
theorem sJ{k:Nat}(hs:gZ N s)(hn:n<N)(hk:k<5)(m j:Nat):KN (kT n k s) m j=if n=m/\k=j then true else KN s m j:=by
 have hw:n<s.wr.length:=by rw[hs.wr];exact hn
 have hr:(s.wr.getD n []).length=5:=by
  rw[getD_eq_getElem?_getD,getElem?_eq_getElem hw];exact hs.rw _ (getElem_mem hw)
 unfold KN;show((s.wr.set n ((s.wr.getD n []).set k true)).getD m []).getD j false=_;rw[aU _ _ _ _ _ hw];by_cases e:n=m
 .subst e;rw[if_pos rfl,aU _ _ _ _ _ (by omega)];by_cases e2:k=j
  .rw[if_pos e2,if_pos ⟨rfl,e2⟩]
  .rw[if_neg e2,if_neg (λh=>e2 h.2)]
 .rw[if_neg e,if_neg (λh=>e h.1)]
theorem Ab{k:Nat}(hs:gZ N s)(hn:n<N)(hk:k<5):mu s (kT n k s)/\gZ N (kT n k s):=by
 refine⟨⟨λh=>h,λm j h=>?_,λ_ _ _ h=>h⟩,⟨hs.kn,?_,λr hr=>?_,hs.td⟩⟩
 .rw[sJ hs hn hk];split
  .rfl
  .exact h
 .show(s.wr.set n _).length=N;rw[length_set];exact hs.wr
 .rcases mem_or_eq_of_mem_set (show r∈s.wr.set n _ from hr) with h|rfl
  .exact hs.rw r h
  .rw[length_set];have hw:n<s.wr.length:=(by rw[hs.wr];exact hn);rw[getD_eq_getElem?_getD,getElem?_eq_getElem hw];exact hs.rw _ (getElem_mem hw)
theorem eN{b:Bool}{k:Nat}(hs:gZ N s)(hn:n<N)(hk:k<5):mu s (wrI b n k s)/\gZ N (wrI b n k s)/\(k=2\/k=3\/k=4->Sf (wrI b n k s)->b=false):=by
 unfold wrI;split
 .obtain⟨h1,h2⟩:=Ab hs hn hk;refine⟨h1,h2,λsN hS=>?_⟩;have:=hS.2 n k sN;rw[sJ hs hn hk,if_pos ⟨rfl,rfl⟩]at this;cases this
 .rename_i hb;exact⟨mu.refl s,hs,λ_ _=>by simpa using hb⟩
theorem MO:∀(m k:Nat) {res:List CF} {r:List CF × Sr},r.2.fu=true->(iF c m k res r).2.fu=true
 |0,_,_,_,h=>h
 |m+1,k,res,r,h=>by
  unfold iF;rw[if_neg (λh2=>by rw[h]at h2;cases h2.2)];exact h
theorem nR{fuel a b:Nat}(hf:Td f)(hs:gZ N s)(ha:a<N)(hb:b<N):mu s (dG c fuel a b f s)/\gZ N (dG c fuel a b f s)/\(Sf (dG c fuel a b f s)->∀P,Rj P->P f->I8 (dG c fuel a b f s) b P):=by
 unfold dG;split
 .obtain⟨h1,h2,h3⟩:=zp (c:=c) hf hs hb;exact⟨h1,h2,λ_=>h3⟩
 .simp only;obtain⟨g1,g2⟩:=Ab hs ha (k:=2) (by omega);obtain⟨k1,k2,k3⟩:=lS (c:=c) fuel 0 (res:=[]) (r:=([f],kT a 2 s)) (λg hg=>by rw[mem_singleton.1 hg];exact hf) (λg hg=>by simp at hg);have hL:mu (kT a 2 s) (iF c fuel 0 [] ([f],kT a 2 s)).2:=by
   refine⟨λh=>MO fuel 0 h,λm k h=>?_,λm P hc h=>?_⟩
   .unfold KN;rw[k3];exact h
   .unfold I8 bh;rw[k2];exact h
  have hS:gZ N (iF c fuel 0 [] ([f],kT a 2 s)).2:=⟨by rw[k2];exact g2.kn,by rw[k3];exact g2.wr,λr hr=>by rw[k3]at hr;exact g2.rw r hr,λl hl=>by rw[k2]at hl;exact g2.td l hl⟩;obtain⟨q1,q2⟩:=zm (c:=c) (n:=b) (iF c fuel 0 [] ([f],kT a 2 s)).1 k1 hS hb;refine⟨g1.trans (hL.trans q1),q2,λhsf=>?_⟩;have h9:=((hL.trans q1).sf hsf).2 a 2 (zq0 rfl);rw[sJ hs ha (by omega),if_pos ⟨rfl,rfl⟩]at h9;cases h9
theorem jy{fuel a b:Nat}(ha:a<N):∀(l:List CF) {s:Sr},(l≠[]->b<N)->cG l->gZ N s->mu s (l.foldl (λs g=>dG c fuel a b g s) s)/\gZ N (l.foldl (λs g=>dG c fuel a b g s) s) /\
  (Sf (l.foldl (λs g=>dG c fuel a b g s) s)->∀g∈l,∀P,Rj P->P g->I8 (l.foldl (λs g=>dG c fuel a b g s) s) b P)
 |[],s,_,_,h=>⟨mu.refl s,h,λ_ g hg=>by simp at hg⟩
 |g::l,s,hb,hl,h=>by
  rw[foldl_cons];have hbN:=hb (by simp);obtain⟨h1,h2,h3⟩:=nR (c:=c) (fuel:=fuel) (hl g (by simp)) h ha hbN;obtain⟨h4,h5,h6⟩:=jy ha l (λ_=>hbN) (λx hx=>hl x (by simp[hx])) h2;refine⟨h1.trans h4,h5,λhS x hx P hc Dm=>?_⟩;rcases mem_cons.1 hx with rfl|hx
  .exact h4.kn _ _ hc (h3 (h4.sf hS) P hc Dm)
  .exact h6 hS x hx P hc Dm
structure Xm(c:Cd)(s:Sr)(n:Nat)(f:CF):Prop where
 nu:(b8 (c.nds.getD n aS) f).nu=false
 da:(b8 (c.nds.getD n aS) f).da=false
 fu:(b8 (c.nds.getD n aS) f).fu=false
 en:(c.nds.getD n aS).op=0->eY f=[]
 nx:∀g∈(b8 (c.nds.getD n aS) f).nx,∀P,Rj P->P g->I8 s (c.nds.getD n aS).nx P
 ot:∀g∈(b8 (c.nds.getD n aS) f).ot,∀P,Rj P->P g->I8 s (c.nds.getD n aS).ot P
theorem Xm.mono{s':Sr}(h:Xm c s n f)(hl:mu s s'):Xm c s' n f:=⟨h.nu,h.da,h.fu,h.en,λg hg P hc hf=>hl.kn _ _ hc (h.nx g hg P hc hf),λg hg P hc hf=>hl.kn _ _ hc (h.ot g hg P hc hf)⟩
end
section
variable {c:Cd} {N n:Nat} {f:CF} {s:Sr}
theorem yH(b:Bool)(hs:gZ N s):mu s (fuS b s)/\gZ N (fuS b s)/\(Sf (fuS b s)->b=false):=by
 refine⟨⟨λh=>?_,λ_ _ h=>h,λ_ _ _ h=>h⟩,⟨hs.kn,hs.wr,hs.rw,hs.td⟩,λh=>?_⟩
 .show(s.fu||b)=true;rw[h];rfl
 .have h1:(s.fu||b)=false:=h.1;rw[Bool.or_eq_false_iff]at h1;exact h1.2
theorem zT{fuel:Nat}(hN:c.nds.length=N)(hO:vu c.nds)(hn:n<N)(hf:Td f)(hs:gZ N s):mu s (nH c fuel n f s)/\gZ N (nH c fuel n f s)/\(Sf (nH c fuel n f s)->Xm c (nH c fuel n f s) n f):=by
 obtain⟨hv,ha⟩:=hO.v n;obtain⟨t1,t2⟩:=lQ hv ha hf;have fU:n<c.nds.length:=by rw[hN];exact hn
 have bQ:(b8 (c.nds.getD n aS) f).nx≠[]->(c.nds.getD n aS).nx<N:=λh=>by rw[<-hN];exact hO.nx n fU (tR h)
 have vy:(b8 (c.nds.getD n aS) f).ot≠[]->(c.nds.getD n aS).ot<N:=λh=>by rw[<-hN];exact hO.ot n fU (qD h)
 unfold nH;simp only;obtain⟨a1,a2,a3⟩:=eN (b:=decide ((c.nds.getD n aS).op=0)&&!decide (eY f=[])) (k:=2) hs hn (by omega);obtain⟨b1,b2,b3⟩:=eN (b:=(b8 (c.nds.getD n aS) f).nu) (k:=3) a2 hn (by omega);obtain⟨d1,d2,d3⟩:=eN (b:=(b8 (c.nds.getD n aS) f).da) (k:=4) b2 hn (by omega);obtain⟨e1,e2,e3⟩:=yH (b8 (c.nds.getD n aS) f).fu d2;obtain⟨g1,g2,g3⟩:=jy (c:=c) (fuel:=fuel) (b:=(c.nds.getD n aS).nx) hn (b8 (c.nds.getD n aS) f).nx bQ t1 e2;obtain⟨k1,k2,k3⟩:=jy (c:=c) (fuel:=fuel) (b:=(c.nds.getD n aS).ot) hn (b8 (c.nds.getD n aS) f).ot vy t2 g2;have nC:=g1.trans k1;refine⟨a1.trans (b1.trans (d1.trans (e1.trans nC))),k2,λhS=>?_⟩;have S3:=k1.sf hS;have S2:=g1.sf S3;have Sd:=e1.sf S2;have Sb:=d1.sf Sd;have Sa:=b1.sf Sb;refine⟨b3 (by omega) Sb,d3 (by omega) Sd,e3 S2,λh0=>?_,λg hg P hc Dm=>k1.kn _ _ hc (g3 S3 g hg P hc Dm),λg hg P hc Dm=>k3 hS g hg P hc Dm⟩;have:=a3 (by omega) Sa;rw[decide_eq_true h0,Bool.true_and]at this;simpa using this
def I7(c:Cd)(s:Sr)(n0:Nat)(R:List CF):Prop:=∀n,∀e∈bh s n,e.d=true->Xm c s n e.f\/(n=n0/\e.f∈R)
def jc(s s':Sr):Prop:=∀n,∀e∈bh s' n,e.d=true->e∈bh s n
theorem jc.refl(s:Sr):jc s s:=λ_ _ h _=>h
theorem jc.trans{a b c:Sr}(h:jc a b)(h':jc b c):jc a c:=λn e he hd=>h n e (h' n e he hd) hd
theorem Cj{n:Nat}{f:CF}{s:Sr}(hn:n<s.kn.length):jc s (bG c n f s):=by
 unfold bG;split
 .exact jc.refl s
 .intro m e he hd;have hkA:bh (pV c (m9 n (ch c n f) (mb c s (2*(bh s n).length)))) m=if n=m then (bh s n).filter (λe=>!zZ e.f (ch c n f))++[⟨ch c n f,false⟩] else bh s m:=iO hn m
  rw[hkA]at he;by_cases e0:n=m
  .subst e0;rw[if_pos rfl]at he;rcases mem_append.1 he with he|he
   .exact(mem_filter.1 he).1
   .rw[mem_singleton.1 he]at hd;cases hd
  .rw[if_neg e0]at he;exact he
theorem Ch{n:Nat}:∀(l:List CF) {s:Sr},cG l->gZ N s->n<N->jc s (l.foldl (λs g=>bG c n g s) s)
 |[],s,_,_,_=>jc.refl s
 |g::l,s,hl,h,hn=>by
  rw[foldl_cons];obtain⟨-,h2,-⟩:=zp (c:=c) (hl g (by simp)) h hn;exact(Cj (by rw[h.kn];exact hn)).trans (Ch l (λx hx=>hl x (by simp[hx])) h2 hn)
theorem FY{fuel a b:Nat}(hf:Td f)(hs:gZ N s)(ha:a<N)(hb:b<N):jc s (dG c fuel a b f s):=by
 unfold dG;split
 .exact Cj (by rw[hs.kn];exact hb)
 .simp only;obtain⟨-,g2⟩:=Ab hs ha (k:=2) (by omega);obtain⟨k1,k2,k3⟩:=lS (c:=c) fuel 0 (res:=[]) (r:=([f],kT a 2 s)) (λg hg=>by rw[mem_singleton.1 hg];exact hf) (λg hg=>by simp at hg);have hS:gZ N (iF c fuel 0 [] ([f],kT a 2 s)).2:=⟨by rw[k2];exact g2.kn,by rw[k3];exact g2.wr,λr hr=>by rw[k3]at hr;exact g2.rw r hr,λl hl=>by rw[k2]at hl;exact g2.td l hl⟩;refine jc.trans (b:=(iF c fuel 0 [] ([f],kT a 2 s)).2) (λm e he _=>?_) (Ch _ k1 hS hb);unfold bh at he ⊢;rw[k2]at he;exact he
theorem ym{fuel a b:Nat}(ha:a<N):∀(l:List CF) {s:Sr},(l≠[]->b<N)->cG l->gZ N s->jc s (l.foldl (λs g=>dG c fuel a b g s) s)
 |[],s,_,_,_=>jc.refl s
 |g::l,s,hb,hl,h=>by
  rw[foldl_cons];have hbN:=hb (by simp);obtain⟨-,h2,-⟩:=nR (c:=c) (fuel:=fuel) (hl g (by simp)) h ha hbN;exact(FY (hl g (by simp)) h ha hbN).trans (ym ha l (λ_=>hbN) (λx hx=>hl x (by simp[hx])) h2)
theorem Aa(b:Bool)(n k:Nat)(s:Sr):jc s (wrI b n k s):=λm e he _=>by
 unfold bh at he ⊢;rw[gw]at he;exact he
theorem UY{fuel:Nat}(hN:c.nds.length=N)(hO:vu c.nds)(hn:n<N)(hf:Td f)(hs:gZ N s):jc s (nH c fuel n f s):=by
 obtain⟨hv,ha⟩:=hO.v n;obtain⟨t1,t2⟩:=lQ hv ha hf;have fU:n<c.nds.length:=by rw[hN];exact hn
 have bQ:(b8 (c.nds.getD n aS) f).nx≠[]->(c.nds.getD n aS).nx<N:=λh=>by rw[<-hN];exact hO.nx n fU (tR h)
 have vy:(b8 (c.nds.getD n aS) f).ot≠[]->(c.nds.getD n aS).ot<N:=λh=>by rw[<-hN];exact hO.ot n fU (qD h)
 unfold nH;simp only;obtain⟨-,a2,-⟩:=eN (b:=decide ((c.nds.getD n aS).op=0)&&!decide (eY f=[])) (k:=2) hs hn (by omega);obtain⟨-,b2,-⟩:=eN (b:=(b8 (c.nds.getD n aS) f).nu) (k:=3) a2 hn (by omega);obtain⟨-,d2,-⟩:=eN (b:=(b8 (c.nds.getD n aS) f).da) (k:=4) b2 hn (by omega);obtain⟨-,e2,-⟩:=yH (b8 (c.nds.getD n aS) f).fu d2;obtain⟨-,g2,-⟩:=jy (c:=c) (fuel:=fuel) (b:=(c.nds.getD n aS).nx) hn (b8 (c.nds.getD n aS) f).nx bQ t1 e2;refine jc.trans ?_ (ym hn _ vy t2 g2);refine jc.trans ?_ (ym hn _ bQ t1 e2);refine jc.trans (b:=wrI (b8 (c.nds.getD n aS) f).da n 4 (wrI (b8 (c.nds.getD n aS) f).nu n 3 (wrI (decide ((c.nds.getD n aS).op=0)&&!decide (eY f=[])) n 2 s))) ?_ (λm e he _=>he);exact(Aa _ _ _ _).trans ((Aa _ _ _ _).trans (Aa _ _ _ _))
theorem I7.old{s':Sr}{n0:Nat}{R:List CF}(h:I7 c s n0 R)(ho:jc s s')(hl:mu s s'):I7 c s' n0 R:=λn e he hd=>by
 rcases h n e (ho n e he hd) hd with h1|h1
 .exact zq0 (h1.mono hl)
 .exact zq1 h1
theorem zX{fuel:Nat}(hN:c.nds.length=N)(hO:vu c.nds)(hn:n<N):∀(l:List CF) {s:Sr},cG l->gZ N s->mu s (lL c fuel n l s)/\gZ N (lL c fuel n l s)/\(Sf (lL c fuel n l s)->I7 c s n l->I7 c (lL c fuel n l s) n [])
 |[],s,_,h=>⟨mu.refl s,h,λ_ h=>h⟩
 |f::r,s,hl,h=>by
  unfold lL;split
  .rename_i dW;exact⟨mu.refl s,h,λhS=>by rw[hS.1]at dW;cases dW⟩
  .obtain⟨h1,h2,h3⟩:=zT (fuel:=fuel) hN hO hn (hl f (by simp)) h;obtain⟨h4,h5,h6⟩:=zX hN hO hn r (λx hx=>hl x (by simp[hx])) h2;refine⟨h1.trans h4,h5,λhS hJ=>h6 hS ?_⟩;intro m e he hd;rcases hJ.old (UY hN hO hn (hl f (by simp)) h) h1 m e he hd with g|⟨g1,g2⟩
   .exact zq0 g
   .rcases mem_cons.1 g2 with g2|g2
    .left;rw[g1,g2];exact h3 (h4.sf hS)
    .exact zq1 ⟨g1,g2⟩
theorem I7.nil{n0 n1:Nat}(h:I7 c s n0 []):I7 c s n1 []:=λn e he hd=>by
 rcases h n e he hd with g|⟨-,g⟩
 .exact zq0 g
 .simp at g
theorem Ft{fuel:Nat}(hN:c.nds.length=N)(hO:vu c.nds)(hn:n<N)(h:gZ N s):mu s (qd c fuel n s)/\gZ N (qd c fuel n s)/\(Sf (qd c fuel n s)->I7 c s n []->I7 c (qd c fuel n s) n []):=by
 have eV:n<s.kn.length:=by rw[h.kn];exact hn
 obtain⟨s0,vG⟩:∃s0:Sr,s0={ s with kn:=s.kn.set n ((bh s n).map (λe:f9=>(⟨e.f,true⟩:f9))) }:=⟨_,rfl⟩;have hkA:∀m,bh s0 m=if n=m then (bh s n).map (λe=>⟨e.f,true⟩) else bh s m:=λm=>by rw[vG];exact iO eV m
 have hL:mu s s0:=by
  refine⟨λh=>by rw[vG];exact h,λm k h=>by rw[vG];exact h,λm P _ hk=>?_⟩;obtain⟨e,he,hf⟩:=hk;unfold I8;rw[hkA];by_cases e0:n=m
  .subst e0;rw[if_pos rfl];exact⟨⟨e.f,true⟩,mem_map.2 ⟨e,he,rfl⟩,hf⟩
  .rw[if_neg e0];exact⟨e,he,hf⟩
 have Nv:gZ N s0:=by
  rw[vG];refine⟨by show(s.kn.set n _).length=N;rw[length_set];exact h.kn,h.wr,h.rw,λl hl e he=>?_⟩;rcases mem_or_eq_of_mem_set (show l∈s.kn.set n _ from hl) with h1|rfl
  .exact h.td l h1 e he
  .obtain⟨x,hx,rfl⟩:=mem_map.1 he;exact h.td.at n x hx
 have ir:cG (kH (bh s n)):=λg hg=>by
  obtain⟨e,he,rfl⟩:=mem_map.1 hg;exact h.td.at n e (mem_filter.1 he).1
 obtain⟨h1,h2,h3⟩:=zX (fuel:=fuel) hN hO hn (kH (bh s n)) ir Nv;have e1:qd c fuel n s=lL c fuel n (kH (bh s n)) s0:=by rw[vG];rfl
 rw[e1];refine⟨hL.trans h1,h2,λhS hJ=>h3 hS ?_⟩;intro m e he hd;rw[hkA]at he;by_cases e0:n=m
 .subst e0;rw[if_pos rfl]at he;obtain⟨x,hx,rfl⟩:=mem_map.1 he;cases hxd:x.d with
  |true =>
   rcases hJ n x hx hxd with g|⟨-,g⟩
   .exact zq0 (g.mono hL)
   .simp at g
  |false=>exact zq1 ⟨rfl,mem_map.2 ⟨x,mem_filter.2 ⟨hx,by simp[hxd]⟩,rfl⟩⟩
 .rw[if_neg e0]at he;rcases hJ m e he hd with g|⟨-,g⟩
  .exact zq0 (g.mono hL)
  .simp at g
theorem mM{fuel:Nat}(hN:c.nds.length=N)(hO:vu c.nds):∀(k:Nat) {s:Sr},gZ N s->mu s (ng c fuel k s)/\gZ N (ng c fuel k s)/\((ng c fuel k s).ok=true->Sf (ng c fuel k s)->I7 c s 0 []->∀n,∀e∈bh (ng c fuel k s) n,Xm c (ng c fuel k s) n e.f)
 |0,s,h=>⟨⟨λh=>h,λ_ _ h=>h,λ_ _ _ h=>h⟩,⟨h.kn,h.wr,h.rw,h.td⟩,λbf=>by cases bf⟩
 |k+1,s,h=>by
  unfold ng;split
  .rename_i hp;refine⟨mu.refl s,h,λ_ _ hJ n e he=>?_⟩;have hd:e.d=true:=by
    unfold E1 at hp;rw[findIdx?_eq_none_iff]at hp;unfold bh at he;obtain⟨y,hy,hey⟩:∃y∈s.kn,e∈y:=by
     rw[getD_eq_getElem?_getD]at he;cases hg:s.kn[n]? with
     |none=>rw[hg]at he;simp at he
     |some y=>rw[hg]at he;exact⟨y,mem_of_getElem? hg,he⟩
    have:=hp y hy;rw[any_eq_false]at this;have:=this e hey;simpa using this
   rcases hJ n e he hd with g|⟨-,g⟩
   .exact g
   .simp at g
  .rename_i n hp;have hn:n<N:=by
    unfold E1 at hp;obtain⟨h1,-⟩:=findIdx?_eq_some_iff_getElem.1 hp;rw[<-h.kn];exact h1
   split
   .rename_i dW;exact⟨mu.refl s,h,λ_ hS=>by rw[hS.1]at dW;cases dW⟩
   .obtain⟨h1,h2,h3⟩:=Ft (fuel:=fuel) hN hO hn h;obtain⟨h4,h5,h6⟩:=mM (fuel:=fuel) hN hO k h2;exact⟨h1.trans h4,h5,λbf hS hJ=>h6 bf hS (h3 (h4.sf hS) hJ.nil).nil⟩
theorem zR(nds:List Nd):gZ nds.length (jH nds):=by
 refine⟨by simp[jH],by simp[jH],λr hr=>?_,λl hl e he=>?_⟩
 .have:=eq_of_mem_replicate (show r∈replicate nds.length (replicate 5 false) from hr);rw[this];simp
 .have:=eq_of_mem_replicate (show l∈replicate nds.length ([]:List f9) from hl);rw[this]at he;simp at he
theorem Fj(nds:List Nd)(n:Nat):bh (jH nds) n=[]:=by
 unfold bh jH;rw[getD_eq_getElem?_getD,getElem?_replicate];split <;> rfl
end
def X0(nd:Nd):Prop:=nd.op=6\/nd.op=7\/nd.op=10\/nd.op=0
structure ip(t:PS):Prop where
 ak:∀nd∈t.nodes,nd.ak<=1/\(nd.op=2->nd.ak=1)
 nv:t.failed=false->t.vars.length=0->∀nd∈t.nodes,X0 nd
section
variable {ws:List ByteArray} {s t:PS}
theorem ip.of(h:ip s)(hn:t.nodes=s.nodes)(hf:t.failed=false->s.failed=false)(hv:s.vars.length<=t.vars.length):ip t :=
 ⟨by rw[hn];exact h.ak,λh1 h2=>by rw[hn];exact h.nv (hf h1) (by omega)⟩
theorem ip.add(h:ip t){nd:Nd}(h1:nd.ak<=1/\(nd.op=2->nd.ak=1))(h2:t.failed=false->t.vars.length=0->X0 nd):ip (dR nd t):=by
 refine⟨λx hx=>?_,λg1 g2 x hx=>?_⟩
 .rcases mem_append.1 (show x∈t.nodes++[{ nd with nx:=t.nodes.length+1 }] from hx) with hx|hx
  .exact h.ak x hx
  .rw[mem_singleton.1 hx];exact h1
 .rcases mem_append.1 (show x∈t.nodes++[{ nd with nx:=t.nodes.length+1 }] from hx) with hx|hx
  .exact h.nv g1 g2 x hx
  .rw[mem_singleton.1 hx];exact h2 g1 g2
theorem iQ{α:Type}{f:α->α}{x:α}:∀{l:List α} {k:Nat},x∈l.modify k f->x∈l\/∃y∈l,x=f y
 |[],_,h=>by simp at h
 |a::l,0,h=>by
  rw[modify_zero_cons]at h;rcases mem_cons.1 h with rfl|h
  .exact zq1 ⟨a,by simp,rfl⟩
  .exact zq0 (by simp[h])
 |a::l,k+1,h=>by
  rw[modify_succ_cons]at h;rcases mem_cons.1 h with rfl|h
  .exact zq0 (by simp)
  .rcases iQ h with h|⟨y,hy,rfl⟩
   .exact zq0 (by simp[h])
   .exact zq1 ⟨y,by simp[hy],rfl⟩
theorem ip.ot(h:ip t)(k n:Nat):ip { t with nodes:=eG k n t.nodes }:=by
 refine⟨λx hx=>?_,λg1 g2 x hx=>?_⟩
 .rcases iQ (show x∈t.nodes.modify k _ from hx) with hx|⟨y,hy,rfl⟩
  .exact h.ak x hx
  .exact h.ak y hy
 .rcases iQ (show x∈t.nodes.modify k _ from hx) with hx|⟨y,hy,rfl⟩
  .exact h.nv g1 g2 x hx
  .exact h.nv g1 g2 y hy
theorem ip.nx(h:ip t)(k n:Nat):ip { t with nodes:=ic k n t.nodes }:=by
 refine⟨λx hx=>?_,λg1 g2 x hx=>?_⟩
 .rcases iQ (show x∈t.nodes.modify k _ from hx) with hx|⟨y,hy,rfl⟩
  .exact h.ak x hx
  .exact h.ak y hy
 .rcases iQ (show x∈t.nodes.modify k _ from hx) with hx|⟨y,hy,rfl⟩
  .exact h.nv g1 g2 x hx
  .exact h.nv g1 g2 y hy
theorem tr:ej ws s<=1:=by unfold ej;split <;> decide
theorem tp(h:(cn ws s).failed=false):0<(cn ws s).vars.length:=by
 have hl:=(mt h).1;unfold cn;rw[if_pos hl];have:=(mK s.vars (BQ (pk ws s))).2;show 0<(put s.vars (BQ (pk ws s))).length;omega
theorem ag8:((oK ws s).ak<=1/\((oK ws s).op=2->(oK ws s).ak=1))/\((mq ws s).failed=false->(mq ws s).vars.length=0->X0 (oK ws s)):=by
 unfold oK mq;split
 .exact⟨⟨zq5 _,λe=>by cases e⟩,λ_ _=>zq0 rfl⟩
 .split
  .refine⟨⟨zq5 _,λe=>by cases e⟩,λh1 h2=>?_⟩;have:=tp h1;omega
  .split
   .refine⟨⟨tr,λe=>by cases e⟩,λh1 h2=>?_⟩;have g1:=(mR h1).1;have g2:(cn ws s).failed=false:=(cV _ (cV _ g1).2.1).2.1;have:=tp g2;have h9:Mo (cn ws s) (cO ws (Dv ws (cn ws s))):=Fc.trans fM;have:=h9.2.1;omega
   .refine⟨?_,λh1 h2=>?_⟩
    .unfold Ai;split
     .exact⟨zq5 _,λe=>by cases e⟩
     .split
      .rename_i hd;unfold RY at hd;rw[Bool.and_eq_true,beq_iff_eq]at hd;exact⟨tr,λ_=>hd.1⟩
      .exact⟨tr,λe=>by cases e⟩
    .have g1:=LP h1;have g2:(cn ws s).failed=false:=(cV _ g1).2.1;have:=tp g2;have h9:Mo (cn ws s) (rW ws (bp ws m6 (cn ws s))):=(bJ _).trans LO;have:=h9.2.1;omega
theorem ad0:((Ap ws s).ak<=1/\((Ap ws s).op=2->(Ap ws s).ak=1))/\((tO ws s).failed=false->(tO ws s).vars.length=0->X0 (Ap ws s)):=by
 unfold Ap tO;split
 .exact⟨⟨zq5 _,λe=>by cases e⟩,λ_ _=>zq1 (zq0 rfl)⟩
 .refine⟨⟨tr,λe=>by(have e:Sk ws (cn ws s)=2:=e;unfold Sk at e;split at e <;> omega)⟩,λh1 h2=>?_⟩;have g1:=(mR h1).1;have g2:(cn ws s).failed=false:=by
   unfold Aq at g1;split at g1
   .exact g1
   .exact(cV _ g1).2.1
  have:=tp g2;have h9:Mo (cn ws s) (cO ws (Aq ws (cn ws s))):=DX.trans fM;have:=h9.2.1;omega
theorem ag5(h:ip s):ip (Iw ws s):=by
 obtain⟨h1,h2⟩:=@ag8 ws s;have hm:Mo s (bp ws l9 (mq ws s)):=P4.trans (bJ _);unfold Iw;refine ip.add (h.of hm.1 (λe=>(P5 (cV _ e).2.1).1) hm.2.1) h1 (λg1 g2=>h2 (cV _ g1).2.1 ?_);have:=(@bJ ws (mq ws s) l9).2.1;omega
theorem Xi(h:ip s):ip (jx ws s):=by
 obtain⟨h1,h2⟩:=@ad0 ws (bp ws eX s);unfold jx;refine ip.add (h.of Fo.1 (λe=>(cV _ (Mh (cV _ e).2.1)).2.1) Fo.2.1) h1 (λg1 g2=>h2 (cV _ g1).2.1 ?_);have:=(@bJ ws (tO ws (bp ws eX s)) gY).2.1;have:(K7 ws s).vars.length=0:=g2;unfold K7 at this;omega
theorem Gl{k:ByteArray}(h:ip s):ip (bp ws k s):=h.of (bJ k).1 (λe=>(cV _ e).2.1) (bJ k).2.1
theorem adT(h:ip s):ip s.adv:=h.of rfl (λe=>e) (zq4 _)
theorem WR(h:ip s):ip (dR l7 s):=h.add ⟨zq5 _,λe=>by cases e⟩ (λ_ _=>zq1 (zq1 (zq0 rfl)))
variable {blk:PS->PS}
theorem adY(hb:∀t,ip t->ip (blk t))(h:ip s):ip (F8 blk ws s):=by
 have hA:ip (fP blk ws s):=hb _ (Xi (Gl h));unfold F8;split
 .exact(hb _ ((WR (adT hA)).ot _ _)).nx _ _
 .exact hA.ot _ _
theorem agM(hb:∀t,ip t->ip (blk t))(h:ip s):ip (Cl blk ws s):=by
 have hA:ip (rP blk ws s):=hb _ (Xi (Gl h));unfold Cl;exact((WR hA).nx _ _).ot _ _
theorem adZ(hb:∀t,ip t->ip (blk t))(h:ip s):ip (tM blk ws s):=by
 unfold tM;split
 .exact adY hb h
 .split
  .exact agM hb h
  .exact ag5 h
theorem VX{c:PS->PS}(hc:∀t,ip t->ip (c t)):∀(n:Nat) {s:PS},ip s->ip (mX c ws n s)
 |0,_,h=>h
 |n+1,s,h=>by
  simp only[mX];split
  .exact h
  .exact VX hc n (hc s h)
theorem VS:∀(f:Nat) {s:PS},ip s->ip (DS ws f s)
 |0,_,h=>h
 |f+1,s,h=>by
  simp only[DS];exact Gl (VX (λt ht=>adZ (λu hu=>VS f hu) ht) _ (Gl h))
theorem ag0(ws:List ByteArray):ip (lu ws bY):=by
 have h0:ip (po ws (bp ws m8 bY)):=by
  have hn:(po ws (bp ws m8 bY)).nodes=[]:=by rw[xp,a8];rfl
  exact⟨by rw[hn];simp,by rw[hn];simp⟩
 have h1:ip (Pz ws bY):=by
  unfold Pz;exact(VS _ h0).add ⟨zq5 _,λe=>by cases e⟩ (λ_ _=>zq1 (zq1 (zq1 rfl)))
 unfold lu;split
 .exact h1
 .exact h1.of rfl (λe=>by cases e) (zq4 _)
end
section
variable {cs:List (Int × Int)} {st:List Int} {val:Nat->Int} {f:CF}
theorem Ht:∀(l:List Nat) {ms:List Nat} {c:Nat},c∈l.foldl gV ms->c∈ms\/c∈l
 |[],_,_,h=>zq0 h
 |a::l,ms,c,h=>by
  rw[foldl_cons]at h;rcases Ht l h with h|h
  .unfold gV at h;split at h
   .exact zq0 h
   .rcases mem_append.1 h with h|h
    .exact zq0 h
    .rw[mem_singleton.1 h];exact zq1 (by simp)
  .exact zq1 (by simp[h])
end
structure NdS(nds:List Nd)(nv:Nat):Prop where
 o:vu nds
 ak:∀n,(nds.getD n aS).ak<=1/\((nds.getD n aS).op=2->(nds.getD n aS).ak=1)
 v:∀n,¬ X0 (nds.getD n aS)->(nds.getD n aS).v<nv
 op:∀n,(nds.getD n aS).op<=10
structure SfS(c:Cd)(s:Sr):Prop where
 td:lB s
 cl:∀n,∀e∈bh s n,Xm c s n e.f
