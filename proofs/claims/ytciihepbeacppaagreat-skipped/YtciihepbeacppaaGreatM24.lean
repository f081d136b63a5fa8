import Derived.Test.YtciihepbeacppaaGreatM23
set_option maxRecDepth 100000
set_option maxHeartbeats 0
namespace Go.Proofs.YtciihepbeacppaaGreat
open Tryz Go.RowKit List World Below
set_option linter.unusedVariables false
def tR(g:Nat->List ig->Nat):Nat->List (List ig)->Nat
 |_,[]=>0
 |k,a::l=>g k a+tR g (k+1) l
theorem xr(g:Nat->List ig->Nat):∀(l:List (List ig)) (k n:Nat) (x:List ig),n<l.length->tR g k (l.set n x)+g (k+n) (l.getD n [])=tR g k l+g (k+n) x
 |[],k,n,x,h=>by simp at h
 |a::l,k,0,x,_=>by simp[tR];omega
 |a::l,k,n+1,x,h=>by
  have:=xr g l (k+1) n x (by simpa using h);rw[show k+1+n=k+(n+1) by omega]at this;simp only[set_cons_succ,tR,getD_cons_succ];omega
theorem Ed(g:Nat->List ig->Nat):∀(l:List (List ig)) (k n:Nat),n<l.length->g (k+n) (l.getD n [])<=tR g k l
 |[],k,n,h=>by simp at h
 |a::l,k,0,_=>by simp[tR]
 |a::l,k,n+1,h=>by
  have:=Ed g l (k+1) n (by simpa using h);rw[show k+1+n=k+(n+1) by omega]at this;simp only[tR,getD_cons_succ];omega
def LS(nds:List Nd)(s:Sr):Nat:=tR (λn l=>a7 (ix nds n) (mH l)) 0 s.kn
structure vh(c:Cd)(cu rest:Nat)(s:Sr):Prop where
 kl:s.kn.length=c.nds.length
 fo:∀n,∀e∈bq s n,zW c.nds n e.f
 un:∀n,cu<=n->∀e∈bq s n,e.d=false
 dn:∀n,n<cu->∀e∈bq s n,e.d=true
 tw:LS c.nds s+rest<=tD
 ok:s.ok=true
theorem acg(nds:List Nd)(n:Nat)(f:CF):1<=ix nds n f:=Nat.mul_pos (Nat.pow_pos (by omega)) (Nat.pow_pos (by omega))
theorem I5{nds:List Nd}{n:Nat}:∀(l:List CF),l.length<=a7 (ix nds n) l
 |[]=>by simp
 |f::l=>by
  have:=acg nds n f;have:=I5 (nds:=nds) (n:=n) l;simp only[a7,length_cons];omega
theorem Iq{l:List ig}(h:∀e∈l,e.d=false):mH l=l.map (·.f):=by
 unfold mH;rw[filter_eq_self.2 (λe he=>by rw[h e he];rfl)]
theorem Va{s:Sr}{n:Nat}(h:s.kn.length<=n):bq s n=[]:=by unfold bq;rw[getD_eq_getElem?_getD,getElem?_eq_none h];rfl
theorem oe{s:Sr}{n m:Nat}{x:List ig}{s':Sr}(e:s'.kn=s.kn.set n x):bq s' m=if m=n/\n<s.kn.length then x else bq s m:=by
 unfold bq;rw[e,getD_eq_getElem?_getD,getElem?_set];by_cases h:n=m
 .subst h;by_cases hl:n<s.kn.length
  .simp[hl]
  .rw[if_pos rfl,if_neg hl,if_neg (by simp[hl]),getD_eq_getElem?_getD,getElem?_eq_none (by omega)]
 .rw[if_neg h,if_neg (by rintro⟨rfl,-⟩;exact h rfl),getD_eq_getElem?_getD]
theorem vh.len{c:Cd}{cu rest n:Nat}{s:Sr}(h:vh c cu rest s)(hn:cu<=n):(bq s n).length<=tD:=by
 by_cases hl:n<s.kn.length
 .have h1:=Ed (λn l=>a7 (ix c.nds n) (mH l)) s.kn 0 n hl;have h2:(bq s n).length<=a7 (ix c.nds n) (mH (bq s n)):=by
   have h3:=I5 (nds:=c.nds) (n:=n) (mH (bq s n));rw[Iq (h.un n hn),length_map]at h3;rw[Iq (h.un n hn)];exact h3
  have h3:=h.tw;unfold LS at h3;rw[Nat.zero_add]at h1;have h4:(bq s n).length<=tR (λn l=>a7 (ix c.nds n) (mH l)) 0 s.kn:=zq3 h2 h1;omega
 .rw[Va (by omega)];simp
structure YM(c:Cd):Prop where
 lp:c.lp=false
 bd:c.bd=false
 hd:∀n,c.hd.getD n false=false
 fw:Fwd c.nds
theorem DE{c:Cd}(hc:YM c){cu rest n:Nat}(hn:cu<=n){f:CF}(hf:zW c.nds n f){s:Sr}(h:vh c cu (rest+ix c.nds n f) s):vh c cu rest (bu c n f s):=by
 have hN:bH c n f=f:=by unfold bH;rw[if_neg (by rw[hc.hd n];decide)]
 have dN:=h.len hn;unfold bu;rw[hN];split
 .exact⟨h.kl,h.fo,h.un,h.dn,by have:=h.tw;show LS c.nds s+rest<=tD;omega,by show(s.ok&&decide ((bq s n).length<=tD))=true;rw[h.ok];simpa using dN⟩
 .obtain⟨x,hx⟩:∃x,x=(bq s n).filter (λe=>!Eg e.f f)++[⟨f,false⟩]:=⟨_,rfl⟩;obtain⟨s',hs'⟩:∃s',s'=sJ c (pW n f (oY c s (2*(bq s n).length))):=⟨_,rfl⟩;have gu:s'.kn=s.kn.set n x:=by rw[hs',hx];rfl
  have bm:s'.ok=true:=by rw[hs'];show(s.ok&&decide ((bq s n).length<=tD))=true;rw[h.ok];simpa using dN
  rw[<-hs'];refine⟨by rw[gu,length_set];exact h.kl,λm e he=>?_,λm hm e he=>?_,λm hm e he=>?_,?_,bm⟩
  .rw[oe gu]at he;split at he
   .rename_i hm;rw[hm.1];rw[hx]at he;rcases mem_append.1 he with he|he
    .exact h.fo n e (mem_filter.1 he).1
    .rw[mem_singleton]at he;subst he;exact hf
   .exact h.fo m e he
  .rw[oe gu]at he;split at he
   .rw[hx]at he;rcases mem_append.1 he with he|he
    .exact h.un n hn e (mem_filter.1 he).1
    .rw[mem_singleton]at he;subst he;rfl
   .exact h.un m hm e he
  .rw[oe gu,if_neg (by rintro⟨rfl,-⟩;omega)]at he;exact h.dn m hm e he
  .have htw:=h.tw;unfold LS at htw ⊢;rw[gu];by_cases hl:n<s.kn.length
   .have h1:=xr (λn l=>a7 (ix c.nds n) (mH l)) s.kn 0 n x hl;rw[Nat.zero_add]at h1;have h2:a7 (ix c.nds n) (mH x)<=a7 (ix c.nds n) (mH (bq s n))+ix c.nds n f:=by
     have e1:mH x=mH ((bq s n).filter (λe=>!Eg e.f f))++[f]:=by
      rw[hx];unfold mH;rw[filter_append,map_append];rfl
     rw[e1,Ec];have h3:a7 (ix c.nds n) (mH ((bq s n).filter (λe=>!Eg e.f f)))<=a7 (ix c.nds n) (mH (bq s n)):=Ry _ ((filter_sublist.filter _).map _);simp only[a7];omega
    have h3:a7 (ix c.nds n) (mH (s.kn.getD n []))=a7 (ix c.nds n) (mH (bq s n)):=rfl;omega
   .rw[set_eq_of_length_le (by omega)];omega
theorem DC{c:Cd}(hc:YM c){cu n fuel a:Nat}(hn:cu<=n):∀(l:List CF) {rest:Nat} {s:Sr},(∀f∈l,zW c.nds n f)->vh c cu (rest+a7 (ix c.nds n) l) s->vh c cu rest (l.foldl (λs g=>dU c fuel a n g s) s)
 |[],rest,s,_,h=>h
 |f::l,rest,s,hl,h=>by
  have e:dU c fuel a n f s=bu c n f s:=by unfold dU;rw[if_pos (zq0 hc.lp)]
  rw[foldl_cons,e];refine DC hc hn l (λg hg=>hl g (by simp[hg])) (DE hc hn (hl f (by simp)) ?_);have e2:rest+a7 (ix c.nds n) (f::l)=rest+a7 (ix c.nds n) l+ix c.nds n f:=by simp only[a7];omega
  rw[<-e2];exact h
theorem vh.wrI{c:Cd}{cu rest n k:Nat}{b:Bool}{s:Sr}(h:vh c cu rest s):vh c cu rest (wrI b n k s):=by
 unfold Go.Proofs.YtciihepbeacppaaGreat.wrI;split
 .exact⟨h.kl,h.fo,h.un,h.dn,h.tw,h.ok⟩
 .exact h
theorem vh.fuS{c:Cd}{cu rest:Nat}{b:Bool}{s:Sr}(h:vh c cu rest s):vh c cu rest (fuS b s):=⟨h.kl,h.fo,h.un,h.dn,h.tw,h.ok⟩
theorem V9{c:Cd}(hc:YM c){n rest fuel:Nat}(hn:n<c.nds.length){f:CF}(hf:zW c.nds n f){s:Sr}(h:vh c (n+1) (rest+ix c.nds n f) s):vh c (n+1) rest (pm c fuel n f s):=by
 have hw:=aeH hc.fw hn hf;have vX:=hc.fw.nx n hn;have Mr:=hc.fw.ot n hn;obtain⟨o,ho⟩:∃o,o=cj (c.nds.getD n aI) f:=⟨_,rfl⟩;have tJ:o.nx≠[]->n<(c.nds.getD n aI).nx:=λaH=>vX (λe=>aH (by rw[ho];unfold cj;rw[if_pos e];rfl));have al8:o.ot≠[]->n<(c.nds.getD n aI).ot:=λaH=>Mr (by
  apply Classical.byContradiction;intro hT;apply aH;have ZU:¬ ((c.nds.getD n aI).op=7\/(c.nds.getD n aI).op=8\/(c.nds.getD n aI).op=9):=by simpa[xU] using hT
  rw[ho];unfold cj;split
  .rfl
  .split
   .rfl
   .split
    .rfl
    .split
     .rfl
     .split
      .split <;> rfl
      .split
       .rfl
       .split
        .exact absurd (zq0 (by assumption)) ZU
        .split
         .exact absurd (zq1 (zq0 (by assumption))) ZU
         .split
          .exact absurd (zq1 (zq1 (by assumption))) ZU
          .rfl)
 rw[<-ho]at hw;unfold pm;simp only[<-ho];have lay1:∀{l:List CF} {m rest:Nat} {s:Sr},(l≠[]->n<m)->(∀g∈l,zW c.nds m g)->vh c (n+1) (rest+a7 (ix c.nds m) l) s->vh c (n+1) rest (l.foldl (λs g=>dU c fuel n m g s) s):=by
  intro l m rest s hm hl hs;by_cases e:l=[]
  .subst e;exact hs
  .exact DC hc (hm e) l hl hs
 refine lay1 al8 hw.ot (lay1 tJ hw.nx ?_);have h1:vh c (n+1) (rest+a7 (ix c.nds (c.nds.getD n aI).ot) o.ot+a7 (ix c.nds (c.nds.getD n aI).nx) o.nx) s:=⟨h.kl,h.fo,h.un,h.dn,by have:=h.tw;have:=hw.w;omega,h.ok⟩;exact h1.wrI.wrI.wrI.fuS
theorem JX{c:Cd}(hc:YM c){n fuel:Nat}(hn:n<c.nds.length):∀(l:List CF) {s:Sr},(∀f∈l,zW c.nds n f)->vh c (n+1) (a7 (ix c.nds n) l) s->vh c (n+1) 0 (nN c fuel n l s)
 |[],s,_,h=>h
 |f::l,s,hl,h=>by
  unfold nN;split
  .exact⟨h.kl,h.fo,h.un,h.dn,by have:=h.tw;omega,h.ok⟩
  .refine JX hc hn l (λg hg=>hl g (by simp[hg])) (V9 hc hn (hl f (by simp)) ?_);have e:a7 (ix c.nds n) (f::l)=a7 (ix c.nds n) l+ix c.nds n f:=(by simp only[a7];omega);rw[<-e];exact h
theorem Wn{c:Cd}(hc:YM c){cu n fuel:Nat}{s:Sr}(hcu:cu<=n)(hn:n<c.nds.length)(hb:∀m,cu<=m->m<n->bq s m=[])(h:vh c cu 0 s):vh c (n+1) 0 (sN c fuel n s):=by
 have hl:n<s.kn.length:=by rw[h.kl];exact hn
 have hF:∀f∈mH (bq s n),zW c.nds n f:=by
  intro f hf;obtain⟨e,he,rfl⟩:=mem_map.1 hf;exact h.fo n e (mem_filter.1 he).1
 refine JX hc hn _ hF ?_;obtain⟨x,hx⟩:∃x,x=(bq s n).map (λe=>(⟨e.f,true⟩:ig)):=⟨_,rfl⟩;have gu:({ s with kn:=s.kn.set n ((bq s n).map (λe=>⟨e.f,true⟩)) }:Sr).kn=s.kn.set n x:=by rw[hx]
 refine⟨by rw[gu,length_set];exact h.kl,λm e he=>?_,λm hm e he=>?_,λm hm e he=>?_,?_,h.ok⟩
 .rw[oe gu]at he;split at he
  .rename_i hm;rw[hx]at he;obtain⟨y,hy,rfl⟩:=mem_map.1 he;rw[hm.1];exact h.fo n y hy
  .exact h.fo m e he
 .rw[oe gu,if_neg (by rintro⟨rfl,-⟩;omega)]at he;exact h.un m (by omega) e he
 .rw[oe gu]at he;split at he
  .rw[hx]at he;obtain⟨y,-,rfl⟩:=mem_map.1 he;rfl
  .rename_i hm';by_cases hmc:m<cu
   .exact h.dn m hmc e he
   .rw[hb m (by omega) (by
     have:m≠n:=λe=>hm' ⟨e,hl⟩;omega)]at he
    simp at he
 .have htw:=h.tw;unfold LS at htw ⊢;rw[gu];have h1:=xr (λn l=>a7 (ix c.nds n) (mH l)) s.kn 0 n x hl;rw[Nat.zero_add]at h1;have h2:mH x=[]:=by
   rw[hx];unfold mH;rw[map_eq_nil_iff,filter_eq_nil_iff];intro e he;obtain⟨y,-,rfl⟩:=mem_map.1 he;simp
  have h3:a7 (ix c.nds n) (mH (s.kn.getD n []))=a7 (ix c.nds n) (mH (bq s n)):=rfl;rw[h2]at h1;simp only[a7]at h1;omega
theorem JE{c:Cd}(hc:YM c){fuel:Nat}:∀(k:Nat) {cu:Nat} {s:Sr},vh c cu 0 s->c.nds.length<k+cu->cu<=c.nds.length->(qg c fuel k s).ok=true
 |0,_,_,_,h,h'=>by omega
 |k+1,cu,s,h,hk,_=>by
  unfold qg;split
  .exact h.ok
  .rename_i n hp;split
   .exact h.ok
   .obtain⟨hn,qG,O1⟩:=findIdx?_eq_some_iff_getElem.1 hp;have at_:∀j,(hj:j<s.kn.length)->bq s j=s.kn[j]:=λj hj=>by unfold bq;rw[getD_eq_getElem?_getD,getElem?_eq_getElem hj];rfl
    have hcu:cu<=n:=by
     apply Classical.byContradiction;intro au;obtain⟨e,he,hde⟩:=any_eq_true.1 qG;rw[<-at_ n hn]at he;rw[h.dn n (by omega) e he]at hde;simp at hde
    have hn':n<c.nds.length:=(by rw[<-h.kl];exact hn);have hS:=Wn hc (fuel:=fuel) hcu hn' (λm hm hmn=>by
     rw[eq_nil_iff_forall_not_mem];intro e he;have h1:=h.un m hm e he;have h2:=O1 m hmn;rw[at_ m (by omega)]at he;apply h2;rw[any_eq_true];exact⟨e,he,by rw[h1];rfl⟩) h
    exact JE hc k hS (by omega) (by omega)
def Mo(s t:PS):Prop:=t.nodes=s.nodes/\s.vars.length<=t.vars.length/\s.hid.length<=t.hid.length
theorem Mo.refl(s:PS):Mo s s:=⟨rfl,zq4 _,zq4 _⟩
theorem Mo.trans{s t u:PS}(h:Mo s t)(h':Mo t u):Mo s u:=⟨h'.1.trans h.1,zq3 h.2.1 h'.2.1,zq3 h.2.2 h'.2.2⟩
def Lw(L i:Nat):Prop:=i=0\/i<L
theorem Lw.up{L L' i:Nat}(h:Lw L i)(hL:L<=L'):Lw L' i:=h.imp id (λh=>by omega)
section
variable {ws:List ByteArray} {s:PS}
theorem gD:Mo s s.adv:=⟨rfl,zq4 _,zq4 _⟩
theorem cQ(k:ByteArray):Mo s (aF ws k s):=by unfold aF;split <;> exact⟨rfl,zq4 _,zq4 _⟩
theorem rm(l:List UInt8)(c:UInt8):l.length<=(put l c).length/\plc l c<(put l c).length:=by
 unfold put;have:=wO l c;split
 .simp;omega
 .exact⟨zq4 _,by omega⟩
theorem xE:Mo s (bD ws s):=by
 unfold bD;split
 .exact⟨rfl,(rm _ _).1,zq4 _⟩
 .exact⟨rfl,zq4 _,zq4 _⟩
theorem xD:Lw (bD ws s).vars.length (mN ws s):=by
 unfold mN bD;split
 .exact zq1 (rm _ _).2
 .exact zq0 rfl
theorem jq:Mo s (b9 ws s):=by
 unfold b9;split
 .exact gD
 .exact xE
theorem uO:Lw (b9 ws s).vars.length (fe ws s):=by
 unfold fe b9;split
 .exact zq0 rfl
 .exact xD
theorem sL:Mo s (fJ ws s):=by
 unfold fJ;split
 .exact⟨rfl,zq4 _,(rm _ _).1⟩
 .exact jq
theorem NA:Mo s (yT ws s):=by
 unfold yT;split
 .exact gD
 .exact cQ _
theorem Y7:Mo s (tE ws s):=by
 unfold tE;split
 .exact gD
 .exact(xE.trans NA).trans jq
theorem ab8:Mo s (Mz ws s):=((cQ _).trans Y7).trans (cQ _)
theorem YU:Mo s (oP ws s):=by
 unfold oP;split
 .exact gD
 .split
  .exact(jq.trans gD).trans (cQ _)
  .exact jq
theorem Ri:Mo s (zK ws s):=(gD.trans (cQ _)).trans (cQ _)
theorem abS:Mo s (iu ws s):=by
 unfold iu;split
 .exact gD
 .split
  .exact gD.trans xE
  .split
   .exact(xE.trans Ri).trans jq
   .exact(xE.trans (cQ _)).trans YU
theorem Y6:Lw (tE ws s).vars.length (Ca ws s).v/\Lw (tE ws s).vars.length (Ca ws s).ai/\(1<=(Ca ws s).op/\(Ca ws s).op<=9):=by
 unfold Ca tE;split
 .exact⟨zq0 rfl,zq0 rfl,by decide⟩
 .refine⟨xD.up (NA.trans jq).2.1,uO,?_⟩;show 1<=So ws (bD ws s)/\So ws (bD ws s)<=9;unfold So;split <;> decide
theorem YT{v:Nat}(hv:Lw s.vars.length v):Lw (oP ws s).vars.length (xL ws v s).v/\Lw (oP ws s).vars.length (xL ws v s).ai/\(1<=(xL ws v s).op/\(xL ws v s).op<=6)/\(xL ws v s).ot=0:=by
 unfold xL oP;split
 .exact⟨hv,zq0 rfl,by show 1<=(4:Nat)/\(4:Nat)<=6;decide,rfl⟩
 .split
  .exact⟨hv.up ((jq.trans gD).trans (cQ _)).2.1,uO.up (gD.trans (cQ _)).2.1,by show 1<=(2:Nat)/\(2:Nat)<=6;decide,rfl⟩
  .exact⟨hv.up jq.2.1,uO,by show 1<=(1:Nat)/\(1:Nat)<=6;decide,rfl⟩
theorem abR:Lw (iu ws s).vars.length (kM ws s).v/\Lw (iu ws s).vars.length (kM ws s).ai/\(1<=(kM ws s).op/\(kM ws s).op<=6)/\(kM ws s).ot=0:=by
 unfold kM iu;split
 .exact⟨zq0 rfl,zq0 rfl,by decide,rfl⟩
 .split
  .exact⟨xD,zq0 rfl,by show 1<=(5:Nat)/\(5:Nat)<=6;decide,rfl⟩
  .split
   .exact⟨xD.up (Ri.trans jq).2.1,uO,by show 1<=(3:Nat)/\(3:Nat)<=6;decide,rfl⟩
   .exact YT (xD.up (cQ _).2.1)
def uR(L b E:Nat)(M:List Nd):Prop:=∀k nd,M[k]?=some nd->Lw L nd.v/\Lw L nd.ai/\(1<=nd.op/\nd.op<=10)/\(nd.nx<=E/\nd.ot<=E)/\(xU nd=true->b+k<nd.ot)/\(nd.op≠10->nd.nx=b+k+1)/\(nd.op=10->nd.nx≠b+k)
theorem uR.nil(L b E:Nat):uR L b E []:=λk nd h=>by simp at h
theorem uR.up{L L' b E E':Nat}{M:List Nd}(h:uR L b E M)(hL:L<=L')(hE:E<=E'):uR L' b E' M:=λk nd hk=>⟨(h k nd hk).1.up hL,(h k nd hk).2.1.up hL,(h k nd hk).2.2.1,by have:=(h k nd hk).2.2.2.1;omega,(h k nd hk).2.2.2.2⟩
theorem uR.app{L b E:Nat}{M N:List Nd}(h:uR L b E M)(h':uR L (b+M.length) E N):uR L b E (M++N):=by
 intro k nd hk;by_cases hl:k<M.length
 .rw[getElem?_append_left hl]at hk;exact h k nd hk
 .rw[getElem?_append_right (by omega)]at hk;have:=h' _ nd hk;rw[show b+M.length+(k-M.length)=b+k by omega]at this;exact this
theorem uR.one{L b E:Nat}{nd:Nd}(h:Lw L nd.v/\Lw L nd.ai/\(1<=nd.op/\nd.op<=10)/\(nd.nx<=E/\nd.ot<=E)/\(xU nd=true->b<nd.ot)/\(nd.op≠10->nd.nx=b+1)/\(nd.op=10->nd.nx≠b)):uR L b E [nd]:=by
 intro k nd' hk;cases k with
 |zero =>
  have:nd=nd':=by simpa using hk
  subst this;exact h
 |succ k=>simp at hk
def Ex(s t:PS):Prop:=∃M,t.nodes=s.nodes++M/\s.vars.length<=t.vars.length/\s.hid.length<=t.hid.length/\uR t.vars.length s.nodes.length t.nodes.length M
theorem Mo.ex{t:PS}(h:Mo s t):Ex s t:=⟨[],by rw[h.1,append_nil],h.2.1,h.2.2,uR.nil _ _ _⟩
theorem Ex.trans{t u:PS}(h:Ex s t)(h':Ex t u):Ex s u:=by
 obtain⟨M,h1,h2,Iv,h3⟩:=h;obtain⟨N,g1,g2,g2',g3⟩:=h';refine⟨M++N,by rw[g1,h1,append_assoc],zq3 h2 g2,zq3 Iv g2',(h3.up g2 (by rw[g1,length_append];omega)).app ?_⟩;rw[h1,length_append]at g3;exact g3
theorem abO:Ex s (rJ ws s):=by
 have hm:Mo s (aF ws jb (iu ws s)):=abS.trans (cQ _);obtain⟨h1,h2,h3,h4⟩:=@abR ws s;have hv:=(@cQ ws (iu ws s) jb).2.1;have hn:(rJ ws s).nodes=s.nodes++[{ kM ws s with nx:=s.nodes.length+1 }]:=by
  show(aF ws jb (iu ws s)).nodes++[{ kM ws s with nx:=(aF ws jb (iu ws s)).nodes.length+1 }]=_;rw[hm.1]
 refine⟨[{ kM ws s with nx:=s.nodes.length+1 }],hn,hm.2.1,hm.2.2,?_⟩;rw[hn,length_append];refine uR.one ⟨h1.up hv,h2.up hv,by show 1<=(kM ws s).op/\(kM ws s).op<=10;omega,⟨zq4 _,by show(kM ws s).ot<=_;rw[h4];exact zq5 _⟩,λh=>?_,λ_=>rfl,λh=>?_⟩
 .exfalso;have h':(kM ws s).op=7\/(kM ws s).op=8\/(kM ws s).op=9:=by simpa[xU] using h
  omega
 .exfalso;have h':(kM ws s).op=10:=h;omega
theorem qc{α:Type}(f:α->α)(t:α)(R:List α):∀(A:List α) {k:Nat},k=A.length->(A++t::R).modify k f=A++f t::R
 |[],k,h=>by subst h;rfl
 |a::A,k,h=>by subst h;simp[modify_succ_cons,qc f t R A rfl]
theorem sI(A R:List Nd)(t:Nd)(k n:Nat)(h:k=A.length):eg k n (A++t::R)=A++{ t with ot:=n }::R:=qc _ t R A h
theorem zH(A R:List Nd)(t:Nd)(k n:Nat)(h:k=A.length):gR k n (A++t::R)=A++{ t with nx:=n }::R:=qc _ t R A h
theorem RG{blk:PS->PS}(hb:∀t,Ex t (blk t))(k:ByteArray):∃(tn:Nd) (M:List Nd),(blk (gz ws (aF ws k s))).nodes=s.nodes++tn::M/\s.vars.length<=(blk (gz ws (aF ws k s))).vars.length/\s.hid.length<=(blk (gz ws (aF ws k s))).hid.length/\uR (blk (gz ws (aF ws k s))).vars.length (s.nodes.length+1) (s.nodes.length+1+M.length) M/\Lw (blk (gz ws (aF ws k s))).vars.length tn.v/\Lw (blk (gz ws (aF ws k s))).vars.length tn.ai/\(1<=tn.op/\tn.op<=9)/\tn.nx=s.nodes.length+1:=by
 obtain⟨M,h1,h2,Iv,h3⟩:=hb (gz ws (aF ws k s));have hm:Mo s (Mz ws (aF ws k s)):=(cQ _).trans ab8;have ht:(gz ws (aF ws k s)).nodes=s.nodes++[{ Ca ws (aF ws gj (aF ws k s)) with nx:=s.nodes.length+1 }]:=by
  show(Mz ws (aF ws k s)).nodes++[{ Ca ws (aF ws gj (aF ws k s)) with nx:=(Mz ws (aF ws k s)).nodes.length+1 }]=_;rw[hm.1]
 obtain⟨g1,g2,g3⟩:=@Y6 ws (aF ws gj (aF ws k s));have hv:(tE ws (aF ws gj (aF ws k s))).vars.length<=(blk (gz ws (aF ws k s))).vars.length:=zq3 (@cQ ws (tE ws (aF ws gj (aF ws k s))) iU).2.1 h2;refine⟨{ Ca ws (aF ws gj (aF ws k s)) with nx:=s.nodes.length+1 },M,by rw[h1,ht,append_assoc];rfl,zq3 hm.2.1 h2,zq3 hm.2.2 Iv,?_,g1.up hv,g2.up hv,g3,rfl⟩;rw[h1,length_append,ht,length_append]at h3;exact h3
theorem BW{L b m E:Nat}{tn:Nd}(h1:Lw L tn.v)(h2:Lw L tn.ai)(h3:1<=tn.op/\tn.op<=9)(h4:tn.nx=b+1)(h:b<m)(hm:m<=E):uR L b E [{ tn with ot:=m }] :=
 uR.one ⟨h1,h2,by show 1<=tn.op/\tn.op<=10;omega,⟨by show tn.nx<=E;omega,hm⟩,λ_=>h,λ_=>h4,λe=>by have:tn.op=10:=e;omega⟩
theorem IR{L b m E:Nat}(h:m≠b)(hm:m<=E):uR L b E [{ iL with nx:=m }] :=
 uR.one ⟨zq0 rfl,zq0 rfl,by show 1<=(10:Nat)/\(10:Nat)<=10;decide,⟨hm,zq5 _⟩,λe=>by simp[xU,iL]at e,λe=>absurd rfl e,λ_=>h⟩
theorem Y0{blk:PS->PS}(hb:∀t,Ex t (blk t)):Ex s (pN blk ws s):=by
 obtain⟨tn,M,h1,h2,Iv,h3,h4,h5,h6,h7⟩:=@RG ws s blk hb mc;unfold pN;have hA:cI blk ws s=blk (gz ws (aF ws mc s)):=rfl;rw[<-hA]at h1 h2 Iv h3 h4 h5;have hl:(cI blk ws s).nodes.length=s.nodes.length+1+M.length:=by rw[h1];simp;omega
 obtain⟨m,hm⟩:∃m,m=(cI blk ws s).nodes.length:=⟨_,rfl⟩;split
 .obtain⟨N,g1,g2,g2',g3⟩:=hb (lP s.nodes.length (cI blk ws s));have hB:(lP s.nodes.length (cI blk ws s)).nodes=s.nodes++{ tn with ot:=m+1 }::(M++[{ iL with nx:=m+1 }]):=by
   show eg s.nodes.length ((cI blk ws s).nodes++[{ iL with nx:=(cI blk ws s).nodes.length+1 }]).length ((cI blk ws s).nodes++[{ iL with nx:=(cI blk ws s).nodes.length+1 }])=_;rw[length_append,length_singleton,<-hm];rw[show(cI blk ws s).nodes++[{ iL with nx:=m+1 }]=s.nodes++tn::(M++[{ iL with nx:=m+1 }]) by rw[h1];simp];exact sI _ _ _ _ _ rfl
  have hBv:(lP s.nodes.length (cI blk ws s)).vars=(cI blk ws s).vars:=rfl;have hBh:(lP s.nodes.length (cI blk ws s)).hid=(cI blk ws s).hid:=rfl;have Xc:(lP s.nodes.length (cI blk ws s)).nodes.length=s.nodes.length+1+M.length+1:=by rw[hB];simp;omega
  rw[hBv]at g2;rw[hBh]at g2';rw[Xc]at g3;obtain⟨u,hu⟩:∃u,u=blk (lP s.nodes.length (cI blk ws s)):=⟨_,rfl⟩;rw[<-hu]at g1 g2 g2' g3 ⊢;have hul:u.nodes.length=s.nodes.length+1+M.length+1+N.length:=by rw[g1,length_append,Xc]
  have hn:(Nn (cI blk ws s).nodes.length u).nodes=s.nodes++({ tn with ot:=m+1 }::(M++{ iL with nx:=u.nodes.length }::N)):=by
   show gR (cI blk ws s).nodes.length u.nodes.length u.nodes=_;have e:u.nodes=(s.nodes++{ tn with ot:=m+1 }::M)++{ iL with nx:=m+1 }::N:=(by rw[g1,hB];simp);have e2:=zH (s.nodes++{ tn with ot:=m+1 }::M) N { iL with nx:=m+1 } (cI blk ws s).nodes.length u.nodes.length (by rw[hl];simp;omega);rw[<-e]at e2;rw[e2];simp
  have jO:(Nn (cI blk ws s).nodes.length u).nodes.length=u.nodes.length:=by show(gR _ _ _).length=_;exact du _ _ _
  refine⟨{ tn with ot:=m+1 }::(M++{ iL with nx:=u.nodes.length }::N),hn,zq3 h2 g2,zq3 Iv g2',?_⟩;show uR u.vars.length s.nodes.length (Nn (cI blk ws s).nodes.length u).nodes.length ([{ tn with ot:=m+1 }]++(M++([{ iL with nx:=u.nodes.length }]++N)));rw[jO];refine(BW (h4.up g2) (h5.up g2) h6 h7 (by omega) (by omega)).app ((h3.up g2 (by omega)).app ((IR ?_ (zq4 _)).app ?_))
  .rw[hul];simp;omega
  .show uR u.vars.length (s.nodes.length+1+M.length+1) u.nodes.length N;exact g3
 .have hn:({ cI blk ws s with nodes:=eg s.nodes.length (cI blk ws s).nodes.length (cI blk ws s).nodes }:PS).nodes=s.nodes++({ tn with ot:=m }::M):=by
   show eg s.nodes.length (cI blk ws s).nodes.length (cI blk ws s).nodes=_;rw[<-hm,h1];exact sI _ _ _ _ _ rfl
  refine⟨{ tn with ot:=m }::M,hn,h2,Iv,?_⟩;rw[hn,show(s.nodes++({ tn with ot:=m }::M)).length=s.nodes.length+1+M.length by simp;omega];exact(BW h4 h5 h6 h7 (by omega) (by omega)).app h3
theorem aaV{blk:PS->PS}(hb:∀t,Ex t (blk t)):Ex s (xV blk ws s):=by
 obtain⟨tn,M,h1,h2,Iv,h3,h4,h5,h6,h7⟩:=@RG ws s blk hb bO;have hA:ny blk ws s=blk (gz ws (aF ws bO s)):=rfl;rw[<-hA]at h1 h2 Iv h3 h4 h5;have hl:(ny blk ws s).nodes.length=s.nodes.length+1+M.length:=by rw[h1];simp;omega
 obtain⟨m,hm⟩:∃m,m=(ny blk ws s).nodes.length:=⟨_,rfl⟩;have hn:(xV blk ws s).nodes=s.nodes++({ tn with ot:=m+1 }::(M++[{ iL with nx:=s.nodes.length }])):=by
  show eg s.nodes.length ((ny blk ws s).nodes++[{ iL with nx:=(ny blk ws s).nodes.length+1 }]).length (gR (ny blk ws s).nodes.length s.nodes.length ((ny blk ws s).nodes++[{ iL with nx:=(ny blk ws s).nodes.length+1 }]))=_;rw[length_append,length_singleton,zH _ _ _ _ _ rfl,<-hm];rw[show(ny blk ws s).nodes++[{ iL with nx:=s.nodes.length }]=s.nodes++tn::(M++[{ iL with nx:=s.nodes.length }]) by rw[h1];simp];exact sI _ _ _ _ _ rfl
 have jO:(xV blk ws s).nodes.length=s.nodes.length+1+M.length+1:=by rw[hn];simp;omega
 refine⟨_,hn,h2,Iv,?_⟩;rw[jO];show uR (ny blk ws s).vars.length s.nodes.length _ ([{ tn with ot:=m+1 }]++(M++[{ iL with nx:=s.nodes.length }]));exact(BW h4 h5 h6 h7 (by omega) (by omega)).app ((h3.up (zq4 _) (by omega)).app (IR (by simp;omega) (by omega)))
theorem Y4{blk:PS->PS}(hb:∀t,Ex t (blk t)):Ex s (kw blk ws s):=by
 unfold kw;split
 .exact Y0 hb
 .split
  .exact aaV hb
  .exact abO
theorem Ny{c:PS->PS}(hc:∀t,Ex t (c t)):∀(n:Nat) (s:PS),Ex s (jg c ws n s)
 |0,s=>(Mo.refl s).ex
 |n+1,s=>by
  unfold jg;split
  .exact(Mo.refl s).ex
  .exact(hc s).trans (Ny hc n (c s))
theorem Nj:∀(f:Nat) (s:PS),Ex s (cL ws f s)
 |0,s=>(Mo.refl s).ex
 |f+1,s=>((cQ _).ex.trans (Ny (λt=>Y4 (Nj f)) _ _)).trans (cQ _).ex
end
def YO(t:PS)(k i:Nat):Prop:=t.failed=true\/(k=0/\i=0)\/(k=1/\i<t.vars.length)\/(k=2/\i<t.hid.length)
structure ES(s t:PS):Prop where
 v:s.vars.length<=t.vars.length
 h:s.hid.length<=t.hid.length
 f:s.failed=true->t.failed=true
theorem ES.trans{s t u:PS}(h:ES s t)(h':ES t u):ES s u:=⟨zq3 h.v h'.v,zq3 h.h h'.h,λe=>h'.f (h.f e)⟩
theorem YO.up{s t:PS}{k i:Nat}(h:YO s k i)(hg:ES s t):YO t k i:=by
 have h1:=hg.v;have h2:=hg.h;rcases h with h|h|h|h
 .exact zq0 (hg.f h)
 .exact zq1 (zq0 h)
 .exact zq1 (zq1 (zq0 (by omega)))
 .exact zq1 (zq1 (zq1 (by omega)))
section
variable {ws:List ByteArray} {s:PS}
theorem X4:ES s (fJ ws s):=⟨sL.2.1,sL.2.2,sG.bad s⟩
theorem WW{k:ByteArray}(hk:k.toList≠[]):ES s (aF ws k s):=⟨(cQ k).2.1,(cQ k).2.2,(de hk).bad s⟩
theorem BM:Mo s (fA ws s):=by
 unfold fA;split
 .exact gD
 .split
  .exact gD
  .exact cQ _
theorem abH:ES s (fA ws s):=⟨BM.2.1,BM.2.2,BB.bad s⟩
theorem Wd:YO (fJ ws s) (tT ws s) (tS ws s):=by
 unfold fJ tT tS;split
 .exact zq1 (zq1 (zq1 ⟨rfl,(rm _ _).2⟩))
 .unfold b9 dS fe;split
  .exact zq1 (zq0 ⟨rfl,rfl⟩)
  .unfold bD mN;split
   .exact zq1 (zq1 (zq0 ⟨rfl,(rm _ _).2⟩))
   .exact zq0 rfl
def X8(t:PS)(a:ci):Prop:=YO t a.lk a.li/\YO t a.rk a.ri/\a.k<=4
theorem X8.up{t u:PS}{a:ci}(h:X8 t a)(hg:ES t u):X8 u a:=⟨h.1.up hg,h.2.1.up hg,h.2.2⟩
theorem aaT:Mo s (Be ws s):=by
 have h1:Mo s (qZ ws s):=cQ _;have h2:Mo (qZ ws s) (pY ws s):=sL.trans (cQ _);have h3:Mo (pY ws s) (Be ws s):=sL.trans (cQ _);exact(h1.trans h2).trans h3
theorem Nb:Mo s (eI ws s):=by
 unfold eI;split
 .exact gD
 .split
  .exact gD.trans aaT
  .exact(sL.trans BM).trans sL
theorem aew:ES s (eI ws s):=⟨Nb.2.1,Nb.2.2,nD.bad s⟩
theorem XS:ES (fJ ws (pY ws s)) (Be ws s):=by unfold Be;exact WW qS
theorem ahb:ES (fJ ws (qZ ws s)) (Be ws s):=by
 have h:ES (fJ ws (qZ ws s)) (pY ws s):=by unfold pY;exact WW wf
 exact(h.trans X4).trans XS
theorem amx:X8 (Be ws s) (XR ws s):=⟨Wd.up ahb,Wd.up XS,zq4 4⟩
theorem aex:X8 (eI ws s) (qw ws s):=by
 unfold eI qw;split
 .exact⟨zq1 (zq0 ⟨rfl,rfl⟩),zq1 (zq0 ⟨rfl,rfl⟩),by decide⟩
 .split
  .exact amx
  .refine⟨(Wd (ws:=ws) (s:=s)).up (abH.trans X4),Wd,?_⟩;show j6 ws (fJ ws s)<=4;unfold j6;split
   .decide
   .split <;> decide
theorem WZ:∀(n:Nat) (s:PS),ES s (jj ws n s).2/\∀a∈(jj ws n s).1,X8 (jj ws n s).2 a
 |0,s=>⟨⟨zq4 _,zq4 _,id⟩,λa ha=>by simp[jj]at ha⟩
 |n+1,s=>by
  unfold jj;split
  .obtain⟨h1,h2⟩:=WZ n (eI ws s.adv);have h3:ES s.adv (eI ws s.adv):=aew;refine⟨⟨zq3 h3.v h1.v,zq3 h3.h h1.h,λe=>h1.f (h3.f e)⟩,λa ha=>?_⟩;rcases mem_cons.1 ha with rfl|ha
   .exact aex.up h1
   .exact h2 a ha
  .exact⟨⟨zq4 _,zq4 _,id⟩,λa ha=>by simp at ha⟩
theorem aki:∀a∈foA ws s,X8 (rG ws s) a:=by
 obtain⟨h1,h2⟩:=WZ (ws:=ws) (ws.length+1) (eI ws s);intro a ha;rcases mem_cons.1 ha with rfl|ha
 .exact aex.up h1
 .exact h2 a ha
end
section
variable {w W:World} {S:Nat} {c:Cd} {c0 hv kv wv:Value} {KV WV:List Value} {K:List (List En)} {s:Sr} {x:FE}
theorem Sh.wcs{wB wC gA cA m n:Nat}(h:Sh w S c c0 hv kv (.slice (some ⟨wB,0,none⟩) m wC) KV WV K s)(hn:n<K.length)(hW:WV.getD n aJ=.slice (some ⟨gA,0,none⟩) 5 cA):w.cell? ⟨S,4,none⟩=some (.slice (some ⟨wB,0,none⟩) m wC)/\w.cell? ⟨wB,n,none⟩=some (.slice (some ⟨gA,0,none⟩) 5 cA)/\(∀t,t<5->w.cell? ⟨gA,t,none⟩=some (.bool ((s.wr.getD n []).getD t false)))/\∀t,w.frozen? ⟨gA,t,none⟩=false:=by
 obtain⟨g,cap,g2,cap2,h1,h2,h3,h4,h5⟩:=h.wc hn;rw[hW]at h2;simp only[Value.slice.injEq,Option.some.injEq,Addr.mk.injEq,and_true,true_and]at h1 h2;obtain⟨rfl,-,-⟩:=h1;obtain⟨rfl,rfl⟩:=h2;exact⟨h.bs.cell 4 rfl,h3,h4,h5⟩
theorem Lp.turn{w W:World}{Tn:List Value}{K0:List (List En)}{v tv:Value}{L Lt:List FE}{j Y O:Nat}(h:Lp w W S c c0 hv kv wv Tn WV K0 [] KV K s v L j (Y::O::be tv Lt))(ht:Fl W 0 tv Lt)(hT:∀y∈Lt,Td y.f)(hn:∀k∈be tv Lt,w.heap.size<=k)(hY:Y ∉ be tv Lt):Lp w W S c c0 hv kv wv Tn WV K0 [] KV K s tv Lt 0 [Y]:=by
 have e:mX tv Lt 0=be tv Lt:=by simp[mX,be]
 refine⟨h.sh,h.kl,h.go,⟨ht.pend,hT,λk hk=>?_⟩,λk hk=>?_,λk hk=>zq1 ?_⟩
 .rw[e]at hk;exact(h.ap k (mem_cons_of_mem _ (mem_cons_of_mem _ hk))).1
 .rw[mem_singleton]at hk;subst hk;obtain⟨a1,-,a3⟩:=h.ap k (by simp);exact⟨a1,by rw[e];exact hY,a3⟩
 .rw[e]at hk;exact hn k hk
theorem Wb{Q:Nat}{ws:List ByteArray}{ps:PS}{al:List ci}{vv pv nvv:Value}(h:Sh w S c (.pointer (some ⟨Q,0,none⟩)) hv kv wv KV WV K s)(hC:Cp w Q ws ps al vv pv nvv)(kD:c.nds=ps.nodes)(hN:sQ c.nds)(hF:eP w x.A x.f x.av x.ov)(hT:Td x.f)(hd:∀k∈x.bs,k ∉ cY S hv kv wv KV WV){n:Nat}(hn:n<K.length)(ye:K.length<=100000){fuel:Nat}(bm:(pm c fuel n x.f s).ok=true):
  Calls prog 173 #[.pointer (some ⟨S,0,none⟩),.int .i64 n,.pointer (some ⟨x.A,0,none⟩)] w λe w'=>e=.returned (.tuple #[])/\ik w S c (.pointer (some ⟨Q,0,none⟩)) hv kv wv KV WV K [] (pm c fuel n x.f s) w':=by
 have jO:=h.nl;obtain⟨nd,dF⟩:∃nd,nd=c.nds.getD n aI:=⟨_,rfl⟩;have IJ:=hN.v n;have pq:=hN.op n;have vX:=hN.nx n (by omega);have Mr:=hN.ot n (by omega);rw[<-dF]at IJ pq vX Mr;have hndA:ndA ps.nodes n=nd:=by rw[dF,kD];rfl
 have HAT:Hid (Calls prog 103 #[.pointer (some ⟨Q,0,none⟩),.int .i64 n] w λe w'=>e=.returned (.agg #[.int .i64 (nd.op:Int),.int .i64 (nd.v:Int),.int .i64 (nd.ak:Int),.int .i64 (nd.ai:Int),.int .i64 (nd.nx:Int),.int .i64 (nd.ot:Int)])/\Below w.heap.size w w'):=ab (by
  have h1:=YW n hC (by rw[<-kD];omega);rw[hndA]at h1;exact h1)
 obtain⟨⟨onx,oot,nu,da,fu⟩,ho⟩:∃o,o=cj nd x.f:=⟨_,rfl⟩;have sn:(∀x∈onx,Td x)/\∀x∈oot,Td x:=by
  have h1:=jG IJ.1 IJ.2 hT;rw[<-ho]at h1;exact h1
 obtain⟨b1,bz⟩:∃b1,b1=(decide (nd.op=0)&&!decide (dc x.f=[])):=⟨_,rfl⟩;have aP:pm c fuel n x.f s=oot.foldl (λs g=>dU c fuel n nd.ot g s) (onx.foldl (λs g=>dU c fuel n nd.nx g s) (fuS fu (wrI da n 4 (wrI nu n 3 (wrI b1 n 2 s))))):=by
  unfold pm;simp only;rw[<-dF,<-ho,<-bz]
 rw[aP]at bm ⊢;have agn:onx≠[]->nd.nx<K.length:=λe=>by rw[<-jO];exact vX (rS (by rw[<-ho];exact e))
 have agB:oot≠[]->nd.ot<K.length:=λe=>by rw[<-jO];exact Mr (rT (by rw[<-ho];exact e))
 obtain⟨wB,wC,gA,cA,SK,Uv,-,-,-⟩:=h.wc hn;subst SK;have c0':=h.bs.cell 0 rfl;have H:=ab h;have HF:=ab hF;have HT:=ab hT;have HD:=ab hd;have HO:=ab ho;have f8:=ab bz;have Hc:=ab sn;have qn:=ab (zq2 agn agB);have mq:=ab bm;have Tm:=ab Uv;have YB:=ab (zq2 IJ pq);obtain⟨eH,dK⟩:∃eH:World->Prop,eH=λw'=>ik w S c (.pointer (some ⟨Q,0,none⟩)) hv kv (.slice (some ⟨wB,0,none⟩) K.length wC) KV WV K [] (oot.foldl (λs g=>dU c fuel n nd.ot g s) (onx.foldl (λs g=>dU c fuel n nd.nx g s) (fuS fu (wrI da n 4 (wrI nu n 3 (wrI b1 n 2 s)))))) w':=⟨_,rfl⟩;have gC:=ab dK;rw[show(fun(e:Ending) (w':World)=>e=.returned (.tuple #[])/\ik w S c (.pointer (some ⟨Q,0,none⟩)) hv kv (.slice (some ⟨wB,0,none⟩) K.length wC) KV WV K [] (oot.foldl (λs g=>dU c fuel n nd.ot g s) (onx.foldl (λs g=>dU c fuel n nd.nx g s) (fuS fu (wrI da n 4 (wrI nu n 3 (wrI b1 n 2 s)))))) w')=(λe w'=>e=.returned (.tuple #[])/\eH w') by rw[dK]];have i1:(0:Int)<=(n:Int):=by omega
 have i2:(n:Int)<(K.length:Int):=by omega
 clear h hC kD hN hF hT hd dF IJ pq vX Mr hndA sn aP agn agB bm Uv ho bz dK jO;go_enter func173,ntmps173;go_wp2_with fail
 refine(uh HAT).mono ?_;rintro e w1 ⟨rfl,Ux⟩;obtain⟨W2,jt⟩:∃W2,W2=w1.alloc (.cells #[Value.int .i64 (nd.op:Int),.int .i64 (nd.v:Int),.int .i64 (nd.ak:Int),.int .i64 (nd.ai:Int),.int .i64 (nd.nx:Int),.int .i64 (nd.ot:Int)] 186):=⟨_,rfl⟩;have ce:Below w1.heap.size w1 W2:=by rw[jt];exact ah w1 _
 have mZ:Bk W2 w1.heap.size 186 nd.cells:=by rw[jt];exact Bk.new w1 _ _
 have aW:=Ux.trans (ce.mono Ux.size);obtain⟨Y,xM⟩:∃Y,Y=w1.heap.size:=⟨_,rfl⟩;rw[<-xM]at mZ;have hYw:w.heap.size<=Y:=by rw[xM];exact Ux.size
 have y0:=mZ.cell 0 rfl;have H2:=ab (zq2 aW (zq2 mZ hYw));have B4:=ab (wm ((uh HF).below aW) (uh HT).ok);clear ce mZ aW Ux hYw HAT c0';go_upto_region 1 with fail;rw[<-jt,<-xM];clear jt xM;go_cut [26] (λbv wx=>bv=.bool b1/\Hid (Below W2.heap.size W2 wx))
 case first =>
  by_cases K7:nd.op=0
  .have d0:((nd.op:Int)==(0:Int))=true:=(by simp[K7]);by_cases jN:dc x.f=[]
   .have d1:decide (0<(dc x.f).length)=false:=(by rw[jN];rfl);have MF:Hid (b1=false):=ab (by rw[uh f8];simp[jN]);clear K7 jN;go_wp2_with fail
    refine(uh B4).mono ?_;rintro e w3 ⟨lv,rfl,tI,dx⟩;obtain⟨la,lc,it,-,-⟩:=am tI;subst it;have tA:=ab dx;clear tI dx;go_wp2_with fail
    go_meet
    exact⟨by rw[uh MF],tA⟩
   .have d1:decide (0<(dc x.f).length)=true:=by
     have:(dc x.f).length≠0:=λe=>jN (length_eq_zero_iff.1 e);rw[decide_eq_true_eq];omega
    have MF:Hid (b1=true):=ab (by rw[uh f8];simp[K7,jN]);clear K7 jN;go_wp2_with fail
    refine(uh B4).mono ?_;rintro e w3 ⟨lv,rfl,tI,dx⟩;obtain⟨la,lc,it,-,-⟩:=am tI;subst it;have tA:=ab dx;clear tI dx;go_wp2_with fail
    go_meet
    exact⟨by rw[uh MF],tA⟩
  .have d0:((nd.op:Int)==(0:Int))=false:=(by simp;omega);have MF:Hid (b1=false):=ab (by rw[uh f8];simp[K7]);clear K7;go_wp2_with fail
   go_meet
   exact⟨by rw[uh MF],ab (Below.refl _ _)⟩
 case rest =>
  obtain⟨rfl,Uf⟩:=hcut;have h3:=((uh H).below (uh H2).1).below (uh Uf);have dx:=(uh H2).1.trans ((uh Uf).mono (uh H2).1.size);have hY3:=(uh H2).2.1.below (uh Uf);have Ev:=(uh HF).below dx;have H3:=ab (zq2 h3 (zq2 (ii.below (F:=(cY S hv kv (.slice (some ⟨wB,0,none⟩) K.length wC) KV WV)) (D:=er K) (X:=[]) dx) (zq2 hY3 Ev)));clear h3 dx hY3 Ev B4 y0;go_upto_if 26 with fail
  go_cut [] (λwx=>Hid (Sh wx S c (.pointer (some ⟨Q,0,none⟩)) hv kv (.slice (some ⟨wB,0,none⟩) K.length wC) KV WV K (wrI b1 n 2 s)/\ii w wx (cY S hv kv (.slice (some ⟨wB,0,none⟩) K.length wC) KV WV) (cY S hv kv (.slice (some ⟨wB,0,none⟩) K.length wC) KV WV) (er K) (er K) []/\Bk wx Y 186 nd.cells/\eP wx x.A x.f x.av x.ov))
  case first =>
   cases b1
   rotate_left
   .obtain⟨h3,hg3,hY3,Ev⟩:=uh H3;obtain⟨d4,dw,dt,dz⟩:=h3.wcs hn (uh Tm);have dt':=dt 2 (by omega);have dz':=dz 2;obtain⟨hb,xQ⟩:=h3.bad hn (t:=2) (by omega) (uh Tm);have hYg:Y≠gA:=λe=>by
     have h1:=(uh H).lt gA xQ;have h2:=(uh H2).2.2;omega
    have HN:Hid (Sh (wc.setCell ⟨gA,2,none⟩ (.bool true)) S c (.pointer (some ⟨Q,0,none⟩)) hv kv (.slice (some ⟨wB,0,none⟩) K.length wC) KV WV K (wrI true n 2 s)/\ii w (wc.setCell ⟨gA,2,none⟩ (.bool true)) (cY S hv kv (.slice (some ⟨wB,0,none⟩) K.length wC) KV WV) (cY S hv kv (.slice (some ⟨wB,0,none⟩) K.length wC) KV WV) (er K) (er K) []/\Bk (wc.setCell ⟨gA,2,none⟩ (.bool true)) Y 186 nd.cells/\eP (wc.setCell ⟨gA,2,none⟩ (.bool true)) x.A x.f x.av x.ov):=ab (by
     rw[show(wrI true n 2 s)=kO n 2 s from rfl];exact⟨hb,hg3.trans (ii.stp (X:=[]) ((ar.refl [gA] wc).setCell (p:=⟨gA,2,none⟩) (zq0 (by simp)) (.bool true)) (λk hk=>zq0 (by rw[mem_singleton]at hk;rw[hk];exact xQ))) (λk hk=>by simp at hk),hY3.setO (p:=⟨gA,2,none⟩) (λe=>hYg e.symm) _,Ev.of_eq (λk hk=>heap_setCell _ _ _ _ (λe=>uh HD k hk (by rw[show k=gA from e];exact xQ)))⟩)
    clear h3 hg3 hY3 Ev dt dz hb xQ hYg H3;go_wp2_with fail
    go_meet
    exact HN
   .have HN:Hid (Sh wc S c (.pointer (some ⟨Q,0,none⟩)) hv kv (.slice (some ⟨wB,0,none⟩) K.length wC) KV WV K (wrI false n 2 s)/\ii w wc (cY S hv kv (.slice (some ⟨wB,0,none⟩) K.length wC) KV WV) (cY S hv kv (.slice (some ⟨wB,0,none⟩) K.length wC) KV WV) (er K) (er K) []/\Bk wc Y 186 nd.cells/\eP wc x.A x.f x.av x.ov):=ab (by
     rw[show(wrI false n 2 s)=s from rfl];exact uh H3)
    clear H3;go_wp2_with fail
    go_meet
    exact HN
  case rest =>
   obtain⟨h4,Mp,Xk,r9⟩:=uh hcut;have y0:=Xk.cell 0 rfl;have y1:=Xk.cell 1 rfl;have y2:=Xk.cell 2 rfl;have y3:=Xk.cell 3 rfl;have y4:=Xk.cell 4 rfl;have y5:=Xk.cell 5 rfl;have G0:=ab (NS (n:=nd) r9 (uh HT) (uh YB).1.1 (uh YB).1.2 (uh YB).2);unfold SN at G0;have H4:=ab (zq2 h4 (zq2 Mp Xk));clear h4 Mp Xk r9 hcut H3;go_wp2_with fail
   refine(uh G0).mono ?_;rintro e w5 ⟨O,rfl,nv,tv,Ln,Lt,tL,kq,yu,cW,et⟩;rw[<-uh HO]at tL kq yu;simp only at tL kq yu;have Xl:=(uh H4).2.2.lt;have vN:∀k,w.heap.size<=k->(k ∉ (cY S hv kv (.slice (some ⟨wB,0,none⟩) K.length wC) KV WV)/\k ∉ er K)/\w.heap.size<=k:=λk hk=>⟨⟨λe=>by have:=(uh H).lt k e;omega,λe=>by have:=(uh H).drlt k e;omega⟩,hk⟩;have HX:Hid (Sx w w5 S c (.pointer (some ⟨Q,0,none⟩)) hv kv (.slice (some ⟨wB,0,none⟩) K.length wC) KV WV K (wrI b1 n 2 s) O nu da fu nv tv Ln Lt Y nd):=ab ⟨(uh H4).1.below et,(uh H4).2.1.trans (ii.below (X:=[]) et) (λk hk=>by simp at hk),tL,(uh H4).2.2.below et,λk hk=>by
    rcases mem_cons.1 hk with p|p
    .rw[p];exact vN Y (uh H2).2.2
    .exact vN k (zq3 (uh H4).2.1.st.size (cW k p)),λe=>by have:=cW Y e;omega⟩
   have HM:=ab (zq2 kq yu);clear tL kq yu cW et Xl vN H4 G0 y0 y1 y2 y3 y4 y5;have o2:=(uh HX).oo.bk.cell 2 rfl;go_upto_if 41 with fail
   go_cut [] (λwx=>Hid (Sx w wx S c (.pointer (some ⟨Q,0,none⟩)) hv kv (.slice (some ⟨wB,0,none⟩) K.length wC) KV WV K (wrI nu n 3 (wrI b1 n 2 s)) O nu da fu nv tv Ln Lt Y nd))
   case first =>
    cases nu
    .go_wp2_with fail
     go_meet
     exact HX
    .obtain⟨d4,dw,dt,dz⟩:=(uh HX).sh.wcs hn (uh Tm);have dt':=dt 3 (by omega);have dz':=dz 3;have HN:=ab ((uh HX).bad hn (t:=3) (by omega) (uh Tm));clear dt dz;go_wp2_with fail
     go_meet
     exact HN
   case rest =>
   clear o2 HX;have HX:=ab (uh hcut);clear hcut;have o3:=(uh HX).oo.bk.cell 3 rfl;go_upto_if 53 with fail
   go_cut [] (λwx=>Hid (Sx w wx S c (.pointer (some ⟨Q,0,none⟩)) hv kv (.slice (some ⟨wB,0,none⟩) K.length wC) KV WV K (wrI da n 4 (wrI nu n 3 (wrI b1 n 2 s))) O nu da fu nv tv Ln Lt Y nd))
   case first =>
    cases da
    .go_wp2_with fail
     go_meet
     exact HX
    .obtain⟨d4,dw,dt,dz⟩:=(uh HX).sh.wcs hn (uh Tm);have dt':=dt 4 (by omega);have dz':=dz 4;have HN:=ab ((uh HX).bad hn (t:=4) (by omega) (uh Tm));clear dt dz;go_wp2_with fail
     go_meet
     exact HN
   case rest =>
   clear o3 HX;have HX:=ab (uh hcut);clear hcut;have o4:=(uh HX).oo.bk.cell 4 rfl;go_upto_if 65 with fail
   go_cut [] (λwx=>Hid (Sx w wx S c (.pointer (some ⟨Q,0,none⟩)) hv kv (.slice (some ⟨wB,0,none⟩) K.length wC) KV WV K (fuS fu (wrI da n 4 (wrI nu n 3 (wrI b1 n 2 s)))) O nu da fu nv tv Ln Lt Y nd))
   case first =>
    cases fu
    .go_wp2_with fail
     go_meet
     exact ab (by rw[show fuS false (wrI da n 4 (wrI nu n 3 (wrI b1 n 2 s)))=(wrI da n 4 (wrI nu n 3 (wrI b1 n 2 s))) by unfold fuS;rw[Bool.or_false]];exact uh HX)
    .have e8:=(uh HX).sh.bs.cell 8 rfl;have z8:=(uh HX).sh.bs.frz 8;have HN:=ab (uh HX).full;go_wp2_with fail
     go_meet
     exact ab (by rw[show fuS true (wrI da n 4 (wrI nu n 3 (wrI b1 n 2 s)))={ (wrI da n 4 (wrI nu n 3 (wrI b1 n 2 s))) with fu:=true } by unfold fuS;rw[Bool.or_true]];exact uh HN)
   case rest =>
   clear o4 HX;obtain⟨s2,gS⟩:∃s2,s2=(fuS fu (wrI da n 4 (wrI nu n 3 (wrI b1 n 2 s)))):=⟨_,rfl⟩;rw[<-gS]at hcut gC mq;obtain⟨s3,gi⟩:∃s3,s3=onx.foldl (λs g=>dU c fuel n nd.nx g s) s2:=⟨_,rfl⟩;rw[<-gi]at gC mq;have hX:=uh hcut;have htLn:∀y∈Ln,Td y.f:=λy hy=>(uh Hc).1 _ (by rw[<-(uh HM).1];exact mem_map_of_mem hy);have htLt:∀y∈Lt,Td y.f:=λy hy=>(uh Hc).2 _ (by rw[<-(uh HM).2];exact mem_map_of_mem hy);have zj:=hX.lp htLn;have dh:Hid ((∀k∈be tv Lt,w.heap.size<=k)/\Y ∉ be tv Lt/\∀y∈Lt,Td y.f):=ab ⟨λk hk=>(hX.on k (by simp only[eQ,mem_cons,mem_append];exact zq1 (zq1 (zq1 hk)))).2,λe=>hX.yn (by simp only[eQ,mem_cons,mem_append];exact zq1 (zq1 e)),htLt⟩;obtain⟨na,nc,K6,alH,alI⟩:=am hX.oo.nx.row;obtain⟨ta,tc,htv,amb,amc⟩:=am hX.oo.ot.row;have oc:=hX.oo.bk.cell 0 rfl;have cF:Hid (Lp w wc S c (.pointer (some ⟨Q,0,none⟩)) hv kv (.slice (some ⟨wB,0,none⟩) K.length wC) KV WV K [] KV K s2 nv Ln 0 (Y::O::be tv Lt)/\((Ln.drop 0).map (·.f)).foldl (λs g=>dU c fuel n nd.nx g s) s2=s3/\Bk wc Y 186 nd.cells/\Bk wc O 280 [nv,tv,.bool nu,.bool da,.bool fu]/\Fl wc 0 tv Lt):=ab ⟨zj,by rw[drop_zero,(uh HM).1,gi],hX.bx,hX.oo.bk,hX.oo.ot⟩;subst K6;subst htv;have aq2:Ln.length<=9223372036854775807:=(by omega);have aq3:Lt.length<=9223372036854775807:=(by omega);clear hX zj htLn htLt gS gi hcut alH alI amb amc;go_wp2_with fail
   go_loopg [74] Ln.length (λgn iv wx=>∃(j:Nat) (KV':List Value) (K':List (List En)) (s':Sr),j+gn=Ln.length/\iv=.int .i64 j/\Hid (Lp w wx S c (.pointer (some ⟨Q,0,none⟩)) hv kv (.slice (some ⟨wB,0,none⟩) K.length wC) KV WV K [] KV' K' s' (.slice na Ln.length nc) Ln j (Y::O::be (.slice ta Lt.length tc) Lt)/\((Ln.drop j).map (·.f)).foldl (λs g=>dU c fuel n nd.nx g s) s'=s3/\Bk wx Y 186 nd.cells/\Bk wx O 280 [.slice na Ln.length nc,.slice ta Lt.length tc,.bool nu,.bool da,.bool fu]/\Fl wx 0 (.slice ta Lt.length tc) Lt))
   case atStart=>exact⟨0,KV,K,s2,by omega,rfl,cF⟩
   case round =>
    clear cF oc;obtain⟨j,KV',K',s',Co,rfl,hI⟩:=hrel;obtain⟨G1,ze⟩:∃G1,G1=gk:=⟨_,rfl⟩;by_cases au:j<Ln.length
    .have kY:decide ((j:Int)<(Ln.length:Int))=true:=(by simp;omega);obtain⟨h1,h2,h3,h4,h5⟩:=uh hI;obtain⟨g2,cap2,db,ax⟩:=h1.pn.pe.cell au;simp only[Value.slice.injEq,true_and]at db;obtain⟨rfl,rfl⟩:=db;obtain⟨n1,-,-,-,n5⟩:=h1.pn.pe.next au;have PM:=h1.pn.td _ (getElem_mem au);have O7:∀k∈Ln[j].bs,k ∉ cY S hv kv (.slice (some ⟨wB,0,none⟩) K.length wC) KV' WV/\k ∉ er K':=λk hk=>h1.pn.fd k (n5 k hk);have nX:Ln.drop j=Ln[j]::Ln.drop (j+1):=drop_eq_getElem_cons au;rw[nX,map_cons,foldl_cons]at h2;have qL:(dU c fuel n nd.nx Ln[j].f s').ok=true:=eR _ (by rw[h2];exact eR _ (uh mq));have aH:onx≠[]:=λe=>by
      have h9:=congrArg List.length (uh HM).1;rw[e,length_map,length_nil]at h9;omega
     have hnn:=(uh qn).1 aH;have gJ:=h1.kl;have y4:=h3.cell 4 rfl;have ZN:∀w' ,ik wr S c (.pointer (some ⟨Q,0,none⟩)) hv kv (.slice (some ⟨wB,0,none⟩) K.length wC) KV' WV K' Ln[j].bs (dU c fuel n nd.nx Ln[j].f s') w'->∃tC K2,Lp w w' S c (.pointer (some ⟨Q,0,none⟩)) hv kv (.slice (some ⟨wB,0,none⟩) K.length wC) KV WV K [] tC K2 (dU c fuel n nd.nx Ln[j].f s') (.slice (some ⟨g2,0,none⟩) Ln.length nc) Ln (j+1) (Y::O::be (.slice ta Lt.length tc) Lt)/\Bk w' Y 186 nd.cells/\Bk w' O 280 [.slice (some ⟨g2,0,none⟩) Ln.length nc,.slice ta Lt.length tc,.bool nu,.bool da,.bool fu]/\Fl w' 0 (.slice ta Lt.length tc) Lt:=λw' hP=>by
      obtain⟨tC,K2,q1,q2⟩:=h1.next au hP;exact⟨tC,K2,q1,h3.of_eq (q2 Y (by simp)),h4.of_eq (q2 O (by simp)),h5.of_eq (λk hk=>q2 k (mem_cons_of_mem _ (mem_cons_of_mem _ hk)))⟩
     obtain⟨y,hy⟩:∃y,y=Ln[j]:=⟨_,rfl⟩;rw[<-hy]at ax n1 PM O7 h2 qL ZN;have IN:y.p=.pointer (some ⟨y.A,0,none⟩):=rfl;rw[IN]at ax;have SY:=ab (rO h1.sh n1 PM O7 (a:=n) (n:=nd.nx) (by omega) (by omega) (by omega) qL);have uW:=ab (zq2 ZN h2);have k1:(0:Int)<=(j:Int):=(by omega);have k2:(j:Int)<(Ln.length:Int):=(by omega);clear h1 h2 h3 h4 h5 n1 n5 PM O7 nX qL aH hnn gJ ZN hy IN hI;go_wp2_with fail
     refine(uh SY).mono ?_;rintro e w6 ⟨rfl,hP⟩;obtain⟨tC,K2,q1,q2,q3,q4⟩:=(uh uW).1 w6 hP;have HN:=ab (zq2 q1 (zq2 (uh uW).2 (zq2 q2 (zq2 q3 q4))));clear hP q1 q2 q3 q4 SY uW y4 ax;go_wp2_with fail
     go_roundg (G1-1)
     case rel=>exact⟨j+1,tC,K2,_,by omega,by go_num,HN⟩
     case measure=>omega
    .have kY:decide ((j:Int)<(Ln.length:Int))=false:=(by simp;omega);obtain⟨h1,h2,h3,h4,h5⟩:=uh hI;rw[drop_eq_nil_of_le (by omega)]at h2;have gi:s'=s3:=h2;subst gi;have o1:=h4.cell 1 rfl;have oO:Hid (Lp w wr S c (.pointer (some ⟨Q,0,none⟩)) hv kv (.slice (some ⟨wB,0,none⟩) K.length wC) KV WV K [] KV' K' s' (.slice ta Lt.length tc) Lt 0 [Y]/\((Lt.drop 0).map (·.f)).foldl (λs g=>dU c fuel n nd.ot g s) s'=oot.foldl (λs g=>dU c fuel n nd.ot g s) s'/\Bk wr Y 186 nd.cells):=ab ⟨h1.turn h5 (uh dh).2.2 (uh dh).1 (uh dh).2.1,by rw[drop_zero,(uh HM).2],h3⟩;clear h1 h2 h3 h4 h5 hI;go_wp2_with fail
     go_loopg [90] Lt.length (λgn iv wx=>∃(j:Nat) (tC:List Value) (K2:List (List En)) (s2:Sr),j+gn=Lt.length/\iv=.int .i64 j/\Hid (Lp w wx S c (.pointer (some ⟨Q,0,none⟩)) hv kv (.slice (some ⟨wB,0,none⟩) K.length wC) KV WV K [] tC K2 s2 (.slice ta Lt.length tc) Lt j [Y]/\((Lt.drop j).map (·.f)).foldl (λs g=>dU c fuel n nd.ot g s) s2=oot.foldl (λs g=>dU c fuel n nd.ot g s) s'/\Bk wx Y 186 nd.cells))
     case atStart=>exact⟨0,KV',K',s',by omega,rfl,oO⟩
     case round =>
      clear oO o1;obtain⟨i,tC,K2,sb,arA,rfl,hI⟩:=hrel;obtain⟨G2,FB⟩:∃G2,G2=gk:=⟨_,rfl⟩;by_cases b7:i<Lt.length
      .have hd3:decide ((i:Int)<(Lt.length:Int))=true:=(by simp;omega);obtain⟨h1,h2,h3⟩:=uh hI;obtain⟨g2,cap2,db,ax⟩:=h1.pn.pe.cell b7;simp only[Value.slice.injEq,true_and]at db;obtain⟨rfl,rfl⟩:=db;obtain⟨n1,-,-,-,n5⟩:=h1.pn.pe.next b7;have PM:=h1.pn.td _ (getElem_mem b7);have O7:∀k∈Lt[i].bs,k ∉ cY S hv kv (.slice (some ⟨wB,0,none⟩) K.length wC) tC WV/\k ∉ er K2:=λk hk=>h1.pn.fd k (n5 k hk);have nX:Lt.drop i=Lt[i]::Lt.drop (i+1):=drop_eq_getElem_cons b7;rw[nX,map_cons,foldl_cons]at h2;have qL:(dU c fuel n nd.ot Lt[i].f sb).ok=true:=eR _ (by rw[h2];exact uh mq);have aH:oot≠[]:=λe=>by
        have h9:=congrArg List.length (uh HM).2;rw[e,length_map,length_nil]at h9;omega
       have hnn:=(uh qn).2 aH;have gJ:=h1.kl;have y5:=h3.cell 5 rfl;have ZN:∀w' ,ik wr S c (.pointer (some ⟨Q,0,none⟩)) hv kv (.slice (some ⟨wB,0,none⟩) K.length wC) tC WV K2 Lt[i].bs (dU c fuel n nd.ot Lt[i].f sb) w'->∃YH K3,Lp w w' S c (.pointer (some ⟨Q,0,none⟩)) hv kv (.slice (some ⟨wB,0,none⟩) K.length wC) KV WV K [] YH K3 (dU c fuel n nd.ot Lt[i].f sb) (.slice (some ⟨g2,0,none⟩) Lt.length tc) Lt (i+1) [Y]/\Bk w' Y 186 nd.cells:=λw' hP=>by
        obtain⟨YH,K3,q1,q2⟩:=h1.next b7 hP;exact⟨YH,K3,q1,h3.of_eq (q2 Y (by simp))⟩
       obtain⟨y,hy⟩:∃y,y=Lt[i]:=⟨_,rfl⟩;rw[<-hy]at ax n1 PM O7 h2 qL ZN;have IN:y.p=.pointer (some ⟨y.A,0,none⟩):=rfl;rw[IN]at ax;have SY:=ab (rO h1.sh n1 PM O7 (a:=n) (n:=nd.ot) (by omega) (by omega) (by omega) qL);have uW:=ab (zq2 ZN h2);have k1:(0:Int)<=(i:Int):=(by omega);have k2:(i:Int)<(Lt.length:Int):=(by omega);clear h1 h2 h3 n1 n5 PM O7 nX qL aH hnn gJ ZN hy IN hI;go_wp2_with fail
       refine(uh SY).mono ?_;rintro e w6 ⟨rfl,hP⟩;obtain⟨YH,K3,q1,q2⟩:=(uh uW).1 w6 hP;have HN:=ab (zq2 q1 (zq2 (uh uW).2 q2));clear hP q1 q2 SY uW y5 ax;go_wp2_with fail
       go_roundg (G2-1)
       case rel=>exact⟨i+1,YH,K3,_,by omega,by go_num,HN⟩
       case measure=>omega
      .have hd3:decide ((i:Int)<(Lt.length:Int))=false:=(by simp;omega);have hP:eH wr:=by
        obtain⟨h1,h2,h3⟩:=uh hI;rw[drop_eq_nil_of_le (by omega)]at h2;rw[uh gC,<-h2];exact h1.end'
       have HP:=ab hP;clear hP hI;go_wp2_with fail
       go_end0
       exact⟨rfl,uh HP⟩
end
theorem GU(b:Bool)(n k:Nat)(s:Sr):(wrI b n k s).ok=s.ok:=by unfold wrI;split <;> rfl
theorem Rt{c:Cd}{fuel n:Nat}{f:CF}{s:Sr}(h:(pm c fuel n f s).ok=true):s.ok=true:=by
 unfold pm at h;simp only at h;have h1:=eR _ (eR _ h);have h2:(wrI (cj (c.nds.getD n aI) f).da n 4 (wrI (cj (c.nds.getD n aI) f).nu n 3 (wrI (decide ((c.nds.getD n aI).op=0)&&!decide (dc f=[])) n 2 s))).ok=true:=h1;rw[GU,GU,GU]at h2;exact h2
theorem nO{c:Cd}{fuel n:Nat}:∀(l:List CF) {s:Sr},(nN c fuel n l s).ok=true->s.ok=true
 |[],_,h=>h
 |f::l,s,h=>by
  unfold nN at h;split at h
  .exact h
  .exact Rt (nO l h)
def En.dn(e:En):En:={ e with d:=true }
theorem En.dn_of{e:En}(h:e.d=true):e.dn=e:=by cases e;simp only at h;subst h;rfl
def fV(l:List En)(k:Nat):List En:=(l.take k).map En.dn++l.drop k
theorem cV(l:List En)(k:Nat):(fV l k).length=l.length:=by unfold fV;simp;omega
theorem NW(l:List En):fV l 0=l:=rfl
theorem TN{l:List En}{k:Nat}(h:l.length<=k):fV l k=l.map En.dn:=by unfold fV;rw[take_of_length_le h,drop_eq_nil_of_le h,append_nil]
theorem Aq{l:List En}{k:Nat}(h:k<l.length):(fV l k)[k]?=some l[k]:=by
 unfold fV;rw[getElem?_append_right (by simp;omega),getElem?_drop];simp[Nat.min_eq_left (Nat.le_of_lt h),h]
theorem qB{l:List En}{k:Nat}(h:k<l.length):fV l (k+1)=(fV l k).set k l[k].dn:=by
 unfold fV;have e:((l.take k).map En.dn).length=k:=by simp;omega
 rw[set_append_right _ _ (by omega),e,Nat.sub_self,take_succ_eq_append_getElem h,map_append,drop_eq_getElem_cons h,set_cons_zero];simp
theorem NV{l:List En}{k:Nat}(h:k<l.length)(hd:l[k].d=true):fV l (k+1)=fV l k:=by
 rw[qB h,En.dn_of hd];apply ext_getElem?;intro i;rw[getElem?_set];split
 .rename_i e;subst e;rw[if_pos (by rw[cV];exact h),Aq h]
 .rfl
theorem Ic{l:List En}{k:Nat}{e:En}(h:e∈fV l k):∃e0∈l,e.bs=e0.bs/\(∀w,e0.ok w->e.ok w):=by
 unfold fV at h;rcases mem_append.1 h with h|h
 .obtain⟨e0,h0,rfl⟩:=mem_map.1 h;exact⟨e0,mem_of_mem_take h0,rfl,λw h=>h⟩
 .exact⟨e,mem_of_mem_drop h,rfl,λw h=>h⟩
theorem nK{α:Type}{l:List α}{d:α}{n:Nat}(h:n<l.length):l.set n (l.getD n d)=l:=by
 apply ext_getElem?;intro i;rw[getElem?_set];split
 .rename_i e;subst e;simp[h]
 .rfl
section
variable {w W:World} {S:Nat} {c:Cd} {c0 hv kv wv:Value} {KV WV:List Value} {K:List (List En)} {s:Sr} {n:Nat} {l:List En}
theorem Sh.done{k g cap:Nat}(h:Sh w S c c0 hv kv wv KV WV (K.set n (fV l k)) { s with kn:=s.kn.set n ((fV l k).map En.m) })(hn:n<K.length)(hk:k<l.length)(hg:KV.getD n aJ=.slice (some ⟨g,0,none⟩) l.length cap):
  Sh (w.setCell ⟨g,k*2+1,none⟩ (.bool true)) S c c0 hv kv wv KV WV (K.set n (fV l (k+1))) { s with kn:=s.kn.set n ((fV l (k+1)).map En.m) }/\g∈cY S hv kv wv KV WV:=by
 have zg:(K.set n (fV l k)).length=K.length:=length_set;have hKV:=h.kvl;rw[zg]at hKV;have Ct:(pA S hv kv wv KV WV)[4+n]?=some (some g):=by rw[yx (by omega),hg];rfl
 have xQ:g∈cY S hv kv wv KV WV:=bP Ct;have bp:=h.ke n (by rw[zg];exact hn);have e2:(K.set n (fV l k)).getD n []=fV l k:=by simp[hn]
 rw[e2,hg,cV]at bp;have aP:=(bp.stored (k*2+1) (.bool true)).1;have ax:(rF (fV l k)).set (k*2+1) (.bool true)=rF (fV l (k+1)):=by
  have h1:=Id (L:=fV l k) (i:=k) (by rw[cV];exact hk) l[k].dn;rw[<-qB hk]at h1;rw[<-h1];congr 1;symm;apply ext_getElem?;intro i;rw[getElem?_set];split
  .rename_i e;subst e;have h3:=(qC (L:=fV l k) (i:=k) (by rw[cV];exact hk)).1;have h4:=Aq hk;rw[getElem?_eq_getElem (by rw[cV];exact hk)]at h4;injection h4 with h4;rw[h4]at h3;rw[if_pos (by rw[TQ,cV];omega),h3];rfl
  .rfl
 rw[ax]at aP;have sl:=h.put (n:=n) (by rw[zg];exact hn) (w':=w.setCell ⟨g,k*2+1,none⟩ (.bool true)) (v':=.slice (some ⟨g,0,none⟩) l.length cap) (l':=fV l (k+1)) (λi j _ h4 hi=>heap_setCell _ _ _ _ (λe=>h4 (by
   rw[show j=g from e]at hi;exact h.nd i _ g hi Ct))) (by
   rw[zg,<-hg,nK (by omega)];refine cE (zg ▸ h.kr) (p:=⟨g,k*2+1,none⟩) (λe=>?_) _;have:=h.nd 2 (4+n) g (congrArg some e) Ct;omega) (by rw[cV];exact aP) (λj hj=>zq0 (by rw[hg];exact hj)) (λj hj=>heap_setCell _ _ _ _ (λe=>h.da j hj (by rw[show j=g from e];exact xQ))) (λe he=>by
   have cS:KV.set n (.slice (some ⟨g,0,none⟩) l.length cap)=KV:=(by rw[<-hg,nK (by omega)]);obtain⟨e0,h0,tH,ho0⟩:=Ic he;obtain⟨i,hi,KU⟩:=mem_iff_getElem.1 h0;have uo:∃e1∈fV l k,e1.bs=e0.bs/\(∀w',e1.ok w'->e0.ok w'):=by
    by_cases hik:i<k
    .refine⟨e0.dn,mem_append_left _ (mem_map_of_mem (mem_iff_getElem?.2 ⟨i,?_⟩)),rfl,λw' h=>h⟩;rw[getElem?_take,if_pos hik,getElem?_eq_getElem hi,KU]
    .refine⟨e0,mem_append_right _ (mem_iff_getElem?.2 ⟨i-k,?_⟩),rfl,λw' h=>h⟩;rw[getElem?_drop,show k+(i-k)=i by omega,getElem?_eq_getElem hi,KU]
   obtain⟨e1,h1,bz,ho1⟩:=uo;have hl:fV l k∈K.set n (fV l k):=mem_iff_getElem?.2 ⟨n,by rw[getElem?_set_self hn]⟩;have Xt:∀j∈e.bs,j∈er (K.set n (fV l k)):=λj hj=>bB.2 ⟨_,hl,e1,h1,by rw[bz,<-tH];exact hj⟩;refine⟨(ho0 w (ho1 w (h.dr _ hl e1 h1))).of_eq (λj hj=>heap_setCell _ _ _ _ (λe'=>h.da j (Xt j hj) (by rw[show j=g from e'];exact xQ))),λj hj hm=>?_⟩;rw[cS]at hm;exact h.da j (Xt j hj) hm)
 have cS:KV.set n (.slice (some ⟨g,0,none⟩) l.length cap)=KV:=by rw[<-hg,nK (by omega)]
 rw[cS,set_set]at sl;refine⟨sl.as (s':={ s with kn:=s.kn.set n ((fV l (k+1)).map En.m) }) ?_ rfl rfl rfl rfl,xQ⟩;show s.kn.set n _=(s.kn.set n _).set n _;rw[set_set]
theorem CQ(hl:l=K.getD n [])(hn:n<K.length)(k:Nat):∀j,j∈er (K.set n (fV l k))↔j∈er K:=by
 have hlK:l∈K:=by rw[hl,bF hn];exact getElem_mem hn
 intro j;constructor
 .intro hj;obtain⟨l2,h2,e,he,hj⟩:=bB.1 hj;rcases mem_or_eq_of_mem_set h2 with p|p
  .exact bB.2 ⟨l2,p,e,he,hj⟩
  .subst p;obtain⟨e0,h0,tH,-⟩:=Ic he;exact bB.2 ⟨l,hlK,e0,h0,by rw[<-tH];exact hj⟩
 .intro hj;obtain⟨l2,h2,e,he,hj⟩:=bB.1 hj;obtain⟨i,hi,KU⟩:=mem_iff_getElem.1 h2;by_cases uo:i=n
  .subst uo;have ym:l2=l:=(by rw[hl,bF hn];exact KU.symm);subst ym;obtain⟨q,hq,hqe⟩:=mem_iff_getElem.1 he;have hm:fV l2 k∈K.set i (fV l2 k):=mem_iff_getElem?.2 ⟨i,by rw[getElem?_set_self hi]⟩;by_cases hqk:q<k
   .refine bB.2 ⟨_,hm,e.dn,mem_append_left _ (mem_map_of_mem (mem_iff_getElem?.2 ⟨q,?_⟩)),hj⟩;rw[getElem?_take,if_pos hqk,getElem?_eq_getElem hq,hqe]
   .refine bB.2 ⟨_,hm,e,mem_append_right _ (mem_iff_getElem?.2 ⟨q-k,?_⟩),hj⟩;rw[getElem?_drop,show k+(q-k)=q by omega,getElem?_eq_getElem hq,hqe]
  .exact bB.2 ⟨l2,mem_iff_getElem?.2 ⟨i,by rw[getElem?_set_ne (λe=>uo e.symm),getElem?_eq_getElem hi,KU]⟩,e,he,hj⟩
end
