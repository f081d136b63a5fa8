import Derived.Test.YtciihepbeacppaaGreatM23
set_option maxRecDepth 100000
set_option maxHeartbeats 0
namespace Go.Proofs.YtciihepbeacppaaGreat
open Tryz Go.RowKit List World Below
set_option linter.unusedVariables false
def tU(g:Nat->List ii->Nat):Nat->List (List ii)->Nat
 |_,[]=>0
 |k,a::l=>g k a+tU g (k+1) l
theorem xx(g:Nat->List ii->Nat):∀(l:List (List ii)) (k n:Nat) (x:List ii),n<l.length->tU g k (l.set n x)+g (k+n) (l.getD n [])=tU g k l+g (k+n) x
 |[],k,n,x,h=>by simp at h
 |a::l,k,0,x,_=>by simp[tU];omega
 |a::l,k,n+1,x,h=>by
  have:=xx g l (k+1) n x (by simpa using h);rw[show k+1+n=k+(n+1) by omega]at this;simp only[set_cons_succ,tU,getD_cons_succ];omega
theorem Ef(g:Nat->List ii->Nat):∀(l:List (List ii)) (k n:Nat),n<l.length->g (k+n) (l.getD n [])<=tU g k l
 |[],k,n,h=>by simp at h
 |a::l,k,0,_=>by simp[tU]
 |a::l,k,n+1,h=>by
  have:=Ef g l (k+1) n (by simpa using h);rw[show k+1+n=k+(n+1) by omega]at this;simp only[tU,getD_cons_succ];omega
def LU(nds:List Nd)(s:Sr):Nat:=tU (λn l=>a7 (iz nds n) (mI l)) 0 s.kn
structure vm(c:Cd)(cu rest:Nat)(s:Sr):Prop where
 kl:s.kn.length=c.nds.length
 fo:∀n,∀e∈br s n,zZ c.nds n e.f
 un:∀n,cu<=n->∀e∈br s n,e.d=false
 dn:∀n,n<cu->∀e∈br s n,e.d=true
 tw:LU c.nds s+rest<=tH
 ok:s.ok=true
theorem aci(nds:List Nd)(n:Nat)(f:CF):1<=iz nds n f:=Nat.mul_pos (Nat.pow_pos (by omega)) (Nat.pow_pos (by omega))
theorem I7{nds:List Nd}{n:Nat}:∀(l:List CF),l.length<=a7 (iz nds n) l
 |[]=>by simp
 |f::l=>by
  have:=aci nds n f;have:=I7 (nds:=nds) (n:=n) l;simp only[a7,length_cons];omega
theorem Is{l:List ii}(h:∀e∈l,e.d=false):mI l=l.map (·.f):=by
 unfold mI;rw[filter_eq_self.2 (λe he=>by rw[h e he];rfl)]
theorem Vc{s:Sr}{n:Nat}(h:s.kn.length<=n):br s n=[]:=by unfold br;rw[getD_eq_getElem?_getD,getElem?_eq_none h];rfl
theorem og{s:Sr}{n m:Nat}{x:List ii}{s':Sr}(e:s'.kn=s.kn.set n x):br s' m=if m=n/\n<s.kn.length then x else br s m:=by
 unfold br;rw[e,getD_eq_getElem?_getD,getElem?_set];by_cases h:n=m
 .subst h;by_cases hl:n<s.kn.length
  .simp[hl]
  .rw[if_pos rfl,if_neg hl,if_neg (by simp[hl]),getD_eq_getElem?_getD,getElem?_eq_none (by omega)]
 .rw[if_neg h,if_neg (by rintro⟨rfl,-⟩;exact h rfl),getD_eq_getElem?_getD]
theorem vm.len{c:Cd}{cu rest n:Nat}{s:Sr}(h:vm c cu rest s)(hn:cu<=n):(br s n).length<=tH:=by
 by_cases hl:n<s.kn.length
 .have h1:=Ef (λn l=>a7 (iz c.nds n) (mI l)) s.kn 0 n hl;have h2:(br s n).length<=a7 (iz c.nds n) (mI (br s n)):=by
   have h3:=I7 (nds:=c.nds) (n:=n) (mI (br s n));rw[Is (h.un n hn),length_map]at h3;rw[Is (h.un n hn)];exact h3
  have h3:=h.tw;unfold LU at h3;rw[Nat.zero_add]at h1;have h4:(br s n).length<=tU (λn l=>a7 (iz c.nds n) (mI l)) 0 s.kn:=zq3 h2 h1;omega
 .rw[Vc (by omega)];simp
structure YO(c:Cd):Prop where
 lp:c.lp=false
 bd:c.bd=false
 hd:∀n,c.hd.getD n false=false
 fw:Fwd c.nds
theorem DG{c:Cd}(hc:YO c){cu rest n:Nat}(hn:cu<=n){f:CF}(hf:zZ c.nds n f){s:Sr}(h:vm c cu (rest+iz c.nds n f) s):vm c cu rest (bz c n f s):=by
 have hN:bI c n f=f:=by unfold bI;rw[if_neg (by rw[hc.hd n];decide)]
 have dO:=h.len hn;unfold bz;rw[hN];split
 .exact⟨h.kl,h.fo,h.un,h.dn,by have:=h.tw;show LU c.nds s+rest<=tH;omega,by show(s.ok&&decide ((br s n).length<=tH))=true;rw[h.ok];simpa using dO⟩
 .obtain⟨x,hx⟩:∃x,x=(br s n).filter (λe=>!Ei e.f f)++[⟨f,false⟩]:=⟨_,rfl⟩;obtain⟨s',hs'⟩:∃s',s'=sL c (pX n f (oZ c s (2*(br s n).length))):=⟨_,rfl⟩;have gw:s'.kn=s.kn.set n x:=by rw[hs',hx];rfl
  have bn:s'.ok=true:=by rw[hs'];show(s.ok&&decide ((br s n).length<=tH))=true;rw[h.ok];simpa using dO
  rw[<-hs'];refine⟨by rw[gw,length_set];exact h.kl,λm e he=>?_,λm hm e he=>?_,λm hm e he=>?_,?_,bn⟩
  .rw[og gw]at he;split at he
   .rename_i hm;rw[hm.1];rw[hx]at he;rcases mem_append.1 he with he|he
    .exact h.fo n e (mem_filter.1 he).1
    .rw[mem_singleton]at he;subst he;exact hf
   .exact h.fo m e he
  .rw[og gw]at he;split at he
   .rw[hx]at he;rcases mem_append.1 he with he|he
    .exact h.un n hn e (mem_filter.1 he).1
    .rw[mem_singleton]at he;subst he;rfl
   .exact h.un m hm e he
  .rw[og gw,if_neg (by rintro⟨rfl,-⟩;omega)]at he;exact h.dn m hm e he
  .have htw:=h.tw;unfold LU at htw ⊢;rw[gw];by_cases hl:n<s.kn.length
   .have h1:=xx (λn l=>a7 (iz c.nds n) (mI l)) s.kn 0 n x hl;rw[Nat.zero_add]at h1;have h2:a7 (iz c.nds n) (mI x)<=a7 (iz c.nds n) (mI (br s n))+iz c.nds n f:=by
     have e1:mI x=mI ((br s n).filter (λe=>!Ei e.f f))++[f]:=by
      rw[hx];unfold mI;rw[filter_append,map_append];rfl
     rw[e1,Ee];have h3:a7 (iz c.nds n) (mI ((br s n).filter (λe=>!Ei e.f f)))<=a7 (iz c.nds n) (mI (br s n)):=RC _ ((filter_sublist.filter _).map _);simp only[a7];omega
    have h3:a7 (iz c.nds n) (mI (s.kn.getD n []))=a7 (iz c.nds n) (mI (br s n)):=rfl;omega
   .rw[set_eq_of_length_le (by omega)];omega
theorem DE{c:Cd}(hc:YO c){cu n fuel a:Nat}(hn:cu<=n):∀(l:List CF) {rest:Nat} {s:Sr},(∀f∈l,zZ c.nds n f)->vm c cu (rest+a7 (iz c.nds n) l) s->vm c cu rest (l.foldl (λs g=>dV c fuel a n g s) s)
 |[],rest,s,_,h=>h
 |f::l,rest,s,hl,h=>by
  have e:dV c fuel a n f s=bz c n f s:=by unfold dV;rw[if_pos (zq0 hc.lp)]
  rw[foldl_cons,e];refine DE hc hn l (λg hg=>hl g (by simp[hg])) (DG hc hn (hl f (by simp)) ?_);have e2:rest+a7 (iz c.nds n) (f::l)=rest+a7 (iz c.nds n) l+iz c.nds n f:=by simp only[a7];omega
  rw[<-e2];exact h
theorem vm.wrI{c:Cd}{cu rest n k:Nat}{b:Bool}{s:Sr}(h:vm c cu rest s):vm c cu rest (wrI b n k s):=by
 unfold Go.Proofs.YtciihepbeacppaaGreat.wrI;split
 .exact⟨h.kl,h.fo,h.un,h.dn,h.tw,h.ok⟩
 .exact h
theorem vm.fuS{c:Cd}{cu rest:Nat}{b:Bool}{s:Sr}(h:vm c cu rest s):vm c cu rest (fuS b s):=⟨h.kl,h.fo,h.un,h.dn,h.tw,h.ok⟩
theorem Wc{c:Cd}(hc:YO c){n rest fuel:Nat}(hn:n<c.nds.length){f:CF}(hf:zZ c.nds n f){s:Sr}(h:vm c (n+1) (rest+iz c.nds n f) s):vm c (n+1) rest (po c fuel n f s):=by
 have hw:=aeJ hc.fw hn hf;have v7:=hc.fw.nx n hn;have Mu:=hc.fw.ot n hn;obtain⟨o,ho⟩:∃o,o=cn (c.nds.getD n aI) f:=⟨_,rfl⟩;have tM:o.nx≠[]->n<(c.nds.getD n aI).nx:=λaH=>v7 (λe=>aH (by rw[ho];unfold cn;rw[if_pos e];rfl));have ama:o.ot≠[]->n<(c.nds.getD n aI).ot:=λaH=>Mu (by
  apply Classical.byContradiction;intro hT;apply aH;have ZW:¬ ((c.nds.getD n aI).op=7\/(c.nds.getD n aI).op=8\/(c.nds.getD n aI).op=9):=by simpa[xX] using hT
  rw[ho];unfold cn;split
  .rfl
  .split
   .rfl
   .split
    .rfl
    .split
     .rfl
     .split
      .split <;> rfl
      .split
       .rfl
       .split
        .exact absurd (zq0 (by assumption)) ZW
        .split
         .exact absurd (zq1 (zq0 (by assumption))) ZW
         .split
          .exact absurd (zq1 (zq1 (by assumption))) ZW
          .rfl)
 rw[<-ho]at hw;unfold po;simp only[<-ho];have lay1:∀{l:List CF} {m rest:Nat} {s:Sr},(l≠[]->n<m)->(∀g∈l,zZ c.nds m g)->vm c (n+1) (rest+a7 (iz c.nds m) l) s->vm c (n+1) rest (l.foldl (λs g=>dV c fuel n m g s) s):=by
  intro l m rest s hm hl hs;by_cases e:l=[]
  .subst e;exact hs
  .exact DE hc (hm e) l hl hs
 refine lay1 ama hw.ot (lay1 tM hw.nx ?_);have h1:vm c (n+1) (rest+a7 (iz c.nds (c.nds.getD n aI).ot) o.ot+a7 (iz c.nds (c.nds.getD n aI).nx) o.nx) s:=⟨h.kl,h.fo,h.un,h.dn,by have:=h.tw;have:=hw.w;omega,h.ok⟩;exact h1.wrI.wrI.wrI.fuS
theorem JZ{c:Cd}(hc:YO c){n fuel:Nat}(hn:n<c.nds.length):∀(l:List CF) {s:Sr},(∀f∈l,zZ c.nds n f)->vm c (n+1) (a7 (iz c.nds n) l) s->vm c (n+1) 0 (nO c fuel n l s)
 |[],s,_,h=>h
 |f::l,s,hl,h=>by
  unfold nO;split
  .exact⟨h.kl,h.fo,h.un,h.dn,by have:=h.tw;omega,h.ok⟩
  .refine JZ hc hn l (λg hg=>hl g (by simp[hg])) (Wc hc hn (hl f (by simp)) ?_);have e:a7 (iz c.nds n) (f::l)=a7 (iz c.nds n) l+iz c.nds n f:=(by simp only[a7];omega);rw[<-e];exact h
theorem Wp{c:Cd}(hc:YO c){cu n fuel:Nat}{s:Sr}(hcu:cu<=n)(hn:n<c.nds.length)(hb:∀m,cu<=m->m<n->br s m=[])(h:vm c cu 0 s):vm c (n+1) 0 (sQ c fuel n s):=by
 have hl:n<s.kn.length:=by rw[h.kl];exact hn
 have hF:∀f∈mI (br s n),zZ c.nds n f:=by
  intro f hf;obtain⟨e,he,rfl⟩:=mem_map.1 hf;exact h.fo n e (mem_filter.1 he).1
 refine JZ hc hn _ hF ?_;obtain⟨x,hx⟩:∃x,x=(br s n).map (λe=>(⟨e.f,true⟩:ii)):=⟨_,rfl⟩;have gw:({ s with kn:=s.kn.set n ((br s n).map (λe=>⟨e.f,true⟩)) }:Sr).kn=s.kn.set n x:=by rw[hx]
 refine⟨by rw[gw,length_set];exact h.kl,λm e he=>?_,λm hm e he=>?_,λm hm e he=>?_,?_,h.ok⟩
 .rw[og gw]at he;split at he
  .rename_i hm;rw[hx]at he;obtain⟨y,hy,rfl⟩:=mem_map.1 he;rw[hm.1];exact h.fo n y hy
  .exact h.fo m e he
 .rw[og gw,if_neg (by rintro⟨rfl,-⟩;omega)]at he;exact h.un m (by omega) e he
 .rw[og gw]at he;split at he
  .rw[hx]at he;obtain⟨y,-,rfl⟩:=mem_map.1 he;rfl
  .rename_i hm';by_cases hmc:m<cu
   .exact h.dn m hmc e he
   .rw[hb m (by omega) (by
     have:m≠n:=λe=>hm' ⟨e,hl⟩;omega)]at he
    simp at he
 .have htw:=h.tw;unfold LU at htw ⊢;rw[gw];have h1:=xx (λn l=>a7 (iz c.nds n) (mI l)) s.kn 0 n x hl;rw[Nat.zero_add]at h1;have h2:mI x=[]:=by
   rw[hx];unfold mI;rw[map_eq_nil_iff,filter_eq_nil_iff];intro e he;obtain⟨y,-,rfl⟩:=mem_map.1 he;simp
  have h3:a7 (iz c.nds n) (mI (s.kn.getD n []))=a7 (iz c.nds n) (mI (br s n)):=rfl;rw[h2]at h1;simp only[a7]at h1;omega
theorem JG{c:Cd}(hc:YO c){fuel:Nat}:∀(k:Nat) {cu:Nat} {s:Sr},vm c cu 0 s->c.nds.length<k+cu->cu<=c.nds.length->(qg c fuel k s).ok=true
 |0,_,_,_,h,h'=>by omega
 |k+1,cu,s,h,hk,_=>by
  unfold qg;split
  .exact h.ok
  .rename_i n hp;split
   .exact h.ok
   .obtain⟨hn,qG,O3⟩:=findIdx?_eq_some_iff_getElem.1 hp;have at_:∀j,(hj:j<s.kn.length)->br s j=s.kn[j]:=λj hj=>by unfold br;rw[getD_eq_getElem?_getD,getElem?_eq_getElem hj];rfl
    have hcu:cu<=n:=by
     apply Classical.byContradiction;intro au;obtain⟨e,he,hde⟩:=any_eq_true.1 qG;rw[<-at_ n hn]at he;rw[h.dn n (by omega) e he]at hde;simp at hde
    have hn':n<c.nds.length:=(by rw[<-h.kl];exact hn);have hS:=Wp hc (fuel:=fuel) hcu hn' (λm hm hmn=>by
     rw[eq_nil_iff_forall_not_mem];intro e he;have h1:=h.un m hm e he;have h2:=O3 m hmn;rw[at_ m (by omega)]at he;apply h2;rw[any_eq_true];exact⟨e,he,by rw[h1];rfl⟩) h
    exact JG hc k hS (by omega) (by omega)
def Mo(s t:PS):Prop:=t.nodes=s.nodes/\s.vars.length<=t.vars.length/\s.hid.length<=t.hid.length
theorem Mo.refl(s:PS):Mo s s:=⟨rfl,zq4 _,zq4 _⟩
theorem Mo.trans{s t u:PS}(h:Mo s t)(h':Mo t u):Mo s u:=⟨h'.1.trans h.1,zq3 h.2.1 h'.2.1,zq3 h.2.2 h'.2.2⟩
def Lw(L i:Nat):Prop:=i=0\/i<L
theorem Lw.up{L L' i:Nat}(h:Lw L i)(hL:L<=L'):Lw L' i:=h.imp id (λh=>by omega)
section
variable {ws:List ByteArray} {s:PS}
theorem gE:Mo s s.adv:=⟨rfl,zq4 _,zq4 _⟩
theorem cR(k:ByteArray):Mo s (aF ws k s):=by unfold aF;split <;> exact⟨rfl,zq4 _,zq4 _⟩
theorem rm(l:List UInt8)(c:UInt8):l.length<=(put l c).length/\plc l c<(put l c).length:=by
 unfold put;have:=wS l c;split
 .simp;omega
 .exact⟨zq4 _,by omega⟩
theorem xH:Mo s (bE ws s):=by
 unfold bE;split
 .exact⟨rfl,(rm _ _).1,zq4 _⟩
 .exact⟨rfl,zq4 _,zq4 _⟩
theorem xG:Lw (bE ws s).vars.length (mO ws s):=by
 unfold mO bE;split
 .exact zq1 (rm _ _).2
 .exact zq0 rfl
theorem js:Mo s (cd ws s):=by
 unfold cd;split
 .exact gE
 .exact xH
theorem uS:Lw (cd ws s).vars.length (fh ws s):=by
 unfold fh cd;split
 .exact zq0 rfl
 .exact xG
theorem sN:Mo s (fK ws s):=by
 unfold fK;split
 .exact⟨rfl,zq4 _,(rm _ _).1⟩
 .exact js
theorem NC:Mo s (yW ws s):=by
 unfold yW;split
 .exact gE
 .exact cR _
theorem Y9:Mo s (tI ws s):=by
 unfold tI;split
 .exact gE
 .exact(xH.trans NC).trans js
theorem aca:Mo s (MB ws s):=((cR _).trans Y9).trans (cR _)
theorem YW:Mo s (oQ ws s):=by
 unfold oQ;split
 .exact gE
 .split
  .exact(js.trans gE).trans (cR _)
  .exact js
theorem Rk:Mo s (zN ws s):=(gE.trans (cR _)).trans (cR _)
theorem abU:Mo s (ix ws s):=by
 unfold ix;split
 .exact gE
 .split
  .exact gE.trans xH
  .split
   .exact(xH.trans Rk).trans js
   .exact(xH.trans (cR _)).trans YW
theorem Y8:Lw (tI ws s).vars.length (Ce ws s).v/\Lw (tI ws s).vars.length (Ce ws s).ai/\(1<=(Ce ws s).op/\(Ce ws s).op<=9):=by
 unfold Ce tI;split
 .exact⟨zq0 rfl,zq0 rfl,by decide⟩
 .refine⟨xG.up (NC.trans js).2.1,uS,?_⟩;show 1<=Ss ws (bE ws s)/\Ss ws (bE ws s)<=9;unfold Ss;split <;> decide
theorem YV{v:Nat}(hv:Lw s.vars.length v):Lw (oQ ws s).vars.length (xO ws v s).v/\Lw (oQ ws s).vars.length (xO ws v s).ai/\(1<=(xO ws v s).op/\(xO ws v s).op<=6)/\(xO ws v s).ot=0:=by
 unfold xO oQ;split
 .exact⟨hv,zq0 rfl,by show 1<=(4:Nat)/\(4:Nat)<=6;decide,rfl⟩
 .split
  .exact⟨hv.up ((js.trans gE).trans (cR _)).2.1,uS.up (gE.trans (cR _)).2.1,by show 1<=(2:Nat)/\(2:Nat)<=6;decide,rfl⟩
  .exact⟨hv.up js.2.1,uS,by show 1<=(1:Nat)/\(1:Nat)<=6;decide,rfl⟩
theorem abT:Lw (ix ws s).vars.length (kP ws s).v/\Lw (ix ws s).vars.length (kP ws s).ai/\(1<=(kP ws s).op/\(kP ws s).op<=6)/\(kP ws s).ot=0:=by
 unfold kP ix;split
 .exact⟨zq0 rfl,zq0 rfl,by decide,rfl⟩
 .split
  .exact⟨xG,zq0 rfl,by show 1<=(5:Nat)/\(5:Nat)<=6;decide,rfl⟩
  .split
   .exact⟨xG.up (Rk.trans js).2.1,uS,by show 1<=(3:Nat)/\(3:Nat)<=6;decide,rfl⟩
   .exact YV (xG.up (cR _).2.1)
def uU(L b E:Nat)(M:List Nd):Prop:=∀k nd,M[k]?=some nd->Lw L nd.v/\Lw L nd.ai/\(1<=nd.op/\nd.op<=10)/\(nd.nx<=E/\nd.ot<=E)/\(xX nd=true->b+k<nd.ot)/\(nd.op≠10->nd.nx=b+k+1)/\(nd.op=10->nd.nx≠b+k)
theorem uU.nil(L b E:Nat):uU L b E []:=λk nd h=>by simp at h
theorem uU.up{L L' b E E':Nat}{M:List Nd}(h:uU L b E M)(hL:L<=L')(hE:E<=E'):uU L' b E' M:=λk nd hk=>⟨(h k nd hk).1.up hL,(h k nd hk).2.1.up hL,(h k nd hk).2.2.1,by have:=(h k nd hk).2.2.2.1;omega,(h k nd hk).2.2.2.2⟩
theorem uU.app{L b E:Nat}{M N:List Nd}(h:uU L b E M)(h':uU L (b+M.length) E N):uU L b E (M++N):=by
 intro k nd hk;by_cases hl:k<M.length
 .rw[getElem?_append_left hl]at hk;exact h k nd hk
 .rw[getElem?_append_right (by omega)]at hk;have:=h' _ nd hk;rw[show b+M.length+(k-M.length)=b+k by omega]at this;exact this
theorem uU.one{L b E:Nat}{nd:Nd}(h:Lw L nd.v/\Lw L nd.ai/\(1<=nd.op/\nd.op<=10)/\(nd.nx<=E/\nd.ot<=E)/\(xX nd=true->b<nd.ot)/\(nd.op≠10->nd.nx=b+1)/\(nd.op=10->nd.nx≠b)):uU L b E [nd]:=by
 intro k nd' hk;cases k with
 |zero =>
  have:nd=nd':=by simpa using hk
  subst this;exact h
 |succ k=>simp at hk
def Ex(s t:PS):Prop:=∃M,t.nodes=s.nodes++M/\s.vars.length<=t.vars.length/\s.hid.length<=t.hid.length/\uU t.vars.length s.nodes.length t.nodes.length M
theorem Mo.ex{t:PS}(h:Mo s t):Ex s t:=⟨[],by rw[h.1,append_nil],h.2.1,h.2.2,uU.nil _ _ _⟩
theorem Ex.trans{t u:PS}(h:Ex s t)(h':Ex t u):Ex s u:=by
 obtain⟨M,h1,h2,Ix,h3⟩:=h;obtain⟨N,g1,g2,g2',g3⟩:=h';refine⟨M++N,by rw[g1,h1,append_assoc],zq3 h2 g2,zq3 Ix g2',(h3.up g2 (by rw[g1,length_append];omega)).app ?_⟩;rw[h1,length_append]at g3;exact g3
theorem abQ:Ex s (rK ws s):=by
 have hm:Mo s (aF ws jd (ix ws s)):=abU.trans (cR _);obtain⟨h1,h2,h3,h4⟩:=@abT ws s;have hv:=(@cR ws (ix ws s) jd).2.1;have hn:(rK ws s).nodes=s.nodes++[{ kP ws s with nx:=s.nodes.length+1 }]:=by
  show(aF ws jd (ix ws s)).nodes++[{ kP ws s with nx:=(aF ws jd (ix ws s)).nodes.length+1 }]=_;rw[hm.1]
 refine⟨[{ kP ws s with nx:=s.nodes.length+1 }],hn,hm.2.1,hm.2.2,?_⟩;rw[hn,length_append];refine uU.one ⟨h1.up hv,h2.up hv,by show 1<=(kP ws s).op/\(kP ws s).op<=10;omega,⟨zq4 _,by show(kP ws s).ot<=_;rw[h4];exact zq5 _⟩,λh=>?_,λ_=>rfl,λh=>?_⟩
 .exfalso;have h':(kP ws s).op=7\/(kP ws s).op=8\/(kP ws s).op=9:=by simpa[xX] using h
  omega
 .exfalso;have h':(kP ws s).op=10:=h;omega
theorem qd{α:Type}(f:α->α)(t:α)(R:List α):∀(A:List α) {k:Nat},k=A.length->(A++t::R).modify k f=A++f t::R
 |[],k,h=>by subst h;rfl
 |a::A,k,h=>by subst h;simp[modify_succ_cons,qd f t R A rfl]
theorem sK(A R:List Nd)(t:Nd)(k n:Nat)(h:k=A.length):ei k n (A++t::R)=A++{ t with ot:=n }::R:=qd _ t R A h
theorem zK(A R:List Nd)(t:Nd)(k n:Nat)(h:k=A.length):gS k n (A++t::R)=A++{ t with nx:=n }::R:=qd _ t R A h
theorem RI{blk:PS->PS}(hb:∀t,Ex t (blk t))(k:ByteArray):∃(tn:Nd) (M:List Nd),(blk (gB ws (aF ws k s))).nodes=s.nodes++tn::M/\s.vars.length<=(blk (gB ws (aF ws k s))).vars.length/\s.hid.length<=(blk (gB ws (aF ws k s))).hid.length/\uU (blk (gB ws (aF ws k s))).vars.length (s.nodes.length+1) (s.nodes.length+1+M.length) M/\Lw (blk (gB ws (aF ws k s))).vars.length tn.v/\Lw (blk (gB ws (aF ws k s))).vars.length tn.ai/\(1<=tn.op/\tn.op<=9)/\tn.nx=s.nodes.length+1:=by
 obtain⟨M,h1,h2,Ix,h3⟩:=hb (gB ws (aF ws k s));have hm:Mo s (MB ws (aF ws k s)):=(cR _).trans aca;have ht:(gB ws (aF ws k s)).nodes=s.nodes++[{ Ce ws (aF ws gl (aF ws k s)) with nx:=s.nodes.length+1 }]:=by
  show(MB ws (aF ws k s)).nodes++[{ Ce ws (aF ws gl (aF ws k s)) with nx:=(MB ws (aF ws k s)).nodes.length+1 }]=_;rw[hm.1]
 obtain⟨g1,g2,g3⟩:=@Y8 ws (aF ws gl (aF ws k s));have hv:(tI ws (aF ws gl (aF ws k s))).vars.length<=(blk (gB ws (aF ws k s))).vars.length:=zq3 (@cR ws (tI ws (aF ws gl (aF ws k s))) iW).2.1 h2;refine⟨{ Ce ws (aF ws gl (aF ws k s)) with nx:=s.nodes.length+1 },M,by rw[h1,ht,append_assoc];rfl,zq3 hm.2.1 h2,zq3 hm.2.2 Ix,?_,g1.up hv,g2.up hv,g3,rfl⟩;rw[h1,length_append,ht,length_append]at h3;exact h3
theorem BZ{L b m E:Nat}{tn:Nd}(h1:Lw L tn.v)(h2:Lw L tn.ai)(h3:1<=tn.op/\tn.op<=9)(h4:tn.nx=b+1)(h:b<m)(hm:m<=E):uU L b E [{ tn with ot:=m }] :=
 uU.one ⟨h1,h2,by show 1<=tn.op/\tn.op<=10;omega,⟨by show tn.nx<=E;omega,hm⟩,λ_=>h,λ_=>h4,λe=>by have:tn.op=10:=e;omega⟩
theorem IT{L b m E:Nat}(h:m≠b)(hm:m<=E):uU L b E [{ iN with nx:=m }] :=
 uU.one ⟨zq0 rfl,zq0 rfl,by show 1<=(10:Nat)/\(10:Nat)<=10;decide,⟨hm,zq5 _⟩,λe=>by simp[xX,iN]at e,λe=>absurd rfl e,λ_=>h⟩
theorem Y2{blk:PS->PS}(hb:∀t,Ex t (blk t)):Ex s (pO blk ws s):=by
 obtain⟨tn,M,h1,h2,Ix,h3,h4,h5,h6,h7⟩:=@RI ws s blk hb md;unfold pO;have hA:cJ blk ws s=blk (gB ws (aF ws md s)):=rfl;rw[<-hA]at h1 h2 Ix h3 h4 h5;have hl:(cJ blk ws s).nodes.length=s.nodes.length+1+M.length:=by rw[h1];simp;omega
 obtain⟨m,hm⟩:∃m,m=(cJ blk ws s).nodes.length:=⟨_,rfl⟩;split
 .obtain⟨N,g1,g2,g2',g3⟩:=hb (lQ s.nodes.length (cJ blk ws s));have hB:(lQ s.nodes.length (cJ blk ws s)).nodes=s.nodes++{ tn with ot:=m+1 }::(M++[{ iN with nx:=m+1 }]):=by
   show ei s.nodes.length ((cJ blk ws s).nodes++[{ iN with nx:=(cJ blk ws s).nodes.length+1 }]).length ((cJ blk ws s).nodes++[{ iN with nx:=(cJ blk ws s).nodes.length+1 }])=_;rw[length_append,length_singleton,<-hm];rw[show(cJ blk ws s).nodes++[{ iN with nx:=m+1 }]=s.nodes++tn::(M++[{ iN with nx:=m+1 }]) by rw[h1];simp];exact sK _ _ _ _ _ rfl
  have hBv:(lQ s.nodes.length (cJ blk ws s)).vars=(cJ blk ws s).vars:=rfl;have hBh:(lQ s.nodes.length (cJ blk ws s)).hid=(cJ blk ws s).hid:=rfl;have Xe:(lQ s.nodes.length (cJ blk ws s)).nodes.length=s.nodes.length+1+M.length+1:=by rw[hB];simp;omega
  rw[hBv]at g2;rw[hBh]at g2';rw[Xe]at g3;obtain⟨u,hu⟩:∃u,u=blk (lQ s.nodes.length (cJ blk ws s)):=⟨_,rfl⟩;rw[<-hu]at g1 g2 g2' g3 ⊢;have hul:u.nodes.length=s.nodes.length+1+M.length+1+N.length:=by rw[g1,length_append,Xe]
  have hn:(Np (cJ blk ws s).nodes.length u).nodes=s.nodes++({ tn with ot:=m+1 }::(M++{ iN with nx:=u.nodes.length }::N)):=by
   show gS (cJ blk ws s).nodes.length u.nodes.length u.nodes=_;have e:u.nodes=(s.nodes++{ tn with ot:=m+1 }::M)++{ iN with nx:=m+1 }::N:=(by rw[g1,hB];simp);have e2:=zK (s.nodes++{ tn with ot:=m+1 }::M) N { iN with nx:=m+1 } (cJ blk ws s).nodes.length u.nodes.length (by rw[hl];simp;omega);rw[<-e]at e2;rw[e2];simp
  have jQ:(Np (cJ blk ws s).nodes.length u).nodes.length=u.nodes.length:=by show(gS _ _ _).length=_;exact dx _ _ _
  refine⟨{ tn with ot:=m+1 }::(M++{ iN with nx:=u.nodes.length }::N),hn,zq3 h2 g2,zq3 Ix g2',?_⟩;show uU u.vars.length s.nodes.length (Np (cJ blk ws s).nodes.length u).nodes.length ([{ tn with ot:=m+1 }]++(M++([{ iN with nx:=u.nodes.length }]++N)));rw[jQ];refine(BZ (h4.up g2) (h5.up g2) h6 h7 (by omega) (by omega)).app ((h3.up g2 (by omega)).app ((IT ?_ (zq4 _)).app ?_))
  .rw[hul];simp;omega
  .show uU u.vars.length (s.nodes.length+1+M.length+1) u.nodes.length N;exact g3
 .have hn:({ cJ blk ws s with nodes:=ei s.nodes.length (cJ blk ws s).nodes.length (cJ blk ws s).nodes }:PS).nodes=s.nodes++({ tn with ot:=m }::M):=by
   show ei s.nodes.length (cJ blk ws s).nodes.length (cJ blk ws s).nodes=_;rw[<-hm,h1];exact sK _ _ _ _ _ rfl
  refine⟨{ tn with ot:=m }::M,hn,h2,Ix,?_⟩;rw[hn,show(s.nodes++({ tn with ot:=m }::M)).length=s.nodes.length+1+M.length by simp;omega];exact(BZ h4 h5 h6 h7 (by omega) (by omega)).app h3
theorem aaX{blk:PS->PS}(hb:∀t,Ex t (blk t)):Ex s (xY blk ws s):=by
 obtain⟨tn,M,h1,h2,Ix,h3,h4,h5,h6,h7⟩:=@RI ws s blk hb bP;have hA:nz blk ws s=blk (gB ws (aF ws bP s)):=rfl;rw[<-hA]at h1 h2 Ix h3 h4 h5;have hl:(nz blk ws s).nodes.length=s.nodes.length+1+M.length:=by rw[h1];simp;omega
 obtain⟨m,hm⟩:∃m,m=(nz blk ws s).nodes.length:=⟨_,rfl⟩;have hn:(xY blk ws s).nodes=s.nodes++({ tn with ot:=m+1 }::(M++[{ iN with nx:=s.nodes.length }])):=by
  show ei s.nodes.length ((nz blk ws s).nodes++[{ iN with nx:=(nz blk ws s).nodes.length+1 }]).length (gS (nz blk ws s).nodes.length s.nodes.length ((nz blk ws s).nodes++[{ iN with nx:=(nz blk ws s).nodes.length+1 }]))=_;rw[length_append,length_singleton,zK _ _ _ _ _ rfl,<-hm];rw[show(nz blk ws s).nodes++[{ iN with nx:=s.nodes.length }]=s.nodes++tn::(M++[{ iN with nx:=s.nodes.length }]) by rw[h1];simp];exact sK _ _ _ _ _ rfl
 have jQ:(xY blk ws s).nodes.length=s.nodes.length+1+M.length+1:=by rw[hn];simp;omega
 refine⟨_,hn,h2,Ix,?_⟩;rw[jQ];show uU (nz blk ws s).vars.length s.nodes.length _ ([{ tn with ot:=m+1 }]++(M++[{ iN with nx:=s.nodes.length }]));exact(BZ h4 h5 h6 h7 (by omega) (by omega)).app ((h3.up (zq4 _) (by omega)).app (IT (by simp;omega) (by omega)))
theorem Y6{blk:PS->PS}(hb:∀t,Ex t (blk t)):Ex s (kA blk ws s):=by
 unfold kA;split
 .exact Y2 hb
 .split
  .exact aaX hb
  .exact abQ
theorem NA{c:PS->PS}(hc:∀t,Ex t (c t)):∀(n:Nat) (s:PS),Ex s (ji c ws n s)
 |0,s=>(Mo.refl s).ex
 |n+1,s=>by
  unfold ji;split
  .exact(Mo.refl s).ex
  .exact(hc s).trans (NA hc n (c s))
theorem Nl:∀(f:Nat) (s:PS),Ex s (cM ws f s)
 |0,s=>(Mo.refl s).ex
 |f+1,s=>((cR _).ex.trans (NA (λt=>Y6 (Nl f)) _ _)).trans (cR _).ex
end
def YQ(t:PS)(k i:Nat):Prop:=t.failed=true\/(k=0/\i=0)\/(k=1/\i<t.vars.length)\/(k=2/\i<t.hid.length)
structure EU(s t:PS):Prop where
 v:s.vars.length<=t.vars.length
 h:s.hid.length<=t.hid.length
 f:s.failed=true->t.failed=true
theorem EU.trans{s t u:PS}(h:EU s t)(h':EU t u):EU s u:=⟨zq3 h.v h'.v,zq3 h.h h'.h,λe=>h'.f (h.f e)⟩
theorem YQ.up{s t:PS}{k i:Nat}(h:YQ s k i)(hg:EU s t):YQ t k i:=by
 have h1:=hg.v;have h2:=hg.h;rcases h with h|h|h|h
 .exact zq0 (hg.f h)
 .exact zq1 (zq0 h)
 .exact zq1 (zq1 (zq0 (by omega)))
 .exact zq1 (zq1 (zq1 (by omega)))
section
variable {ws:List ByteArray} {s:PS}
theorem X6:EU s (fK ws s):=⟨sN.2.1,sN.2.2,sI.bad s⟩
theorem WY{k:ByteArray}(hk:k.toList≠[]):EU s (aF ws k s):=⟨(cR k).2.1,(cR k).2.2,(df hk).bad s⟩
theorem BP:Mo s (fB ws s):=by
 unfold fB;split
 .exact gE
 .split
  .exact gE
  .exact cR _
theorem abJ:EU s (fB ws s):=⟨BP.2.1,BP.2.2,BE.bad s⟩
theorem Wg:YQ (fK ws s) (tX ws s) (tW ws s):=by
 unfold fK tX tW;split
 .exact zq1 (zq1 (zq1 ⟨rfl,(rm _ _).2⟩))
 .unfold cd dT fh;split
  .exact zq1 (zq0 ⟨rfl,rfl⟩)
  .unfold bE mO;split
   .exact zq1 (zq1 (zq0 ⟨rfl,(rm _ _).2⟩))
   .exact zq0 rfl
def Ya(t:PS)(a:cj):Prop:=YQ t a.lk a.li/\YQ t a.rk a.ri/\a.k<=4
theorem Ya.up{t u:PS}{a:cj}(h:Ya t a)(hg:EU t u):Ya u a:=⟨h.1.up hg,h.2.1.up hg,h.2.2⟩
theorem aaV:Mo s (Bh ws s):=by
 have h1:Mo s (qZ ws s):=cR _;have h2:Mo (qZ ws s) (pZ ws s):=sN.trans (cR _);have h3:Mo (pZ ws s) (Bh ws s):=sN.trans (cR _);exact(h1.trans h2).trans h3
theorem Ng:Mo s (eJ ws s):=by
 unfold eJ;split
 .exact gE
 .split
  .exact gE.trans aaV
  .exact(sN.trans BP).trans sN
theorem aey:EU s (eJ ws s):=⟨Ng.2.1,Ng.2.2,nE.bad s⟩
theorem XU:EU (fK ws (pZ ws s)) (Bh ws s):=by unfold Bh;exact WY qS
theorem ahd:EU (fK ws (qZ ws s)) (Bh ws s):=by
 have h:EU (fK ws (qZ ws s)) (pZ ws s):=by unfold pZ;exact WY wj
 exact(h.trans X6).trans XU
theorem amz:Ya (Bh ws s) (XT ws s):=⟨Wg.up ahd,Wg.up XU,zq4 4⟩
theorem aez:Ya (eJ ws s) (qw ws s):=by
 unfold eJ qw;split
 .exact⟨zq1 (zq0 ⟨rfl,rfl⟩),zq1 (zq0 ⟨rfl,rfl⟩),by decide⟩
 .split
  .exact amz
  .refine⟨(Wg (ws:=ws) (s:=s)).up (abJ.trans X6),Wg,?_⟩;show j8 ws (fK ws s)<=4;unfold j8;split
   .decide
   .split <;> decide
theorem Xb:∀(n:Nat) (s:PS),EU s (jl ws n s).2/\∀a∈(jl ws n s).1,Ya (jl ws n s).2 a
 |0,s=>⟨⟨zq4 _,zq4 _,id⟩,λa ha=>by simp[jl]at ha⟩
 |n+1,s=>by
  unfold jl;split
  .obtain⟨h1,h2⟩:=Xb n (eJ ws s.adv);have h3:EU s.adv (eJ ws s.adv):=aey;refine⟨⟨zq3 h3.v h1.v,zq3 h3.h h1.h,λe=>h1.f (h3.f e)⟩,λa ha=>?_⟩;rcases mem_cons.1 ha with rfl|ha
   .exact aez.up h1
   .exact h2 a ha
  .exact⟨⟨zq4 _,zq4 _,id⟩,λa ha=>by simp at ha⟩
theorem akk:∀a∈foA ws s,Ya (rH ws s) a:=by
 obtain⟨h1,h2⟩:=Xb (ws:=ws) (ws.length+1) (eJ ws s);intro a ha;rcases mem_cons.1 ha with rfl|ha
 .exact aez.up h1
 .exact h2 a ha
end
section
variable {w W:World} {S:Nat} {c:Cd} {c0 hv kv wv:Value} {KV WV:List Value} {K:List (List En)} {s:Sr} {x:FE}
theorem Sh.wcs{wB wC gA cA m n:Nat}(h:Sh w S c c0 hv kv (.slice (some ⟨wB,0,none⟩) m wC) KV WV K s)(hn:n<K.length)(hW:WV.getD n aJ=.slice (some ⟨gA,0,none⟩) 5 cA):w.cell? ⟨S,4,none⟩=some (.slice (some ⟨wB,0,none⟩) m wC)/\w.cell? ⟨wB,n,none⟩=some (.slice (some ⟨gA,0,none⟩) 5 cA)/\(∀t,t<5->w.cell? ⟨gA,t,none⟩=some (.bool ((s.wr.getD n []).getD t false)))/\∀t,w.frozen? ⟨gA,t,none⟩=false:=by
 obtain⟨g,cap,g2,cap2,h1,h2,h3,h4,h5⟩:=h.wc hn;rw[hW]at h2;simp only[Value.slice.injEq,Option.some.injEq,Addr.mk.injEq,and_true,true_and]at h1 h2;obtain⟨rfl,-,-⟩:=h1;obtain⟨rfl,rfl⟩:=h2;exact⟨h.bs.cell 4 rfl,h3,h4,h5⟩
theorem Lp.turn{w W:World}{Tp:List Value}{K0:List (List En)}{v tv:Value}{L Lt:List FE}{j Y O:Nat}(h:Lp w W S c c0 hv kv wv Tp WV K0 [] KV K s v L j (Y::O::bf tv Lt))(ht:Fl W 0 tv Lt)(hT:∀y∈Lt,Td y.f)(hn:∀k∈bf tv Lt,w.heap.size<=k)(hY:Y ∉ bf tv Lt):Lp w W S c c0 hv kv wv Tp WV K0 [] KV K s tv Lt 0 [Y]:=by
 have e:mY tv Lt 0=bf tv Lt:=by simp[mY,bf]
 refine⟨h.sh,h.kl,h.go,⟨ht.pend,hT,λk hk=>?_⟩,λk hk=>?_,λk hk=>zq1 ?_⟩
 .rw[e]at hk;exact(h.ap k (mem_cons_of_mem _ (mem_cons_of_mem _ hk))).1
 .rw[mem_singleton]at hk;subst hk;obtain⟨a1,-,a3⟩:=h.ap k (by simp);exact⟨a1,by rw[e];exact hY,a3⟩
 .rw[e]at hk;exact hn k hk
theorem Wd{Q:Nat}{ws:List ByteArray}{ps:PS}{al:List cj}{vv pv nvv:Value}(h:Sh w S c (.pointer (some ⟨Q,0,none⟩)) hv kv wv KV WV K s)(hC:Cp w Q ws ps al vv pv nvv)(kH:c.nds=ps.nodes)(hN:sS c.nds)(hF:eQ w x.A x.f x.av x.ov)(hT:Td x.f)(hd:∀k∈x.bs,k ∉ cZ S hv kv wv KV WV){n:Nat}(hn:n<K.length)(yi:K.length<=100000){fuel:Nat}(bn:(po c fuel n x.f s).ok=true):
  Calls prog 173 #[.pointer (some ⟨S,0,none⟩),.int .i64 n,.pointer (some ⟨x.A,0,none⟩)] w λe w'=>e=.returned (.tuple #[])/\il w S c (.pointer (some ⟨Q,0,none⟩)) hv kv wv KV WV K [] (po c fuel n x.f s) w':=by
 have jQ:=h.nl;obtain⟨nd,dG⟩:∃nd,nd=c.nds.getD n aI:=⟨_,rfl⟩;have IL:=hN.v n;have pw:=hN.op n;have v7:=hN.nx n (by omega);have Mu:=hN.ot n (by omega);rw[<-dG]at IL pw v7 Mu;have hndA:ndA ps.nodes n=nd:=by rw[dG,kH];rfl
 have HAT:Hid (Calls prog 103 #[.pointer (some ⟨Q,0,none⟩),.int .i64 n] w λe w'=>e=.returned (.agg #[.int .i64 (nd.op:Int),.int .i64 (nd.v:Int),.int .i64 (nd.ak:Int),.int .i64 (nd.ai:Int),.int .i64 (nd.nx:Int),.int .i64 (nd.ot:Int)])/\Below w.heap.size w w'):=ab (by
  have h1:=YY n hC (by rw[<-kH];omega);rw[hndA]at h1;exact h1)
 obtain⟨⟨onx,oot,nu,da,fu⟩,ho⟩:∃o,o=cn nd x.f:=⟨_,rfl⟩;have ss:(∀x∈onx,Td x)/\∀x∈oot,Td x:=by
  have h1:=jI IL.1 IL.2 hT;rw[<-ho]at h1;exact h1
 obtain⟨b1,bB⟩:∃b1,b1=(decide (nd.op=0)&&!decide (dd x.f=[])):=⟨_,rfl⟩;have aP:po c fuel n x.f s=oot.foldl (λs g=>dV c fuel n nd.ot g s) (onx.foldl (λs g=>dV c fuel n nd.nx g s) (fuS fu (wrI da n 4 (wrI nu n 3 (wrI b1 n 2 s))))):=by
  unfold po;simp only;rw[<-dG,<-ho,<-bB]
 rw[aP]at bn ⊢;have agp:onx≠[]->nd.nx<K.length:=λe=>by rw[<-jQ];exact v7 (rU (by rw[<-ho];exact e))
 have agD:oot≠[]->nd.ot<K.length:=λe=>by rw[<-jQ];exact Mu (rV (by rw[<-ho];exact e))
 obtain⟨wB,wC,gA,cA,SM,Ux,-,-,-⟩:=h.wc hn;subst SM;have c0':=h.bs.cell 0 rfl;have H:=ab h;have HF:=ab hF;have HT:=ab hT;have HD:=ab hd;have HO:=ab ho;have gb:=ab bB;have He:=ab ss;have qn:=ab (zq2 agp agD);have mr:=ab bn;have To:=ab Ux;have YD:=ab (zq2 IL pw);obtain⟨eI,dL⟩:∃eI:World->Prop,eI=λw'=>il w S c (.pointer (some ⟨Q,0,none⟩)) hv kv (.slice (some ⟨wB,0,none⟩) K.length wC) KV WV K [] (oot.foldl (λs g=>dV c fuel n nd.ot g s) (onx.foldl (λs g=>dV c fuel n nd.nx g s) (fuS fu (wrI da n 4 (wrI nu n 3 (wrI b1 n 2 s)))))) w':=⟨_,rfl⟩;have gD:=ab dL;rw[show(fun(e:Ending) (w':World)=>e=.returned (.tuple #[])/\il w S c (.pointer (some ⟨Q,0,none⟩)) hv kv (.slice (some ⟨wB,0,none⟩) K.length wC) KV WV K [] (oot.foldl (λs g=>dV c fuel n nd.ot g s) (onx.foldl (λs g=>dV c fuel n nd.nx g s) (fuS fu (wrI da n 4 (wrI nu n 3 (wrI b1 n 2 s)))))) w')=(λe w'=>e=.returned (.tuple #[])/\eI w') by rw[dL]];have i1:(0:Int)<=(n:Int):=by omega
 have i2:(n:Int)<(K.length:Int):=by omega
 clear h hC kH hN hF hT hd dG IL pw v7 Mu hndA ss aP agp agD bn Ux ho bB dL jQ;go_enter func173,ntmps173;go_wp2_with fail
 refine(uh HAT).mono ?_;rintro e w1 ⟨rfl,Uz⟩;obtain⟨W2,jw⟩:∃W2,W2=w1.alloc (.cells #[Value.int .i64 (nd.op:Int),.int .i64 (nd.v:Int),.int .i64 (nd.ak:Int),.int .i64 (nd.ai:Int),.int .i64 (nd.nx:Int),.int .i64 (nd.ot:Int)] 186):=⟨_,rfl⟩;have cf:Below w1.heap.size w1 W2:=by rw[jw];exact ah w1 _
 have m0:Bk W2 w1.heap.size 186 nd.cells:=by rw[jw];exact Bk.new w1 _ _
 have aW:=Uz.trans (cf.mono Uz.size);obtain⟨Y,xP⟩:∃Y,Y=w1.heap.size:=⟨_,rfl⟩;rw[<-xP]at m0;have hYw:w.heap.size<=Y:=by rw[xP];exact Uz.size
 have y0:=m0.cell 0 rfl;have H2:=ab (zq2 aW (zq2 m0 hYw));have B7:=ab (wq ((uh HF).below aW) (uh HT).ok);clear cf m0 aW Uz hYw HAT c0';go_upto_region 1 with fail;rw[<-jw,<-xP];clear jw xP;go_cut [26] (λbv wx=>bv=.bool b1/\Hid (Below W2.heap.size W2 wx))
 case first =>
  by_cases K9:nd.op=0
  .have d0:((nd.op:Int)==(0:Int))=true:=(by simp[K9]);by_cases jP:dd x.f=[]
   .have d1:decide (0<(dd x.f).length)=false:=(by rw[jP];rfl);have MH:Hid (b1=false):=ab (by rw[uh gb];simp[jP]);clear K9 jP;go_wp2_with fail
    refine(uh B7).mono ?_;rintro e w3 ⟨lv,rfl,tL,dy⟩;obtain⟨la,lc,iw,-,-⟩:=am tL;subst iw;have tD:=ab dy;clear tL dy;go_wp2_with fail
    go_meet
    exact⟨by rw[uh MH],tD⟩
   .have d1:decide (0<(dd x.f).length)=true:=by
     have:(dd x.f).length≠0:=λe=>jP (length_eq_zero_iff.1 e);rw[decide_eq_true_eq];omega
    have MH:Hid (b1=true):=ab (by rw[uh gb];simp[K9,jP]);clear K9 jP;go_wp2_with fail
    refine(uh B7).mono ?_;rintro e w3 ⟨lv,rfl,tL,dy⟩;obtain⟨la,lc,iw,-,-⟩:=am tL;subst iw;have tD:=ab dy;clear tL dy;go_wp2_with fail
    go_meet
    exact⟨by rw[uh MH],tD⟩
  .have d0:((nd.op:Int)==(0:Int))=false:=(by simp;omega);have MH:Hid (b1=false):=ab (by rw[uh gb];simp[K9]);clear K9;go_wp2_with fail
   go_meet
   exact⟨by rw[uh MH],ab (Below.refl _ _)⟩
 case rest =>
  obtain⟨rfl,Uh⟩:=hcut;have h3:=((uh H).below (uh H2).1).below (uh Uh);have dy:=(uh H2).1.trans ((uh Uh).mono (uh H2).1.size);have hY3:=(uh H2).2.1.below (uh Uh);have Ey:=(uh HF).below dy;have H3:=ab (zq2 h3 (zq2 (ij.below (F:=(cZ S hv kv (.slice (some ⟨wB,0,none⟩) K.length wC) KV WV)) (D:=et K) (X:=[]) dy) (zq2 hY3 Ey)));clear h3 dy hY3 Ey B7 y0;go_upto_if 26 with fail
  go_cut [] (λwx=>Hid (Sh wx S c (.pointer (some ⟨Q,0,none⟩)) hv kv (.slice (some ⟨wB,0,none⟩) K.length wC) KV WV K (wrI b1 n 2 s)/\ij w wx (cZ S hv kv (.slice (some ⟨wB,0,none⟩) K.length wC) KV WV) (cZ S hv kv (.slice (some ⟨wB,0,none⟩) K.length wC) KV WV) (et K) (et K) []/\Bk wx Y 186 nd.cells/\eQ wx x.A x.f x.av x.ov))
  case first =>
   cases b1
   rotate_left
   .obtain⟨h3,hg3,hY3,Ey⟩:=uh H3;obtain⟨d4,dw,dt,dz⟩:=h3.wcs hn (uh To);have dt':=dt 2 (by omega);have dz':=dz 2;obtain⟨hb,xT⟩:=h3.bad hn (t:=2) (by omega) (uh To);have hYg:Y≠gA:=λe=>by
     have h1:=(uh H).lt gA xT;have h2:=(uh H2).2.2;omega
    have HN:Hid (Sh (wc.setCell ⟨gA,2,none⟩ (.bool true)) S c (.pointer (some ⟨Q,0,none⟩)) hv kv (.slice (some ⟨wB,0,none⟩) K.length wC) KV WV K (wrI true n 2 s)/\ij w (wc.setCell ⟨gA,2,none⟩ (.bool true)) (cZ S hv kv (.slice (some ⟨wB,0,none⟩) K.length wC) KV WV) (cZ S hv kv (.slice (some ⟨wB,0,none⟩) K.length wC) KV WV) (et K) (et K) []/\Bk (wc.setCell ⟨gA,2,none⟩ (.bool true)) Y 186 nd.cells/\eQ (wc.setCell ⟨gA,2,none⟩ (.bool true)) x.A x.f x.av x.ov):=ab (by
     rw[show(wrI true n 2 s)=kQ n 2 s from rfl];exact⟨hb,hg3.trans (ij.stp (X:=[]) ((ar.refl [gA] wc).setCell (p:=⟨gA,2,none⟩) (zq0 (by simp)) (.bool true)) (λk hk=>zq0 (by rw[mem_singleton]at hk;rw[hk];exact xT))) (λk hk=>by simp at hk),hY3.setO (p:=⟨gA,2,none⟩) (λe=>hYg e.symm) _,Ey.of_eq (λk hk=>heap_setCell _ _ _ _ (λe=>uh HD k hk (by rw[show k=gA from e];exact xT)))⟩)
    clear h3 hg3 hY3 Ey dt dz hb xT hYg H3;go_wp2_with fail
    go_meet
    exact HN
   .have HN:Hid (Sh wc S c (.pointer (some ⟨Q,0,none⟩)) hv kv (.slice (some ⟨wB,0,none⟩) K.length wC) KV WV K (wrI false n 2 s)/\ij w wc (cZ S hv kv (.slice (some ⟨wB,0,none⟩) K.length wC) KV WV) (cZ S hv kv (.slice (some ⟨wB,0,none⟩) K.length wC) KV WV) (et K) (et K) []/\Bk wc Y 186 nd.cells/\eQ wc x.A x.f x.av x.ov):=ab (by
     rw[show(wrI false n 2 s)=s from rfl];exact uh H3)
    clear H3;go_wp2_with fail
    go_meet
    exact HN
  case rest =>
   obtain⟨h4,Mr,Xm,se⟩:=uh hcut;have y0:=Xm.cell 0 rfl;have y1:=Xm.cell 1 rfl;have y2:=Xm.cell 2 rfl;have y3:=Xm.cell 3 rfl;have y4:=Xm.cell 4 rfl;have y5:=Xm.cell 5 rfl;have G9:=ab (NU (n:=nd) se (uh HT) (uh YD).1.1 (uh YD).1.2 (uh YD).2);unfold SP at G9;have H4:=ab (zq2 h4 (zq2 Mr Xm));clear h4 Mr Xm se hcut H3;go_wp2_with fail
   refine(uh G9).mono ?_;rintro e w5 ⟨O,rfl,nv,tv,Ln,Lt,tO,ku,yx,cX,eu⟩;rw[<-uh HO]at tO ku yx;simp only at tO ku yx;have Xn:=(uh H4).2.2.lt;have vQ:∀k,w.heap.size<=k->(k ∉ (cZ S hv kv (.slice (some ⟨wB,0,none⟩) K.length wC) KV WV)/\k ∉ et K)/\w.heap.size<=k:=λk hk=>⟨⟨λe=>by have:=(uh H).lt k e;omega,λe=>by have:=(uh H).drlt k e;omega⟩,hk⟩;have HX:Hid (Sx w w5 S c (.pointer (some ⟨Q,0,none⟩)) hv kv (.slice (some ⟨wB,0,none⟩) K.length wC) KV WV K (wrI b1 n 2 s) O nu da fu nv tv Ln Lt Y nd):=ab ⟨(uh H4).1.below eu,(uh H4).2.1.trans (ij.below (X:=[]) eu) (λk hk=>by simp at hk),tO,(uh H4).2.2.below eu,λk hk=>by
    rcases mem_cons.1 hk with p|p
    .rw[p];exact vQ Y (uh H2).2.2
    .exact vQ k (zq3 (uh H4).2.1.st.size (cX k p)),λe=>by have:=cX Y e;omega⟩
   have HM:=ab (zq2 ku yx);clear tO ku yx cX eu Xn vQ H4 G9 y0 y1 y2 y3 y4 y5;have o2:=(uh HX).oo.bk.cell 2 rfl;go_upto_if 41 with fail
   go_cut [] (λwx=>Hid (Sx w wx S c (.pointer (some ⟨Q,0,none⟩)) hv kv (.slice (some ⟨wB,0,none⟩) K.length wC) KV WV K (wrI nu n 3 (wrI b1 n 2 s)) O nu da fu nv tv Ln Lt Y nd))
   case first =>
    cases nu
    .go_wp2_with fail
     go_meet
     exact HX
    .obtain⟨d4,dw,dt,dz⟩:=(uh HX).sh.wcs hn (uh To);have dt':=dt 3 (by omega);have dz':=dz 3;have HN:=ab ((uh HX).bad hn (t:=3) (by omega) (uh To));clear dt dz;go_wp2_with fail
     go_meet
     exact HN
   case rest =>
   clear o2 HX;have HX:=ab (uh hcut);clear hcut;have o3:=(uh HX).oo.bk.cell 3 rfl;go_upto_if 53 with fail
   go_cut [] (λwx=>Hid (Sx w wx S c (.pointer (some ⟨Q,0,none⟩)) hv kv (.slice (some ⟨wB,0,none⟩) K.length wC) KV WV K (wrI da n 4 (wrI nu n 3 (wrI b1 n 2 s))) O nu da fu nv tv Ln Lt Y nd))
   case first =>
    cases da
    .go_wp2_with fail
     go_meet
     exact HX
    .obtain⟨d4,dw,dt,dz⟩:=(uh HX).sh.wcs hn (uh To);have dt':=dt 4 (by omega);have dz':=dz 4;have HN:=ab ((uh HX).bad hn (t:=4) (by omega) (uh To));clear dt dz;go_wp2_with fail
     go_meet
     exact HN
   case rest =>
   clear o3 HX;have HX:=ab (uh hcut);clear hcut;have o4:=(uh HX).oo.bk.cell 4 rfl;go_upto_if 65 with fail
   go_cut [] (λwx=>Hid (Sx w wx S c (.pointer (some ⟨Q,0,none⟩)) hv kv (.slice (some ⟨wB,0,none⟩) K.length wC) KV WV K (fuS fu (wrI da n 4 (wrI nu n 3 (wrI b1 n 2 s)))) O nu da fu nv tv Ln Lt Y nd))
   case first =>
    cases fu
    .go_wp2_with fail
     go_meet
     exact ab (by rw[show fuS false (wrI da n 4 (wrI nu n 3 (wrI b1 n 2 s)))=(wrI da n 4 (wrI nu n 3 (wrI b1 n 2 s))) by unfold fuS;rw[Bool.or_false]];exact uh HX)
    .have e8:=(uh HX).sh.bs.cell 8 rfl;have z8:=(uh HX).sh.bs.frz 8;have HN:=ab (uh HX).full;go_wp2_with fail
     go_meet
     exact ab (by rw[show fuS true (wrI da n 4 (wrI nu n 3 (wrI b1 n 2 s)))={ (wrI da n 4 (wrI nu n 3 (wrI b1 n 2 s))) with fu:=true } by unfold fuS;rw[Bool.or_true]];exact uh HN)
   case rest =>
   clear o4 HX;obtain⟨s2,gT⟩:∃s2,s2=(fuS fu (wrI da n 4 (wrI nu n 3 (wrI b1 n 2 s)))):=⟨_,rfl⟩;rw[<-gT]at hcut gD mr;obtain⟨s3,gj⟩:∃s3,s3=onx.foldl (λs g=>dV c fuel n nd.nx g s) s2:=⟨_,rfl⟩;rw[<-gj]at gD mr;have hX:=uh hcut;have htLn:∀y∈Ln,Td y.f:=λy hy=>(uh He).1 _ (by rw[<-(uh HM).1];exact mem_map_of_mem hy);have htLt:∀y∈Lt,Td y.f:=λy hy=>(uh He).2 _ (by rw[<-(uh HM).2];exact mem_map_of_mem hy);have zn:=hX.lp htLn;have di:Hid ((∀k∈bf tv Lt,w.heap.size<=k)/\Y ∉ bf tv Lt/\∀y∈Lt,Td y.f):=ab ⟨λk hk=>(hX.on k (by simp only[eR,mem_cons,mem_append];exact zq1 (zq1 (zq1 hk)))).2,λe=>hX.yn (by simp only[eR,mem_cons,mem_append];exact zq1 (zq1 e)),htLt⟩;obtain⟨na,nc,K8,alJ,alM⟩:=am hX.oo.nx.row;obtain⟨ta,tc,htv,amd,ame⟩:=am hX.oo.ot.row;have oc:=hX.oo.bk.cell 0 rfl;have cG:Hid (Lp w wc S c (.pointer (some ⟨Q,0,none⟩)) hv kv (.slice (some ⟨wB,0,none⟩) K.length wC) KV WV K [] KV K s2 nv Ln 0 (Y::O::bf tv Lt)/\((Ln.drop 0).map (·.f)).foldl (λs g=>dV c fuel n nd.nx g s) s2=s3/\Bk wc Y 186 nd.cells/\Bk wc O 280 [nv,tv,.bool nu,.bool da,.bool fu]/\Fl wc 0 tv Lt):=ab ⟨zn,by rw[drop_zero,(uh HM).1,gj],hX.bx,hX.oo.bk,hX.oo.ot⟩;subst K8;subst htv;have aq4:Ln.length<=9223372036854775807:=(by omega);have aq5:Lt.length<=9223372036854775807:=(by omega);clear hX zn htLn htLt gT gj hcut alJ alM amd ame;go_wp2_with fail
   go_loopg [74] Ln.length (λgn iv wx=>∃(j:Nat) (KV':List Value) (K':List (List En)) (s':Sr),j+gn=Ln.length/\iv=.int .i64 j/\Hid (Lp w wx S c (.pointer (some ⟨Q,0,none⟩)) hv kv (.slice (some ⟨wB,0,none⟩) K.length wC) KV WV K [] KV' K' s' (.slice na Ln.length nc) Ln j (Y::O::bf (.slice ta Lt.length tc) Lt)/\((Ln.drop j).map (·.f)).foldl (λs g=>dV c fuel n nd.nx g s) s'=s3/\Bk wx Y 186 nd.cells/\Bk wx O 280 [.slice na Ln.length nc,.slice ta Lt.length tc,.bool nu,.bool da,.bool fu]/\Fl wx 0 (.slice ta Lt.length tc) Lt))
   case atStart=>exact⟨0,KV,K,s2,by omega,rfl,cG⟩
   case round =>
    clear cG oc;obtain⟨j,KV',K',s',Cs,rfl,hI⟩:=hrel;obtain⟨G1,zi⟩:∃G1,G1=gk:=⟨_,rfl⟩;by_cases au:j<Ln.length
    .have k6:decide ((j:Int)<(Ln.length:Int))=true:=(by simp;omega);obtain⟨h1,h2,h3,h4,h5⟩:=uh hI;obtain⟨g2,cap2,dc,ax⟩:=h1.pn.pe.cell au;simp only[Value.slice.injEq,true_and]at dc;obtain⟨rfl,rfl⟩:=dc;obtain⟨n1,-,-,-,n5⟩:=h1.pn.pe.next au;have PO:=h1.pn.td _ (getElem_mem au);have O9:∀k∈Ln[j].bs,k ∉ cZ S hv kv (.slice (some ⟨wB,0,none⟩) K.length wC) KV' WV/\k ∉ et K':=λk hk=>h1.pn.fd k (n5 k hk);have nY:Ln.drop j=Ln[j]::Ln.drop (j+1):=drop_eq_getElem_cons au;rw[nY,map_cons,foldl_cons]at h2;have qL:(dV c fuel n nd.nx Ln[j].f s').ok=true:=eT _ (by rw[h2];exact eT _ (uh mr));have aH:onx≠[]:=λe=>by
      have h9:=congrArg List.length (uh HM).1;rw[e,length_map,length_nil]at h9;omega
     have hnn:=(uh qn).1 aH;have gK:=h1.kl;have y4:=h3.cell 4 rfl;have ZP:∀w' ,il wr S c (.pointer (some ⟨Q,0,none⟩)) hv kv (.slice (some ⟨wB,0,none⟩) K.length wC) KV' WV K' Ln[j].bs (dV c fuel n nd.nx Ln[j].f s') w'->∃tG K2,Lp w w' S c (.pointer (some ⟨Q,0,none⟩)) hv kv (.slice (some ⟨wB,0,none⟩) K.length wC) KV WV K [] tG K2 (dV c fuel n nd.nx Ln[j].f s') (.slice (some ⟨g2,0,none⟩) Ln.length nc) Ln (j+1) (Y::O::bf (.slice ta Lt.length tc) Lt)/\Bk w' Y 186 nd.cells/\Bk w' O 280 [.slice (some ⟨g2,0,none⟩) Ln.length nc,.slice ta Lt.length tc,.bool nu,.bool da,.bool fu]/\Fl w' 0 (.slice ta Lt.length tc) Lt:=λw' hP=>by
      obtain⟨tG,K2,q1,q2⟩:=h1.next au hP;exact⟨tG,K2,q1,h3.of_eq (q2 Y (by simp)),h4.of_eq (q2 O (by simp)),h5.of_eq (λk hk=>q2 k (mem_cons_of_mem _ (mem_cons_of_mem _ hk)))⟩
     obtain⟨y,hy⟩:∃y,y=Ln[j]:=⟨_,rfl⟩;rw[<-hy]at ax n1 PO O9 h2 qL ZP;have IQ:y.p=.pointer (some ⟨y.A,0,none⟩):=rfl;rw[IQ]at ax;have S0:=ab (rQ h1.sh n1 PO O9 (a:=n) (n:=nd.nx) (by omega) (by omega) (by omega) qL);have uZ:=ab (zq2 ZP h2);have k1:(0:Int)<=(j:Int):=(by omega);have k2:(j:Int)<(Ln.length:Int):=(by omega);clear h1 h2 h3 h4 h5 n1 n5 PO O9 nY qL aH hnn gK ZP hy IQ hI;go_wp2_with fail
     refine(uh S0).mono ?_;rintro e w6 ⟨rfl,hP⟩;obtain⟨tG,K2,q1,q2,q3,q4⟩:=(uh uZ).1 w6 hP;have HN:=ab (zq2 q1 (zq2 (uh uZ).2 (zq2 q2 (zq2 q3 q4))));clear hP q1 q2 q3 q4 S0 uZ y4 ax;go_wp2_with fail
     go_roundg (G1-1)
     case rel=>exact⟨j+1,tG,K2,_,by omega,by go_num,HN⟩
     case measure=>omega
    .have k6:decide ((j:Int)<(Ln.length:Int))=false:=(by simp;omega);obtain⟨h1,h2,h3,h4,h5⟩:=uh hI;rw[drop_eq_nil_of_le (by omega)]at h2;have gj:s'=s3:=h2;subst gj;have o1:=h4.cell 1 rfl;have oP:Hid (Lp w wr S c (.pointer (some ⟨Q,0,none⟩)) hv kv (.slice (some ⟨wB,0,none⟩) K.length wC) KV WV K [] KV' K' s' (.slice ta Lt.length tc) Lt 0 [Y]/\((Lt.drop 0).map (·.f)).foldl (λs g=>dV c fuel n nd.ot g s) s'=oot.foldl (λs g=>dV c fuel n nd.ot g s) s'/\Bk wr Y 186 nd.cells):=ab ⟨h1.turn h5 (uh di).2.2 (uh di).1 (uh di).2.1,by rw[drop_zero,(uh HM).2],h3⟩;clear h1 h2 h3 h4 h5 hI;go_wp2_with fail
     go_loopg [90] Lt.length (λgn iv wx=>∃(j:Nat) (tG:List Value) (K2:List (List En)) (s2:Sr),j+gn=Lt.length/\iv=.int .i64 j/\Hid (Lp w wx S c (.pointer (some ⟨Q,0,none⟩)) hv kv (.slice (some ⟨wB,0,none⟩) K.length wC) KV WV K [] tG K2 s2 (.slice ta Lt.length tc) Lt j [Y]/\((Lt.drop j).map (·.f)).foldl (λs g=>dV c fuel n nd.ot g s) s2=oot.foldl (λs g=>dV c fuel n nd.ot g s) s'/\Bk wx Y 186 nd.cells))
     case atStart=>exact⟨0,KV',K',s',by omega,rfl,oP⟩
     case round =>
      clear oP o1;obtain⟨i,tG,K2,sb,arD,rfl,hI⟩:=hrel;obtain⟨G2,FD⟩:∃G2,G2=gk:=⟨_,rfl⟩;by_cases b8:i<Lt.length
      .have hd3:decide ((i:Int)<(Lt.length:Int))=true:=(by simp;omega);obtain⟨h1,h2,h3⟩:=uh hI;obtain⟨g2,cap2,dc,ax⟩:=h1.pn.pe.cell b8;simp only[Value.slice.injEq,true_and]at dc;obtain⟨rfl,rfl⟩:=dc;obtain⟨n1,-,-,-,n5⟩:=h1.pn.pe.next b8;have PO:=h1.pn.td _ (getElem_mem b8);have O9:∀k∈Lt[i].bs,k ∉ cZ S hv kv (.slice (some ⟨wB,0,none⟩) K.length wC) tG WV/\k ∉ et K2:=λk hk=>h1.pn.fd k (n5 k hk);have nY:Lt.drop i=Lt[i]::Lt.drop (i+1):=drop_eq_getElem_cons b8;rw[nY,map_cons,foldl_cons]at h2;have qL:(dV c fuel n nd.ot Lt[i].f sb).ok=true:=eT _ (by rw[h2];exact uh mr);have aH:oot≠[]:=λe=>by
        have h9:=congrArg List.length (uh HM).2;rw[e,length_map,length_nil]at h9;omega
       have hnn:=(uh qn).2 aH;have gK:=h1.kl;have y5:=h3.cell 5 rfl;have ZP:∀w' ,il wr S c (.pointer (some ⟨Q,0,none⟩)) hv kv (.slice (some ⟨wB,0,none⟩) K.length wC) tG WV K2 Lt[i].bs (dV c fuel n nd.ot Lt[i].f sb) w'->∃YJ K3,Lp w w' S c (.pointer (some ⟨Q,0,none⟩)) hv kv (.slice (some ⟨wB,0,none⟩) K.length wC) KV WV K [] YJ K3 (dV c fuel n nd.ot Lt[i].f sb) (.slice (some ⟨g2,0,none⟩) Lt.length tc) Lt (i+1) [Y]/\Bk w' Y 186 nd.cells:=λw' hP=>by
        obtain⟨YJ,K3,q1,q2⟩:=h1.next b8 hP;exact⟨YJ,K3,q1,h3.of_eq (q2 Y (by simp))⟩
       obtain⟨y,hy⟩:∃y,y=Lt[i]:=⟨_,rfl⟩;rw[<-hy]at ax n1 PO O9 h2 qL ZP;have IQ:y.p=.pointer (some ⟨y.A,0,none⟩):=rfl;rw[IQ]at ax;have S0:=ab (rQ h1.sh n1 PO O9 (a:=n) (n:=nd.ot) (by omega) (by omega) (by omega) qL);have uZ:=ab (zq2 ZP h2);have k1:(0:Int)<=(i:Int):=(by omega);have k2:(i:Int)<(Lt.length:Int):=(by omega);clear h1 h2 h3 n1 n5 PO O9 nY qL aH hnn gK ZP hy IQ hI;go_wp2_with fail
       refine(uh S0).mono ?_;rintro e w6 ⟨rfl,hP⟩;obtain⟨YJ,K3,q1,q2⟩:=(uh uZ).1 w6 hP;have HN:=ab (zq2 q1 (zq2 (uh uZ).2 q2));clear hP q1 q2 S0 uZ y5 ax;go_wp2_with fail
       go_roundg (G2-1)
       case rel=>exact⟨i+1,YJ,K3,_,by omega,by go_num,HN⟩
       case measure=>omega
      .have hd3:decide ((i:Int)<(Lt.length:Int))=false:=(by simp;omega);have hP:eI wr:=by
        obtain⟨h1,h2,h3⟩:=uh hI;rw[drop_eq_nil_of_le (by omega)]at h2;rw[uh gD,<-h2];exact h1.end'
       have HP:=ab hP;clear hP hI;go_wp2_with fail
       go_end0
       exact⟨rfl,uh HP⟩
end
theorem GW(b:Bool)(n k:Nat)(s:Sr):(wrI b n k s).ok=s.ok:=by unfold wrI;split <;> rfl
theorem Rv{c:Cd}{fuel n:Nat}{f:CF}{s:Sr}(h:(po c fuel n f s).ok=true):s.ok=true:=by
 unfold po at h;simp only at h;have h1:=eT _ (eT _ h);have h2:(wrI (cn (c.nds.getD n aI) f).da n 4 (wrI (cn (c.nds.getD n aI) f).nu n 3 (wrI (decide ((c.nds.getD n aI).op=0)&&!decide (dd f=[])) n 2 s))).ok=true:=h1;rw[GW,GW,GW]at h2;exact h2
theorem nP{c:Cd}{fuel n:Nat}:∀(l:List CF) {s:Sr},(nO c fuel n l s).ok=true->s.ok=true
 |[],_,h=>h
 |f::l,s,h=>by
  unfold nO at h;split at h
  .exact h
  .exact Rv (nP l h)
def En.dn(e:En):En:={ e with d:=true }
theorem En.dn_of{e:En}(h:e.d=true):e.dn=e:=by cases e;simp only at h;subst h;rfl
def fW(l:List En)(k:Nat):List En:=(l.take k).map En.dn++l.drop k
theorem cW(l:List En)(k:Nat):(fW l k).length=l.length:=by unfold fW;simp;omega
theorem NY(l:List En):fW l 0=l:=rfl
theorem TP{l:List En}{k:Nat}(h:l.length<=k):fW l k=l.map En.dn:=by unfold fW;rw[take_of_length_le h,drop_eq_nil_of_le h,append_nil]
theorem At{l:List En}{k:Nat}(h:k<l.length):(fW l k)[k]?=some l[k]:=by
 unfold fW;rw[getElem?_append_right (by simp;omega),getElem?_drop];simp[Nat.min_eq_left (Nat.le_of_lt h),h]
theorem qB{l:List En}{k:Nat}(h:k<l.length):fW l (k+1)=(fW l k).set k l[k].dn:=by
 unfold fW;have e:((l.take k).map En.dn).length=k:=by simp;omega
 rw[set_append_right _ _ (by omega),e,Nat.sub_self,take_succ_eq_append_getElem h,map_append,drop_eq_getElem_cons h,set_cons_zero];simp
theorem NX{l:List En}{k:Nat}(h:k<l.length)(hd:l[k].d=true):fW l (k+1)=fW l k:=by
 rw[qB h,En.dn_of hd];apply ext_getElem?;intro i;rw[getElem?_set];split
 .rename_i e;subst e;rw[if_pos (by rw[cW];exact h),At h]
 .rfl
theorem Ie{l:List En}{k:Nat}{e:En}(h:e∈fW l k):∃e0∈l,e.bs=e0.bs/\(∀w,e0.ok w->e.ok w):=by
 unfold fW at h;rcases mem_append.1 h with h|h
 .obtain⟨e0,h0,rfl⟩:=mem_map.1 h;exact⟨e0,mem_of_mem_take h0,rfl,λw h=>h⟩
 .exact⟨e,mem_of_mem_drop h,rfl,λw h=>h⟩
theorem nL{α:Type}{l:List α}{d:α}{n:Nat}(h:n<l.length):l.set n (l.getD n d)=l:=by
 apply ext_getElem?;intro i;rw[getElem?_set];split
 .rename_i e;subst e;simp[h]
 .rfl
section
variable {w W:World} {S:Nat} {c:Cd} {c0 hv kv wv:Value} {KV WV:List Value} {K:List (List En)} {s:Sr} {n:Nat} {l:List En}
theorem Sh.done{k g cap:Nat}(h:Sh w S c c0 hv kv wv KV WV (K.set n (fW l k)) { s with kn:=s.kn.set n ((fW l k).map En.m) })(hn:n<K.length)(hk:k<l.length)(hg:KV.getD n aJ=.slice (some ⟨g,0,none⟩) l.length cap):
  Sh (w.setCell ⟨g,k*2+1,none⟩ (.bool true)) S c c0 hv kv wv KV WV (K.set n (fW l (k+1))) { s with kn:=s.kn.set n ((fW l (k+1)).map En.m) }/\g∈cZ S hv kv wv KV WV:=by
 have zj:(K.set n (fW l k)).length=K.length:=length_set;have hKV:=h.kvl;rw[zj]at hKV;have Cw:(pB S hv kv wv KV WV)[4+n]?=some (some g):=by rw[yA (by omega),hg];rfl
 have xT:g∈cZ S hv kv wv KV WV:=bQ Cw;have bq:=h.ke n (by rw[zj];exact hn);have e2:(K.set n (fW l k)).getD n []=fW l k:=by simp[hn]
 rw[e2,hg,cW]at bq;have aP:=(bq.stored (k*2+1) (.bool true)).1;have ax:(rG (fW l k)).set (k*2+1) (.bool true)=rG (fW l (k+1)):=by
  have h1:=If (L:=fW l k) (i:=k) (by rw[cW];exact hk) l[k].dn;rw[<-qB hk]at h1;rw[<-h1];congr 1;symm;apply ext_getElem?;intro i;rw[getElem?_set];split
  .rename_i e;subst e;have h3:=(qC (L:=fW l k) (i:=k) (by rw[cW];exact hk)).1;have h4:=At hk;rw[getElem?_eq_getElem (by rw[cW];exact hk)]at h4;injection h4 with h4;rw[h4]at h3;rw[if_pos (by rw[TS,cW];omega),h3];rfl
  .rfl
 rw[ax]at aP;have sn:=h.put (n:=n) (by rw[zj];exact hn) (w':=w.setCell ⟨g,k*2+1,none⟩ (.bool true)) (v':=.slice (some ⟨g,0,none⟩) l.length cap) (l':=fW l (k+1)) (λi j _ h4 hi=>heap_setCell _ _ _ _ (λe=>h4 (by
   rw[show j=g from e]at hi;exact h.nd i _ g hi Cw))) (by
   rw[zj,<-hg,nL (by omega)];refine cF (zj ▸ h.kr) (p:=⟨g,k*2+1,none⟩) (λe=>?_) _;have:=h.nd 2 (4+n) g (congrArg some e) Cw;omega) (by rw[cW];exact aP) (λj hj=>zq0 (by rw[hg];exact hj)) (λj hj=>heap_setCell _ _ _ _ (λe=>h.da j hj (by rw[show j=g from e];exact xT))) (λe he=>by
   have cU:KV.set n (.slice (some ⟨g,0,none⟩) l.length cap)=KV:=(by rw[<-hg,nL (by omega)]);obtain⟨e0,h0,tK,ho0⟩:=Ie he;obtain⟨i,hi,KX⟩:=mem_iff_getElem.1 h0;have us:∃e1∈fW l k,e1.bs=e0.bs/\(∀w',e1.ok w'->e0.ok w'):=by
    by_cases hik:i<k
    .refine⟨e0.dn,mem_append_left _ (mem_map_of_mem (mem_iff_getElem?.2 ⟨i,?_⟩)),rfl,λw' h=>h⟩;rw[getElem?_take,if_pos hik,getElem?_eq_getElem hi,KX]
    .refine⟨e0,mem_append_right _ (mem_iff_getElem?.2 ⟨i-k,?_⟩),rfl,λw' h=>h⟩;rw[getElem?_drop,show k+(i-k)=i by omega,getElem?_eq_getElem hi,KX]
   obtain⟨e1,h1,bB,ho1⟩:=us;have hl:fW l k∈K.set n (fW l k):=mem_iff_getElem?.2 ⟨n,by rw[getElem?_set_self hn]⟩;have Xv:∀j∈e.bs,j∈et (K.set n (fW l k)):=λj hj=>bC.2 ⟨_,hl,e1,h1,by rw[bB,<-tK];exact hj⟩;refine⟨(ho0 w (ho1 w (h.dr _ hl e1 h1))).of_eq (λj hj=>heap_setCell _ _ _ _ (λe'=>h.da j (Xv j hj) (by rw[show j=g from e'];exact xT))),λj hj hm=>?_⟩;rw[cU]at hm;exact h.da j (Xv j hj) hm)
 have cU:KV.set n (.slice (some ⟨g,0,none⟩) l.length cap)=KV:=by rw[<-hg,nL (by omega)]
 rw[cU,set_set]at sn;refine⟨sn.as (s':={ s with kn:=s.kn.set n ((fW l (k+1)).map En.m) }) ?_ rfl rfl rfl rfl,xT⟩;show s.kn.set n _=(s.kn.set n _).set n _;rw[set_set]
theorem CS(hl:l=K.getD n [])(hn:n<K.length)(k:Nat):∀j,j∈et (K.set n (fW l k))↔j∈et K:=by
 have hlK:l∈K:=by rw[hl,bG hn];exact getElem_mem hn
 intro j;constructor
 .intro hj;obtain⟨l2,h2,e,he,hj⟩:=bC.1 hj;rcases mem_or_eq_of_mem_set h2 with p|p
  .exact bC.2 ⟨l2,p,e,he,hj⟩
  .subst p;obtain⟨e0,h0,tK,-⟩:=Ie he;exact bC.2 ⟨l,hlK,e0,h0,by rw[<-tK];exact hj⟩
 .intro hj;obtain⟨l2,h2,e,he,hj⟩:=bC.1 hj;obtain⟨i,hi,KX⟩:=mem_iff_getElem.1 h2;by_cases us:i=n
  .subst us;have yq:l2=l:=(by rw[hl,bG hn];exact KX.symm);subst yq;obtain⟨q,hq,hqe⟩:=mem_iff_getElem.1 he;have hm:fW l2 k∈K.set i (fW l2 k):=mem_iff_getElem?.2 ⟨i,by rw[getElem?_set_self hi]⟩;by_cases hqk:q<k
   .refine bC.2 ⟨_,hm,e.dn,mem_append_left _ (mem_map_of_mem (mem_iff_getElem?.2 ⟨q,?_⟩)),hj⟩;rw[getElem?_take,if_pos hqk,getElem?_eq_getElem hq,hqe]
   .refine bC.2 ⟨_,hm,e,mem_append_right _ (mem_iff_getElem?.2 ⟨q-k,?_⟩),hj⟩;rw[getElem?_drop,show k+(q-k)=q by omega,getElem?_eq_getElem hq,hqe]
  .exact bC.2 ⟨l2,mem_iff_getElem?.2 ⟨i,by rw[getElem?_set_ne (λe=>us e.symm),getElem?_eq_getElem hi,KX]⟩,e,he,hj⟩
end
