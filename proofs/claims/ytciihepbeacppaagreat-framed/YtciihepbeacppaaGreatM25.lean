import Derived.Test.YtciihepbeacppaaGreatM24
set_option maxRecDepth 100000
set_option maxHeartbeats 0
namespace Go.Proofs.YtciihepbeacppaaGreat
open Tryz Go.RowKit List World Below
set_option linter.unusedVariables false
def tI(g:Nat->List gT->Nat):Nat->List (List gT)->Nat
 |_,[]=>0
 |k,a::l=>g k a+tI g (k+1) l
theorem wN(g:Nat->List gT->Nat):∀(l:List (List gT)) (k n:Nat) (x:List gT),n<l.length->tI g k (l.set n x)+g (k+n) (l.getD n [])=tI g k l+g (k+n) x
 |[],k,n,x,h=>by simp at h
 |a::l,k,0,x,_=>by simp[tI];omega
 |a::l,k,n+1,x,h=>by
  have:=wN g l (k+1) n x (by simpa using h);rw[show k+1+n=k+(n+1) by omega]at this;simp only[set_cons_succ,tI,getD_cons_succ];omega
theorem DS(g:Nat->List gT->Nat):∀(l:List (List gT)) (k n:Nat),n<l.length->g (k+n) (l.getD n [])<=tI g k l
 |[],k,n,h=>by simp at h
 |a::l,k,0,_=>by simp[tI]
 |a::l,k,n+1,h=>by
  have:=DS g l (k+1) n (by simpa using h);rw[show k+1+n=k+(n+1) by omega]at this;simp only[tI,getD_cons_succ];omega
def Lz(nds:List Nd)(s:Sr):Nat:=tI (λn l=>a9 (iw nds n) (lJ l)) 0 s.kn
structure uH(c:Cd)(cu rest:Nat)(s:Sr):Prop where
 kl:s.kn.length=c.nds.length
 fo:∀n,∀e∈a7 s n,zt c.nds n e.f
 un:∀n,cu<=n->∀e∈a7 s n,e.d=false
 dn:∀n,n<cu->∀e∈a7 s n,e.d=true
 tw:Lz c.nds s+rest<=th
 ok:s.ok=true
theorem acm(nds:List Nd)(n:Nat)(f:CF):1<=iw nds n f:=Nat.mul_pos (Nat.pow_pos (by omega)) (Nat.pow_pos (by omega))
theorem II{nds:List Nd}{n:Nat}:∀(l:List CF),l.length<=a9 (iw nds n) l
 |[]=>by simp
 |f::l=>by
  have:=acm nds n f;have:=II (nds:=nds) (n:=n) l;simp only[a9,length_cons];omega
theorem Hw{l:List gT}(h:∀e∈l,e.d=false):lJ l=l.map (·.f):=by
 unfold lJ;rw[filter_eq_self.2 (λe he=>by rw[h e he];rfl)]
theorem UJ{s:Sr}{n:Nat}(h:s.kn.length<=n):a7 s n=[]:=by unfold a7;rw[getD_eq_getElem?_getD,getElem?_eq_none h];rfl
theorem nZ{s:Sr}{n m:Nat}{x:List gT}{s':Sr}(e:s'.kn=s.kn.set n x):a7 s' m=if m=n/\n<s.kn.length then x else a7 s m:=by
 unfold a7;rw[e,getD_eq_getElem?_getD,getElem?_set];by_cases h:n=m
 .subst h;by_cases hl:n<s.kn.length
  .simp[hl]
  .rw[if_pos rfl,if_neg hl,if_neg (by simp[hl]),getD_eq_getElem?_getD,getElem?_eq_none (by omega)]
 .rw[if_neg h,if_neg (by rintro⟨rfl,-⟩;exact h rfl),getD_eq_getElem?_getD]
theorem uH.len{c:Cd}{cu rest n:Nat}{s:Sr}(h:uH c cu rest s)(hn:cu<=n):(a7 s n).length<=th:=by
 by_cases hl:n<s.kn.length
 .have h1:=DS (λn l=>a9 (iw c.nds n) (lJ l)) s.kn 0 n hl;have h2:(a7 s n).length<=a9 (iw c.nds n) (lJ (a7 s n)):=by
   have h3:=II (nds:=c.nds) (n:=n) (lJ (a7 s n));rw[Hw (h.un n hn),length_map]at h3;rw[Hw (h.un n hn)];exact h3
  have h3:=h.tw;unfold Lz at h3;rw[Nat.zero_add]at h1;have h4:(a7 s n).length<=tI (λn l=>a9 (iw c.nds n) (lJ l)) 0 s.kn:=zq3 h2 h1;omega
 .rw[UJ (by omega)];simp
structure YC(c:Cd):Prop where
 lp:c.lp=false
 bd:c.bd=false
 hd:∀n,c.hd.getD n false=false
 fw:Fwd c.nds
theorem De{c:Cd}(hc:YC c){cu rest n:Nat}(hn:cu<=n){f:CF}(hf:zt c.nds n f){s:Sr}(h:uH c cu (rest+iw c.nds n f) s):uH c cu rest (bF c n f s):=by
 have hN:bm c n f=f:=by unfold bm;rw[if_neg (by rw[hc.hd n];decide)]
 have dL:=h.len hn;unfold bF;rw[hN];split
 .exact⟨h.kl,h.fo,h.un,h.dn,by have:=h.tw;show Lz c.nds s+rest<=th;omega,by show(s.ok&&decide ((a7 s n).length<=th))=true;rw[h.ok];simpa using dL⟩
 .obtain⟨x,hx⟩:∃x,x=(a7 s n).filter (λe=>!xF e.f f)++[⟨f,false⟩]:=⟨_,rfl⟩;obtain⟨s',hs'⟩:∃s',s'=pU c (nk n f (mG c s (2*(a7 s n).length))):=⟨_,rfl⟩;have fJ:s'.kn=s.kn.set n x:=by rw[hs',hx];rfl
  have bD:s'.ok=true:=by rw[hs'];show(s.ok&&decide ((a7 s n).length<=th))=true;rw[h.ok];simpa using dL
  rw[<-hs'];refine⟨by rw[fJ,length_set];exact h.kl,λm e he=>?_,λm hm e he=>?_,λm hm e he=>?_,?_,bD⟩
  .rw[nZ fJ]at he;split at he
   .rename_i hm;rw[hm.1];rw[hx]at he;rcases mem_append.1 he with he|he
    .exact h.fo n e (mem_filter.1 he).1
    .rw[mem_singleton]at he;subst he;exact hf
   .exact h.fo m e he
  .rw[nZ fJ]at he;split at he
   .rw[hx]at he;rcases mem_append.1 he with he|he
    .exact h.un n hn e (mem_filter.1 he).1
    .rw[mem_singleton]at he;subst he;rfl
   .exact h.un m hm e he
  .rw[nZ fJ,if_neg (by rintro⟨rfl,-⟩;omega)]at he;exact h.dn m hm e he
  .have htw:=h.tw;unfold Lz at htw ⊢;rw[fJ];by_cases hl:n<s.kn.length
   .have h1:=wN (λn l=>a9 (iw c.nds n) (lJ l)) s.kn 0 n x hl;rw[Nat.zero_add]at h1;have h2:a9 (iw c.nds n) (lJ x)<=a9 (iw c.nds n) (lJ (a7 s n))+iw c.nds n f:=by
     have e1:lJ x=lJ ((a7 s n).filter (λe=>!xF e.f f))++[f]:=by
      rw[hx];unfold lJ;rw[filter_append,map_append];rfl
     rw[e1,DR];have h3:a9 (iw c.nds n) (lJ ((a7 s n).filter (λe=>!xF e.f f)))<=a9 (iw c.nds n) (lJ (a7 s n)):=Q1 _ ((filter_sublist.filter _).map _);simp only[a9];omega
    have h3:a9 (iw c.nds n) (lJ (s.kn.getD n []))=a9 (iw c.nds n) (lJ (a7 s n)):=rfl;omega
   .rw[set_eq_of_length_le (by omega)];omega
theorem Dc{c:Cd}(hc:YC c){cu n fuel a:Nat}(hn:cu<=n):∀(l:List CF) {rest:Nat} {s:Sr},(∀f∈l,zt c.nds n f)->uH c cu (rest+a9 (iw c.nds n) l) s->uH c cu rest (l.foldl (λs g=>dJ c fuel a n g s) s)
 |[],rest,s,_,h=>h
 |f::l,rest,s,hl,h=>by
  have e:dJ c fuel a n f s=bF c n f s:=by unfold dJ;rw[if_pos (zq0 hc.lp)]
  rw[foldl_cons,e];refine Dc hc hn l (λg hg=>hl g (by simp[hg])) (De hc hn (hl f (by simp)) ?_);have e2:rest+a9 (iw c.nds n) (f::l)=rest+a9 (iw c.nds n) l+iw c.nds n f:=by simp only[a9];omega
  rw[<-e2];exact h
theorem uH.wrI{c:Cd}{cu rest n k:Nat}{b:Bool}{s:Sr}(h:uH c cu rest s):uH c cu rest (wrI b n k s):=by
 unfold Go.Proofs.YtciihepbeacppaaGreat.wrI;split
 .exact⟨h.kl,h.fo,h.un,h.dn,h.tw,h.ok⟩
 .exact h
theorem uH.fuS{c:Cd}{cu rest:Nat}{b:Bool}{s:Sr}(h:uH c cu rest s):uH c cu rest (fuS b s):=⟨h.kl,h.fo,h.un,h.dn,h.tw,h.ok⟩
theorem VK{c:Cd}(hc:YC c){n rest fuel:Nat}(hn:n<c.nds.length){f:CF}(hf:zt c.nds n f){s:Sr}(h:uH c (n+1) (rest+iw c.nds n f) s):uH c (n+1) rest (oE c fuel n f s):=by
 have hw:=aeF hc.fw hn hf;have vA:=hc.fw.nx n hn;have Me:=hc.fw.ot n hn;obtain⟨o,ho⟩:∃o,o=bL (c.nds.getD n aI) f:=⟨_,rfl⟩;have tz:o.nx≠[]->n<(c.nds.getD n aI).nx:=λaL=>vA (λe=>aL (by rw[ho];unfold bL;rw[if_pos e];rfl));have al9:o.ot≠[]->n<(c.nds.getD n aI).ot:=λaL=>Me (by
  apply Classical.byContradiction;intro hT;apply aL;have ZK:¬ ((c.nds.getD n aI).op=7\/(c.nds.getD n aI).op=8\/(c.nds.getD n aI).op=9):=by simpa[tE] using hT
  rw[ho];unfold bL;split
  .rfl
  .split
   .rfl
   .split
    .rfl
    .split
     .rfl
     .split
      .split <;> rfl
      .split
       .rfl
       .split
        .exact absurd (zq0 (by assumption)) ZK
        .split
         .exact absurd (zq1 (zq0 (by assumption))) ZK
         .split
          .exact absurd (zq1 (zq1 (by assumption))) ZK
          .rfl)
 rw[<-ho]at hw;unfold oE;simp only[<-ho];have lay1:∀{l:List CF} {m rest:Nat} {s:Sr},(l≠[]->n<m)->(∀g∈l,zt c.nds m g)->uH c (n+1) (rest+a9 (iw c.nds m) l) s->uH c (n+1) rest (l.foldl (λs g=>dJ c fuel n m g s) s):=by
  intro l m rest s hm hl hs;by_cases e:l=[]
  .subst e;exact hs
  .exact Dc hc (hm e) l hl hs
 refine lay1 al9 hw.ot (lay1 tz hw.nx ?_);have h1:uH c (n+1) (rest+a9 (iw c.nds (c.nds.getD n aI).ot) o.ot+a9 (iw c.nds (c.nds.getD n aI).nx) o.nx) s:=⟨h.kl,h.fo,h.un,h.dn,by have:=h.tw;have:=hw.w;omega,h.ok⟩;exact h1.wrI.wrI.wrI.fuS
theorem JE{c:Cd}(hc:YC c){n fuel:Nat}(hn:n<c.nds.length):∀(l:List CF) {s:Sr},(∀f∈l,zt c.nds n f)->uH c (n+1) (a9 (iw c.nds n) l) s->uH c (n+1) 0 (mJ c fuel n l s)
 |[],s,_,h=>h
 |f::l,s,hl,h=>by
  unfold mJ;split
  .exact⟨h.kl,h.fo,h.un,h.dn,by have:=h.tw;omega,h.ok⟩
  .refine JE hc hn l (λg hg=>hl g (by simp[hg])) (VK hc hn (hl f (by simp)) ?_);have e:a9 (iw c.nds n) (f::l)=a9 (iw c.nds n) l+iw c.nds n f:=(by simp only[a9];omega);rw[<-e];exact h
theorem VY{c:Cd}(hc:YC c){cu n fuel:Nat}{s:Sr}(hcu:cu<=n)(hn:n<c.nds.length)(hb:∀m,cu<=m->m<n->a7 s m=[])(h:uH c cu 0 s):uH c (n+1) 0 (rp c fuel n s):=by
 have hl:n<s.kn.length:=by rw[h.kl];exact hn
 have hF:∀f∈lJ (a7 s n),zt c.nds n f:=by
  intro f hf;obtain⟨e,he,rfl⟩:=mem_map.1 hf;exact h.fo n e (mem_filter.1 he).1
 refine JE hc hn _ hF ?_;obtain⟨x,hx⟩:∃x,x=(a7 s n).map (λe=>(⟨e.f,true⟩:gT)):=⟨_,rfl⟩;have fJ:({ s with kn:=s.kn.set n ((a7 s n).map (λe=>⟨e.f,true⟩)) }:Sr).kn=s.kn.set n x:=by rw[hx]
 refine⟨by rw[fJ,length_set];exact h.kl,λm e he=>?_,λm hm e he=>?_,λm hm e he=>?_,?_,h.ok⟩
 .rw[nZ fJ]at he;split at he
  .rename_i hm;rw[hx]at he;obtain⟨y,hy,rfl⟩:=mem_map.1 he;rw[hm.1];exact h.fo n y hy
  .exact h.fo m e he
 .rw[nZ fJ,if_neg (by rintro⟨rfl,-⟩;omega)]at he;exact h.un m (by omega) e he
 .rw[nZ fJ]at he;split at he
  .rw[hx]at he;obtain⟨y,-,rfl⟩:=mem_map.1 he;rfl
  .rename_i hm';by_cases hmc:m<cu
   .exact h.dn m hmc e he
   .rw[hb m (by omega) (by
     have:m≠n:=λe=>hm' ⟨e,hl⟩;omega)]at he
    simp at he
 .have htw:=h.tw;unfold Lz at htw ⊢;rw[fJ];have h1:=wN (λn l=>a9 (iw c.nds n) (lJ l)) s.kn 0 n x hl;rw[Nat.zero_add]at h1;have h2:lJ x=[]:=by
   rw[hx];unfold lJ;rw[map_eq_nil_iff,filter_eq_nil_iff];intro e he;obtain⟨y,-,rfl⟩:=mem_map.1 he;simp
  have h3:a9 (iw c.nds n) (lJ (s.kn.getD n []))=a9 (iw c.nds n) (lJ (a7 s n)):=rfl;rw[h2]at h1;simp only[a9]at h1;omega
theorem Jl{c:Cd}(hc:YC c){fuel:Nat}:∀(k:Nat) {cu:Nat} {s:Sr},uH c cu 0 s->c.nds.length<k+cu->cu<=c.nds.length->(pS c fuel k s).ok=true
 |0,_,_,_,h,h'=>by omega
 |k+1,cu,s,h,hk,_=>by
  unfold pS;split
  .exact h.ok
  .rename_i n hp;split
   .exact h.ok
   .obtain⟨hn,qx,OE⟩:=findIdx?_eq_some_iff_getElem.1 hp;have at_:∀j,(hj:j<s.kn.length)->a7 s j=s.kn[j]:=λj hj=>by unfold a7;rw[getD_eq_getElem?_getD,getElem?_eq_getElem hj];rfl
    have hcu:cu<=n:=by
     apply Classical.byContradiction;intro ar;obtain⟨e,he,hde⟩:=any_eq_true.1 qx;rw[<-at_ n hn]at he;rw[h.dn n (by omega) e he]at hde;simp at hde
    have hn':n<c.nds.length:=(by rw[<-h.kl];exact hn);have hS:=VY hc (fuel:=fuel) hcu hn' (λm hm hmn=>by
     rw[eq_nil_iff_forall_not_mem];intro e he;have h1:=h.un m hm e he;have h2:=OE m hmn;rw[at_ m (by omega)]at he;apply h2;rw[any_eq_true];exact⟨e,he,by rw[h1];rfl⟩) h
    exact Jl hc k hS (by omega) (by omega)
def Mo(s t:PS):Prop:=t.nodes=s.nodes/\s.vars.length<=t.vars.length/\s.hid.length<=t.hid.length
theorem Mo.refl(s:PS):Mo s s:=⟨rfl,zq4 _,zq4 _⟩
theorem Mo.trans{s t u:PS}(h:Mo s t)(h':Mo t u):Mo s u:=⟨h'.1.trans h.1,zq3 h.2.1 h'.2.1,zq3 h.2.2 h'.2.2⟩
def Lw(L i:Nat):Prop:=i=0\/i<L
theorem Lw.up{L L' i:Nat}(h:Lw L i)(hL:L<=L'):Lw L' i:=h.imp id (λh=>by omega)
section
variable {ws:List ByteArray} {s:PS}
theorem gx:Mo s s.adv:=⟨rfl,zq4 _,zq4 _⟩
theorem cL(k:ByteArray):Mo s (aG ws k s):=by unfold aG;split <;> exact⟨rfl,zq4 _,zq4 _⟩
theorem q8(l:List UInt8)(c:UInt8):l.length<=(put l c).length/\plc l c<(put l c).length:=by
 unfold put;have:=wg l c;split
 .simp;omega
 .exact⟨zq4 _,by omega⟩
theorem wW:Mo s (bK ws s):=by
 unfold bK;split
 .exact⟨rfl,(q8 _ _).1,zq4 _⟩
 .exact⟨rfl,zq4 _,zq4 _⟩
theorem wV:Lw (bK ws s).vars.length (mI ws s):=by
 unfold mI bK;split
 .exact zq1 (q8 _ _).2
 .exact zq0 rfl
theorem js:Mo s (ce ws s):=by
 unfold ce;split
 .exact gx
 .exact wW
theorem ut:Lw (ce ws s).vars.length (eM ws s):=by
 unfold eM ce;split
 .exact zq0 rfl
 .exact wV
theorem sD:Mo s (fA ws s):=by
 unfold fA;split
 .exact⟨rfl,zq4 _,(q8 _ _).1⟩
 .exact js
theorem Nl:Mo s (yz ws s):=by
 unfold yz;split
 .exact gx
 .exact cL _
theorem YW:Mo s (ti ws s):=by
 unfold ti;split
 .exact gx
 .exact(wW.trans Nl).trans js
theorem acd:Mo s (Mj ws s):=((cL _).trans YW).trans (cL _)
theorem YI:Mo s (oL ws s):=by
 unfold oL;split
 .exact gx
 .split
  .exact(js.trans gx).trans (cL _)
  .exact js
theorem QT:Mo s (zj ws s):=(gx.trans (cL _)).trans (cL _)
theorem abY:Mo s (io ws s):=by
 unfold io;split
 .exact gx
 .split
  .exact gx.trans wW
  .split
   .exact(wW.trans QT).trans js
   .exact(wW.trans (cL _)).trans YI
theorem YV:Lw (ti ws s).vars.length (BD ws s).v/\Lw (ti ws s).vars.length (BD ws s).ai/\(1<=(BD ws s).op/\(BD ws s).op<=9):=by
 unfold BD ti;split
 .exact⟨zq0 rfl,zq0 rfl,by decide⟩
 .refine⟨wV.up (Nl.trans js).2.1,ut,?_⟩;show 1<=RI ws (bK ws s)/\RI ws (bK ws s)<=9;unfold RI;split <;> decide
theorem YH{v:Nat}(hv:Lw s.vars.length v):Lw (oL ws s).vars.length (xn ws v s).v/\Lw (oL ws s).vars.length (xn ws v s).ai/\(1<=(xn ws v s).op/\(xn ws v s).op<=6)/\(xn ws v s).ot=0:=by
 unfold xn oL;split
 .exact⟨hv,zq0 rfl,by show 1<=(4:Nat)/\(4:Nat)<=6;decide,rfl⟩
 .split
  .exact⟨hv.up ((js.trans gx).trans (cL _)).2.1,ut.up (gx.trans (cL _)).2.1,by show 1<=(2:Nat)/\(2:Nat)<=6;decide,rfl⟩
  .exact⟨hv.up js.2.1,ut,by show 1<=(1:Nat)/\(1:Nat)<=6;decide,rfl⟩
theorem abX:Lw (io ws s).vars.length (kx ws s).v/\Lw (io ws s).vars.length (kx ws s).ai/\(1<=(kx ws s).op/\(kx ws s).op<=6)/\(kx ws s).ot=0:=by
 unfold kx io;split
 .exact⟨zq0 rfl,zq0 rfl,by decide,rfl⟩
 .split
  .exact⟨wV,zq0 rfl,by show 1<=(5:Nat)/\(5:Nat)<=6;decide,rfl⟩
  .split
   .exact⟨wV.up (QT.trans js).2.1,ut,by show 1<=(3:Nat)/\(3:Nat)<=6;decide,rfl⟩
   .exact YH (wV.up (cL _).2.1)
def ux(L b E:Nat)(M:List Nd):Prop:=∀k nd,M[k]?=some nd->Lw L nd.v/\Lw L nd.ai/\(1<=nd.op/\nd.op<=10)/\(nd.nx<=E/\nd.ot<=E)/\(tE nd=true->b+k<nd.ot)/\(nd.op≠10->nd.nx=b+k+1)/\(nd.op=10->nd.nx≠b+k)
theorem ux.nil(L b E:Nat):ux L b E []:=λk nd h=>by simp at h
theorem ux.up{L L' b E E':Nat}{M:List Nd}(h:ux L b E M)(hL:L<=L')(hE:E<=E'):ux L' b E' M:=λk nd hk=>⟨(h k nd hk).1.up hL,(h k nd hk).2.1.up hL,(h k nd hk).2.2.1,by have:=(h k nd hk).2.2.2.1;omega,(h k nd hk).2.2.2.2⟩
theorem ux.app{L b E:Nat}{M N:List Nd}(h:ux L b E M)(h':ux L (b+M.length) E N):ux L b E (M++N):=by
 intro k nd hk;by_cases hl:k<M.length
 .rw[getElem?_append_left hl]at hk;exact h k nd hk
 .rw[getElem?_append_right (by omega)]at hk;have:=h' _ nd hk;rw[show b+M.length+(k-M.length)=b+k by omega]at this;exact this
theorem ux.one{L b E:Nat}{nd:Nd}(h:Lw L nd.v/\Lw L nd.ai/\(1<=nd.op/\nd.op<=10)/\(nd.nx<=E/\nd.ot<=E)/\(tE nd=true->b<nd.ot)/\(nd.op≠10->nd.nx=b+1)/\(nd.op=10->nd.nx≠b)):ux L b E [nd]:=by
 intro k nd' hk;cases k with
 |zero =>
  have:nd=nd':=by simpa using hk
  subst this;exact h
 |succ k=>simp at hk
def Ex(s t:PS):Prop:=∃M,t.nodes=s.nodes++M/\s.vars.length<=t.vars.length/\s.hid.length<=t.hid.length/\ux t.vars.length s.nodes.length t.nodes.length M
theorem Mo.ex{t:PS}(h:Mo s t):Ex s t:=⟨[],by rw[h.1,append_nil],h.2.1,h.2.2,ux.nil _ _ _⟩
theorem Ex.trans{t u:PS}(h:Ex s t)(h':Ex t u):Ex s u:=by
 obtain⟨M,h1,h2,Id,h3⟩:=h;obtain⟨N,g1,g2,g2',g3⟩:=h';refine⟨M++N,by rw[g1,h1,append_assoc],zq3 h2 g2,zq3 Id g2',(h3.up g2 (by rw[g1,length_append];omega)).app ?_⟩;rw[h1,length_append]at g3;exact g3
theorem abT:Ex s (sW ws s):=by
 have hm:Mo s (aG ws je (io ws s)):=abY.trans (cL _);obtain⟨h1,h2,h3,h4⟩:=@abX ws s;have hv:=(@cL ws (io ws s) je).2.1;have hn:(sW ws s).nodes=s.nodes++[{ kx ws s with nx:=s.nodes.length+1 }]:=by
  show(aG ws je (io ws s)).nodes++[{ kx ws s with nx:=(aG ws je (io ws s)).nodes.length+1 }]=_;rw[hm.1]
 refine⟨[{ kx ws s with nx:=s.nodes.length+1 }],hn,hm.2.1,hm.2.2,?_⟩;rw[hn,length_append];refine ux.one ⟨h1.up hv,h2.up hv,by show 1<=(kx ws s).op/\(kx ws s).op<=10;omega,⟨zq4 _,by show(kx ws s).ot<=_;rw[h4];exact zq5 _⟩,λh=>?_,λ_=>rfl,λh=>?_⟩
 .exfalso;have h':(kx ws s).op=7\/(kx ws s).op=8\/(kx ws s).op=9:=by simpa[tE] using h
  omega
 .exfalso;have h':(kx ws s).op=10:=h;omega
theorem pQ{α:Type}(f:α->α)(t:α)(R:List α):∀(A:List α) {k:Nat},k=A.length->(A++t::R).modify k f=A++f t::R
 |[],k,h=>by subst h;rfl
 |a::A,k,h=>by subst h;simp[modify_succ_cons,pQ f t R A rfl]
theorem sy(A R:List Nd)(t:Nd)(k n:Nat)(h:k=A.length):dW k n (A++t::R)=A++{ t with ot:=n }::R:=pQ _ t R A h
theorem ze(A R:List Nd)(t:Nd)(k n:Nat)(h:k=A.length):gO k n (A++t::R)=A++{ t with nx:=n }::R:=pQ _ t R A h
theorem Q9{blk:PS->PS}(hb:∀t,Ex t (blk t))(k:ByteArray):∃(tn:Nd) (M:List Nd),(blk (gl ws (aG ws k s))).nodes=s.nodes++tn::M/\s.vars.length<=(blk (gl ws (aG ws k s))).vars.length/\s.hid.length<=(blk (gl ws (aG ws k s))).hid.length/\ux (blk (gl ws (aG ws k s))).vars.length (s.nodes.length+1) (s.nodes.length+1+M.length) M/\Lw (blk (gl ws (aG ws k s))).vars.length tn.v/\Lw (blk (gl ws (aG ws k s))).vars.length tn.ai/\(1<=tn.op/\tn.op<=9)/\tn.nx=s.nodes.length+1:=by
 obtain⟨M,h1,h2,Id,h3⟩:=hb (gl ws (aG ws k s));have hm:Mo s (Mj ws (aG ws k s)):=(cL _).trans acd;have ht:(gl ws (aG ws k s)).nodes=s.nodes++[{ BD ws (aG ws gb (aG ws k s)) with nx:=s.nodes.length+1 }]:=by
  show(Mj ws (aG ws k s)).nodes++[{ BD ws (aG ws gb (aG ws k s)) with nx:=(Mj ws (aG ws k s)).nodes.length+1 }]=_;rw[hm.1]
 obtain⟨g1,g2,g3⟩:=@YV ws (aG ws gb (aG ws k s));have hv:(ti ws (aG ws gb (aG ws k s))).vars.length<=(blk (gl ws (aG ws k s))).vars.length:=zq3 (@cL ws (ti ws (aG ws gb (aG ws k s))) iY).2.1 h2;refine⟨{ BD ws (aG ws gb (aG ws k s)) with nx:=s.nodes.length+1 },M,by rw[h1,ht,append_assoc];rfl,zq3 hm.2.1 h2,zq3 hm.2.2 Id,?_,g1.up hv,g2.up hv,g3,rfl⟩;rw[h1,length_append,ht,length_append]at h3;exact h3
theorem Bq{L b m E:Nat}{tn:Nd}(h1:Lw L tn.v)(h2:Lw L tn.ai)(h3:1<=tn.op/\tn.op<=9)(h4:tn.nx=b+1)(h:b<m)(hm:m<=E):ux L b E [{ tn with ot:=m }] :=
 ux.one ⟨h1,h2,by show 1<=tn.op/\tn.op<=10;omega,⟨by show tn.nx<=E;omega,hm⟩,λ_=>h,λ_=>h4,λe=>by have:tn.op=10:=e;omega⟩
theorem Iw{L b m E:Nat}(h:m≠b)(hm:m<=E):ux L b E [{ iI with nx:=m }] :=
 ux.one ⟨zq0 rfl,zq0 rfl,by show 1<=(10:Nat)/\(10:Nat)<=10;decide,⟨hm,zq5 _⟩,λe=>by simp[tE,iI]at e,λe=>absurd rfl e,λ_=>h⟩
theorem YP{blk:PS->PS}(hb:∀t,Ex t (blk t)):Ex s (pE blk ws s):=by
 obtain⟨tn,M,h1,h2,Id,h3,h4,h5,h6,h7⟩:=@Q9 ws s blk hb mu;unfold pE;have hA:cE blk ws s=blk (gl ws (aG ws mu s)):=rfl;rw[<-hA]at h1 h2 Id h3 h4 h5;have hl:(cE blk ws s).nodes.length=s.nodes.length+1+M.length:=by rw[h1];simp;omega
 obtain⟨m,hm⟩:∃m,m=(cE blk ws s).nodes.length:=⟨_,rfl⟩;split
 .obtain⟨N,g1,g2,g2',g3⟩:=hb (lI s.nodes.length (cE blk ws s));have hB:(lI s.nodes.length (cE blk ws s)).nodes=s.nodes++{ tn with ot:=m+1 }::(M++[{ iI with nx:=m+1 }]):=by
   show dW s.nodes.length ((cE blk ws s).nodes++[{ iI with nx:=(cE blk ws s).nodes.length+1 }]).length ((cE blk ws s).nodes++[{ iI with nx:=(cE blk ws s).nodes.length+1 }])=_;rw[length_append,length_singleton,<-hm];rw[show(cE blk ws s).nodes++[{ iI with nx:=m+1 }]=s.nodes++tn::(M++[{ iI with nx:=m+1 }]) by rw[h1];simp];exact sy _ _ _ _ _ rfl
  have hBv:(lI s.nodes.length (cE blk ws s)).vars=(cE blk ws s).vars:=rfl;have hBh:(lI s.nodes.length (cE blk ws s)).hid=(cE blk ws s).hid:=rfl;have WO:(lI s.nodes.length (cE blk ws s)).nodes.length=s.nodes.length+1+M.length+1:=by rw[hB];simp;omega
  rw[hBv]at g2;rw[hBh]at g2';rw[WO]at g3;obtain⟨u,hu⟩:∃u,u=blk (lI s.nodes.length (cE blk ws s)):=⟨_,rfl⟩;rw[<-hu]at g1 g2 g2' g3 ⊢;have hul:u.nodes.length=s.nodes.length+1+M.length+1+N.length:=by rw[g1,length_append,WO]
  have hn:(M6 (cE blk ws s).nodes.length u).nodes=s.nodes++({ tn with ot:=m+1 }::(M++{ iI with nx:=u.nodes.length }::N)):=by
   show gO (cE blk ws s).nodes.length u.nodes.length u.nodes=_;have e:u.nodes=(s.nodes++{ tn with ot:=m+1 }::M)++{ iI with nx:=m+1 }::N:=(by rw[g1,hB];simp);have e2:=ze (s.nodes++{ tn with ot:=m+1 }::M) N { iI with nx:=m+1 } (cE blk ws s).nodes.length u.nodes.length (by rw[hl];simp;omega);rw[<-e]at e2;rw[e2];simp
  have jX:(M6 (cE blk ws s).nodes.length u).nodes.length=u.nodes.length:=by show(gO _ _ _).length=_;exact dg _ _ _
  refine⟨{ tn with ot:=m+1 }::(M++{ iI with nx:=u.nodes.length }::N),hn,zq3 h2 g2,zq3 Id g2',?_⟩;show ux u.vars.length s.nodes.length (M6 (cE blk ws s).nodes.length u).nodes.length ([{ tn with ot:=m+1 }]++(M++([{ iI with nx:=u.nodes.length }]++N)));rw[jX];refine(Bq (h4.up g2) (h5.up g2) h6 h7 (by omega) (by omega)).app ((h3.up g2 (by omega)).app ((Iw ?_ (zq4 _)).app ?_))
  .rw[hul];simp;omega
  .show ux u.vars.length (s.nodes.length+1+M.length+1) u.nodes.length N;exact g3
 .have hn:({ cE blk ws s with nodes:=dW s.nodes.length (cE blk ws s).nodes.length (cE blk ws s).nodes }:PS).nodes=s.nodes++({ tn with ot:=m }::M):=by
   show dW s.nodes.length (cE blk ws s).nodes.length (cE blk ws s).nodes=_;rw[<-hm,h1];exact sy _ _ _ _ _ rfl
  refine⟨{ tn with ot:=m }::M,hn,h2,Id,?_⟩;rw[hn,show(s.nodes++({ tn with ot:=m }::M)).length=s.nodes.length+1+M.length by simp;omega];exact(Bq h4 h5 h6 h7 (by omega) (by omega)).app h3
theorem aa0{blk:PS->PS}(hb:∀t,Ex t (blk t)):Ex s (xE blk ws s):=by
 obtain⟨tn,M,h1,h2,Id,h3,h4,h5,h6,h7⟩:=@Q9 ws s blk hb bY;have hA:ny blk ws s=blk (gl ws (aG ws bY s)):=rfl;rw[<-hA]at h1 h2 Id h3 h4 h5;have hl:(ny blk ws s).nodes.length=s.nodes.length+1+M.length:=by rw[h1];simp;omega
 obtain⟨m,hm⟩:∃m,m=(ny blk ws s).nodes.length:=⟨_,rfl⟩;have hn:(xE blk ws s).nodes=s.nodes++({ tn with ot:=m+1 }::(M++[{ iI with nx:=s.nodes.length }])):=by
  show dW s.nodes.length ((ny blk ws s).nodes++[{ iI with nx:=(ny blk ws s).nodes.length+1 }]).length (gO (ny blk ws s).nodes.length s.nodes.length ((ny blk ws s).nodes++[{ iI with nx:=(ny blk ws s).nodes.length+1 }]))=_;rw[length_append,length_singleton,ze _ _ _ _ _ rfl,<-hm];rw[show(ny blk ws s).nodes++[{ iI with nx:=s.nodes.length }]=s.nodes++tn::(M++[{ iI with nx:=s.nodes.length }]) by rw[h1];simp];exact sy _ _ _ _ _ rfl
 have jX:(xE blk ws s).nodes.length=s.nodes.length+1+M.length+1:=by rw[hn];simp;omega
 refine⟨_,hn,h2,Id,?_⟩;rw[jX];show ux (ny blk ws s).vars.length s.nodes.length _ ([{ tn with ot:=m+1 }]++(M++[{ iI with nx:=s.nodes.length }]));exact(Bq h4 h5 h6 h7 (by omega) (by omega)).app ((h3.up (zq4 _) (by omega)).app (Iw (by simp;omega) (by omega)))
theorem YT{blk:PS->PS}(hb:∀t,Ex t (blk t)):Ex s (kQ blk ws s):=by
 unfold kQ;split
 .exact YP hb
 .split
  .exact aa0 hb
  .exact abT
theorem Nj{c:PS->PS}(hc:∀t,Ex t (c t)):∀(n:Nat) (s:PS),Ex s (ji c ws n s)
 |0,s=>(Mo.refl s).ex
 |n+1,s=>by
  unfold ji;split
  .exact(Mo.refl s).ex
  .exact(hc s).trans (Nj hc n (c s))
theorem M3:∀(f:Nat) (s:PS),Ex s (cJ ws f s)
 |0,s=>(Mo.refl s).ex
 |f+1,s=>((cL _).ex.trans (Nj (λt=>YT (M3 f)) _ _)).trans (cL _).ex
end
def YE(t:PS)(k i:Nat):Prop:=t.failed=true\/(k=0/\i=0)\/(k=1/\i<t.vars.length)\/(k=2/\i<t.hid.length)
structure EB(s t:PS):Prop where
 v:s.vars.length<=t.vars.length
 h:s.hid.length<=t.hid.length
 f:s.failed=true->t.failed=true
theorem EB.trans{s t u:PS}(h:EB s t)(h':EB t u):EB s u:=⟨zq3 h.v h'.v,zq3 h.h h'.h,λe=>h'.f (h.f e)⟩
theorem YE.up{s t:PS}{k i:Nat}(h:YE s k i)(hg:EB s t):YE t k i:=by
 have h1:=hg.v;have h2:=hg.h;rcases h with h|h|h|h
 .exact zq0 (hg.f h)
 .exact zq1 (zq0 h)
 .exact zq1 (zq1 (zq0 (by omega)))
 .exact zq1 (zq1 (zq1 (by omega)))
section
variable {ws:List ByteArray} {s:PS}
theorem XQ:EB s (fA ws s):=⟨sD.2.1,sD.2.2,sn.bad s⟩
theorem WH{k:ByteArray}(hk:k.toList≠[]):EB s (aG ws k s):=⟨(cL k).2.1,(cL k).2.2,(cZ hk).bad s⟩
theorem Bc:Mo s (eY ws s):=by
 unfold eY;split
 .exact gx
 .split
  .exact gx
  .exact cL _
theorem abM:EB s (eY ws s):=⟨Bc.2.1,Bc.2.2,AS.bad s⟩
theorem VO:YE (fA ws s) (tK ws s) (tJ ws s):=by
 unfold fA tK tJ;split
 .exact zq1 (zq1 (zq1 ⟨rfl,(q8 _ _).2⟩))
 .unfold ce dI eM;split
  .exact zq1 (zq0 ⟨rfl,rfl⟩)
  .unfold bK mI;split
   .exact zq1 (zq1 (zq0 ⟨rfl,(q8 _ _).2⟩))
   .exact zq0 rfl
def XV(t:PS)(a:cn):Prop:=YE t a.lk a.li/\YE t a.rk a.ri/\a.k<=4
theorem XV.up{t u:PS}{a:cn}(h:XV t a)(hg:EB t u):XV u a:=⟨h.1.up hg,h.2.1.up hg,h.2.2⟩
theorem aaY:Mo s (AA ws s):=by
 have h1:Mo s (qP ws s):=cL _;have h2:Mo (qP ws s) (pO ws s):=sD.trans (cL _);have h3:Mo (pO ws s) (AA ws s):=sD.trans (cL _);exact(h1.trans h2).trans h3
theorem MW:Mo s (ep ws s):=by
 unfold ep;split
 .exact gx
 .split
  .exact gx.trans aaY
  .exact(sD.trans Bc).trans sD
theorem aex:EB s (ep ws s):=⟨MW.2.1,MW.2.2,nC.bad s⟩
theorem XF:EB (fA ws (pO ws s)) (AA ws s):=by unfold AA;exact WH qH
theorem ag8:EB (fA ws (qP ws s)) (AA ws s):=by
 have h:EB (fA ws (qP ws s)) (pO ws s):=by unfold pO;exact WH vH
 exact(h.trans XQ).trans XF
theorem amB:XV (AA ws s) (XE ws s):=⟨VO.up ag8,VO.up XF,zq4 4⟩
theorem aey:XV (ep ws s) (qm ws s):=by
 unfold ep qm;split
 .exact⟨zq1 (zq0 ⟨rfl,rfl⟩),zq1 (zq0 ⟨rfl,rfl⟩),by decide⟩
 .split
  .exact amB
  .refine⟨(VO (ws:=ws) (s:=s)).up (abM.trans XQ),VO,?_⟩;show jS ws (fA ws s)<=4;unfold jS;split
   .decide
   .split <;> decide
theorem WL:∀(n:Nat) (s:PS),EB s (jm ws n s).2/\∀a∈(jm ws n s).1,XV (jm ws n s).2 a
 |0,s=>⟨⟨zq4 _,zq4 _,id⟩,λa ha=>by simp[jm]at ha⟩
 |n+1,s=>by
  unfold jm;split
  .obtain⟨h1,h2⟩:=WL n (ep ws s.adv);have h3:EB s.adv (ep ws s.adv):=aex;refine⟨⟨zq3 h3.v h1.v,zq3 h3.h h1.h,λe=>h1.f (h3.f e)⟩,λa ha=>?_⟩;rcases mem_cons.1 ha with rfl|ha
   .exact aey.up h1
   .exact h2 a ha
  .exact⟨⟨zq4 _,zq4 _,id⟩,λa ha=>by simp at ha⟩
theorem akb:∀a∈foA ws s,XV (pF ws s) a:=by
 obtain⟨h1,h2⟩:=WL (ws:=ws) (ws.length+1) (ep ws s);intro a ha;rcases mem_cons.1 ha with rfl|ha
 .exact aey.up h1
 .exact h2 a ha
end
section
variable {w W:World} {S:Nat} {c:Cd} {c0 hv kv wv:Value} {KV WV:List Value} {K:List (List En)} {s:Sr} {x:FE}
theorem Sh.wcs{wB wC gA cA m n:Nat}(h:Sh w S c c0 hv kv (.slice (some ⟨wB,0,none⟩) m wC) KV WV K s)(hn:n<K.length)(hW:WV.getD n aJ=.slice (some ⟨gA,0,none⟩) 5 cA):w.cell? ⟨S,4,none⟩=some (.slice (some ⟨wB,0,none⟩) m wC)/\w.cell? ⟨wB,n,none⟩=some (.slice (some ⟨gA,0,none⟩) 5 cA)/\(∀t,t<5->w.cell? ⟨gA,t,none⟩=some (.bool ((s.wr.getD n []).getD t false)))/\∀t,w.frozen? ⟨gA,t,none⟩=false:=by
 obtain⟨g,cap,g2,cap2,h1,h2,h3,h4,h5⟩:=h.wc hn;rw[hW]at h2;simp only[Value.slice.injEq,Option.some.injEq,Addr.mk.injEq,and_true,true_and]at h1 h2;obtain⟨rfl,-,-⟩:=h1;obtain⟨rfl,rfl⟩:=h2;exact⟨h.bs.cell 4 rfl,h3,h4,h5⟩
theorem Lp.turn{w W:World}{SD:List Value}{K0:List (List En)}{v tv:Value}{L Lt:List FE}{j Y O:Nat}(h:Lp w W S c c0 hv kv wv SD WV K0 [] KV K s v L j (Y::O::bn tv Lt))(ht:Fl W 0 tv Lt)(hT:∀y∈Lt,Td y.f)(hn:∀k∈bn tv Lt,w.heap.size<=k)(hY:Y ∉ bn tv Lt):Lp w W S c c0 hv kv wv SD WV K0 [] KV K s tv Lt 0 [Y]:=by
 have e:mU tv Lt 0=bn tv Lt:=by simp[mU,bn]
 refine⟨h.sh,h.kl,h.go,⟨ht.pend,hT,λk hk=>?_⟩,λk hk=>?_,λk hk=>zq1 ?_⟩
 .rw[e]at hk;exact(h.ap k (mem_cons_of_mem _ (mem_cons_of_mem _ hk))).1
 .rw[mem_singleton]at hk;subst hk;obtain⟨a1,-,a3⟩:=h.ap k (by simp);exact⟨a1,by rw[e];exact hY,a3⟩
 .rw[e]at hk;exact hn k hk
theorem VL{Q:Nat}{ws:List ByteArray}{ps:PS}{al:List cn}{vv pv nvv:Value}(h:Sh w S c (.pointer (some ⟨Q,0,none⟩)) hv kv wv KV WV K s)(hC:Cp w Q ws ps al vv pv nvv)(fZ:c.nds=ps.nodes)(hN:uG c.nds)(hF:ew w x.A x.f x.av x.ov)(hT:Td x.f)(hd:∀k∈x.bs,k ∉ cW S hv kv wv KV WV){n:Nat}(hn:n<K.length)(xS:K.length<=100000){fuel:Nat}(bD:(oE c fuel n x.f s).ok=true):
  Calls prog 173 #[.pointer (some ⟨S,0,none⟩),.int .i64 n,.pointer (some ⟨x.A,0,none⟩)] w λe w'=>e=.returned (.tuple #[])/\ij w S c (.pointer (some ⟨Q,0,none⟩)) hv kv wv KV WV K [] (oE c fuel n x.f s) w':=by
 have jX:=h.nl;obtain⟨nd,c9⟩:∃nd,nd=c.nds.getD n aI:=⟨_,rfl⟩;have Ip:=hN.v n;have nU:=hN.op n;have vA:=hN.nx n (by omega);have Me:=hN.ot n (by omega);rw[<-c9]at Ip nU vA Me;have hndA:ndA ps.nodes n=nd:=by rw[c9,fZ];rfl
 have HAT:Hid (Calls prog 103 #[.pointer (some ⟨Q,0,none⟩),.int .i64 n] w λe w'=>e=.returned (.agg #[.int .i64 (nd.op:Int),.int .i64 (nd.v:Int),.int .i64 (nd.ak:Int),.int .i64 (nd.ai:Int),.int .i64 (nd.nx:Int),.int .i64 (nd.ot:Int)])/\Below w.heap.size w w'):=ab (by
  have h1:=YK n hC (by rw[<-fZ];omega);rw[hndA]at h1;exact h1)
 obtain⟨⟨onx,oot,nu,da,fu⟩,ho⟩:∃o,o=bL nd x.f:=⟨_,rfl⟩;have BW:(∀x∈onx,Td x)/\∀x∈oot,Td x:=by
  have h1:=lY Ip.1 Ip.2 hT;rw[<-ho]at h1;exact h1
 obtain⟨b1,bH⟩:∃b1,b1=(decide (nd.op=0)&&!decide (fj x.f=[])):=⟨_,rfl⟩;have aV:oE c fuel n x.f s=oot.foldl (λs g=>dJ c fuel n nd.ot g s) (onx.foldl (λs g=>dJ c fuel n nd.nx g s) (fuS fu (wrI da n 4 (wrI nu n 3 (wrI b1 n 2 s))))):=by
  unfold oE;simp only;rw[<-c9,<-ho,<-bH]
 rw[aV]at bD ⊢;have agn:onx≠[]->nd.nx<K.length:=λe=>by rw[<-jX];exact vA (rM (by rw[<-ho];exact e))
 have agB:oot≠[]->nd.ot<K.length:=λe=>by rw[<-jX];exact Me (mQ (by rw[<-ho];exact e))
 obtain⟨wB,wC,gA,cA,RU,TX,-,-,-⟩:=h.wc hn;subst RU;have c0':=h.bs.cell 0 rfl;have H:=ab h;have HF:=ab hF;have HT:=ab hT;have HD:=ab hd;have HO:=ab ho;have fU:=ab bH;have GR:=ab BW;have pX:=ab (zq2 agn agB);have kO:=ab bD;have SC:=ab TX;have HV4:=ab (zq2 Ip nU);obtain⟨eo,dD⟩:∃eo:World->Prop,eo=λw'=>ij w S c (.pointer (some ⟨Q,0,none⟩)) hv kv (.slice (some ⟨wB,0,none⟩) K.length wC) KV WV K [] (oot.foldl (λs g=>dJ c fuel n nd.ot g s) (onx.foldl (λs g=>dJ c fuel n nd.nx g s) (fuS fu (wrI da n 4 (wrI nu n 3 (wrI b1 n 2 s)))))) w':=⟨_,rfl⟩;have gq:=ab dD;rw[show(fun(e:Ending) (w':World)=>e=.returned (.tuple #[])/\ij w S c (.pointer (some ⟨Q,0,none⟩)) hv kv (.slice (some ⟨wB,0,none⟩) K.length wC) KV WV K [] (oot.foldl (λs g=>dJ c fuel n nd.ot g s) (onx.foldl (λs g=>dJ c fuel n nd.nx g s) (fuS fu (wrI da n 4 (wrI nu n 3 (wrI b1 n 2 s)))))) w')=(λe w'=>e=.returned (.tuple #[])/\eo w') by rw[dD]];have i1:(0:Int)<=(n:Int):=by omega
 have i2:(n:Int)<(K.length:Int):=by omega
 clear h hC fZ hN hF hT hd c9 Ip nU vA Me hndA BW aV agn agB bD TX ho bH dD jX;go_enter func173,ntmps173;go_wp2_with fail
 refine(uh HAT).mono ?_;rintro e w1 ⟨rfl,T1⟩;obtain⟨W2,jt⟩:∃W2,W2=w1.alloc (.cells #[Value.int .i64 (nd.op:Int),.int .i64 (nd.v:Int),.int .i64 (nd.ak:Int),.int .i64 (nd.ai:Int),.int .i64 (nd.nx:Int),.int .i64 (nd.ot:Int)] 186):=⟨_,rfl⟩;have cf:Below w1.heap.size w1 W2:=by rw[jt];exact ah w1 _
 have mX:Bk W2 w1.heap.size 186 nd.cells:=by rw[jt];exact Bk.new w1 _ _
 have aU:=T1.trans (cf.mono T1.size);obtain⟨Y,xo⟩:∃Y,Y=w1.heap.size:=⟨_,rfl⟩;rw[<-xo]at mX;have hYw:w.heap.size<=Y:=by rw[xo];exact T1.size
 have y0:=mX.cell 0 rfl;have H2:=ab (zq2 aU (zq2 mX hYw));have Bv:=ab (vK ((uh HF).below aU) (uh HT).ok);clear cf mX aU T1 hYw HAT c0';go_upto_region 1 with fail;rw[<-jt,<-xo];clear jt xo;go_cut [26] (λbv wx=>bv=.bool b1/\Hid (Below W2.heap.size W2 wx))
 case first =>
  by_cases KO:nd.op=0
  .have d0:((nd.op:Int)==(0:Int))=true:=(by simp[KO]);by_cases vx:fj x.f=[]
   .have d1:decide (0<(fj x.f).length)=false:=(by rw[vx];rfl);have Mn:Hid (b1=false):=ab (by rw[uh fU];simp[vx]);clear KO vx;go_wp2_with fail
    refine(uh Bv).mono ?_;rintro e w3 ⟨lv,rfl,tu,du⟩;obtain⟨la,lc,ic,-,-⟩:=aj tu;subst ic;have s8:=ab du;clear tu du;go_wp2_with fail
    go_meet
    exact⟨by rw[uh Mn],s8⟩
   .have d1:decide (0<(fj x.f).length)=true:=by
     have:(fj x.f).length≠0:=λe=>vx (length_eq_zero_iff.1 e);rw[decide_eq_true_eq];omega
    have Mn:Hid (b1=true):=ab (by rw[uh fU];simp[KO,vx]);clear KO vx;go_wp2_with fail
    refine(uh Bv).mono ?_;rintro e w3 ⟨lv,rfl,tu,du⟩;obtain⟨la,lc,ic,-,-⟩:=aj tu;subst ic;have s8:=ab du;clear tu du;go_wp2_with fail
    go_meet
    exact⟨by rw[uh Mn],s8⟩
  .have d0:((nd.op:Int)==(0:Int))=false:=(by simp;omega);have Mn:Hid (b1=false):=ab (by rw[uh fU];simp[KO]);clear KO;go_wp2_with fail
   go_meet
   exact⟨by rw[uh Mn],ab (Below.refl _ _)⟩
 case rest =>
  obtain⟨rfl,TG⟩:=hcut;have h3:=((uh H).below (uh H2).1).below (uh TG);have du:=(uh H2).1.trans ((uh TG).mono (uh H2).1.size);have hY3:=(uh H2).2.1.below (uh TG);have Ed:=(uh HF).below du;have H3:=ab (zq2 h3 (zq2 (ii.below (F:=(cW S hv kv (.slice (some ⟨wB,0,none⟩) K.length wC) KV WV)) (D:=ee K) (X:=[]) du) (zq2 hY3 Ed)));clear h3 du hY3 Ed Bv y0;go_upto_if 26 with fail
  go_cut [] (λwx=>Hid (Sh wx S c (.pointer (some ⟨Q,0,none⟩)) hv kv (.slice (some ⟨wB,0,none⟩) K.length wC) KV WV K (wrI b1 n 2 s)/\ii w wx (cW S hv kv (.slice (some ⟨wB,0,none⟩) K.length wC) KV WV) (cW S hv kv (.slice (some ⟨wB,0,none⟩) K.length wC) KV WV) (ee K) (ee K) []/\Bk wx Y 186 nd.cells/\ew wx x.A x.f x.av x.ov))
  case first =>
   cases b1
   rotate_left
   .obtain⟨h3,hg3,hY3,Ed⟩:=uh H3;obtain⟨d4,dw,dt,dz⟩:=h3.wcs hn (uh SC);have dt':=dt 2 (by omega);have dz':=dz 2;obtain⟨hb,xu⟩:=h3.bad hn (t:=2) (by omega) (uh SC);have hYg:Y≠gA:=λe=>by
     have h1:=(uh H).lt gA xu;have h2:=(uh H2).2.2;omega
    have HN:Hid (Sh (wc.setCell ⟨gA,2,none⟩ (.bool true)) S c (.pointer (some ⟨Q,0,none⟩)) hv kv (.slice (some ⟨wB,0,none⟩) K.length wC) KV WV K (wrI true n 2 s)/\ii w (wc.setCell ⟨gA,2,none⟩ (.bool true)) (cW S hv kv (.slice (some ⟨wB,0,none⟩) K.length wC) KV WV) (cW S hv kv (.slice (some ⟨wB,0,none⟩) K.length wC) KV WV) (ee K) (ee K) []/\Bk (wc.setCell ⟨gA,2,none⟩ (.bool true)) Y 186 nd.cells/\ew (wc.setCell ⟨gA,2,none⟩ (.bool true)) x.A x.f x.av x.ov):=ab (by
     rw[show(wrI true n 2 s)=mm n 2 s from rfl];exact⟨hb,hg3.trans (ii.stp (X:=[]) ((au.refl [gA] wc).setCell (p:=⟨gA,2,none⟩) (zq0 (by simp)) (.bool true)) (λk hk=>zq0 (by rw[mem_singleton]at hk;rw[hk];exact xu))) (λk hk=>by simp at hk),hY3.setO (p:=⟨gA,2,none⟩) (λe=>hYg e.symm) _,Ed.of_eq (λk hk=>heap_setCell _ _ _ _ (λe=>uh HD k hk (by rw[show k=gA from e];exact xu)))⟩)
    clear h3 hg3 hY3 Ed dt dz hb xu hYg H3;go_wp2_with fail
    go_meet
    exact HN
   .have HN:Hid (Sh wc S c (.pointer (some ⟨Q,0,none⟩)) hv kv (.slice (some ⟨wB,0,none⟩) K.length wC) KV WV K (wrI false n 2 s)/\ii w wc (cW S hv kv (.slice (some ⟨wB,0,none⟩) K.length wC) KV WV) (cW S hv kv (.slice (some ⟨wB,0,none⟩) K.length wC) KV WV) (ee K) (ee K) []/\Bk wc Y 186 nd.cells/\ew wc x.A x.f x.av x.ov):=ab (by
     rw[show(wrI false n 2 s)=s from rfl];exact uh H3)
    clear H3;go_wp2_with fail
    go_meet
    exact HN
  case rest =>
   obtain⟨h4,Mb,WX,rU⟩:=uh hcut;have y0:=WX.cell 0 rfl;have y1:=WX.cell 1 rfl;have y2:=WX.cell 2 rfl;have y3:=WX.cell 3 rfl;have y4:=WX.cell 4 rfl;have y5:=WX.cell 5 rfl;have GK:=ab (NB (n:=nd) rU (uh HT) (uh HV4).1.1 (uh HV4).1.2 (uh HV4).2);unfold RX at GK;have H4:=ab (zq2 h4 (zq2 Mb WX));clear h4 Mb WX rU hcut H3;go_wp2_with fail
   refine(uh GK).mono ?_;rintro e w5 ⟨O,rfl,nv,tv,Ln,Lt,tB,j7,x9,cN,dT⟩;rw[<-uh HO]at tB j7 x9;simp only at tB j7 x9;have TZ:=(uh H4).2.2.lt;have vn:∀k,w.heap.size<=k->(k ∉ (cW S hv kv (.slice (some ⟨wB,0,none⟩) K.length wC) KV WV)/\k ∉ ee K)/\w.heap.size<=k:=λk hk=>⟨⟨λe=>by have:=(uh H).lt k e;omega,λe=>by have:=(uh H).drlt k e;omega⟩,hk⟩;have HX:Hid (Sx w w5 S c (.pointer (some ⟨Q,0,none⟩)) hv kv (.slice (some ⟨wB,0,none⟩) K.length wC) KV WV K (wrI b1 n 2 s) O nu da fu nv tv Ln Lt Y nd):=ab ⟨(uh H4).1.below dT,(uh H4).2.1.trans (ii.below (X:=[]) dT) (λk hk=>by simp at hk),tB,(uh H4).2.2.below dT,λk hk=>by
    rcases mem_cons.1 hk with p|p
    .rw[p];exact vn Y (uh H2).2.2
    .exact vn k (zq3 (uh H4).2.1.st.size (cN k p)),λe=>by have:=cN Y e;omega⟩
   have HM:=ab (zq2 j7 x9);clear tB j7 x9 cN dT TZ vn H4 GK y0 y1 y2 y3 y4 y5;have o2:=(uh HX).oo.bk.cell 2 rfl;go_upto_if 41 with fail
   go_cut [] (λwx=>Hid (Sx w wx S c (.pointer (some ⟨Q,0,none⟩)) hv kv (.slice (some ⟨wB,0,none⟩) K.length wC) KV WV K (wrI nu n 3 (wrI b1 n 2 s)) O nu da fu nv tv Ln Lt Y nd))
   case first =>
    cases nu
    .go_wp2_with fail
     go_meet
     exact HX
    .obtain⟨d4,dw,dt,dz⟩:=(uh HX).sh.wcs hn (uh SC);have dt':=dt 3 (by omega);have dz':=dz 3;have HN:=ab ((uh HX).bad hn (t:=3) (by omega) (uh SC));clear dt dz;go_wp2_with fail
     go_meet
     exact HN
   case rest =>
   clear o2 HX;have HX:=ab (uh hcut);clear hcut;have o3:=(uh HX).oo.bk.cell 3 rfl;go_upto_if 53 with fail
   go_cut [] (λwx=>Hid (Sx w wx S c (.pointer (some ⟨Q,0,none⟩)) hv kv (.slice (some ⟨wB,0,none⟩) K.length wC) KV WV K (wrI da n 4 (wrI nu n 3 (wrI b1 n 2 s))) O nu da fu nv tv Ln Lt Y nd))
   case first =>
    cases da
    .go_wp2_with fail
     go_meet
     exact HX
    .obtain⟨d4,dw,dt,dz⟩:=(uh HX).sh.wcs hn (uh SC);have dt':=dt 4 (by omega);have dz':=dz 4;have HN:=ab ((uh HX).bad hn (t:=4) (by omega) (uh SC));clear dt dz;go_wp2_with fail
     go_meet
     exact HN
   case rest =>
   clear o3 HX;have HX:=ab (uh hcut);clear hcut;have o4:=(uh HX).oo.bk.cell 4 rfl;go_upto_if 65 with fail
   go_cut [] (λwx=>Hid (Sx w wx S c (.pointer (some ⟨Q,0,none⟩)) hv kv (.slice (some ⟨wB,0,none⟩) K.length wC) KV WV K (fuS fu (wrI da n 4 (wrI nu n 3 (wrI b1 n 2 s)))) O nu da fu nv tv Ln Lt Y nd))
   case first =>
    cases fu
    .go_wp2_with fail
     go_meet
     exact ab (by rw[show fuS false (wrI da n 4 (wrI nu n 3 (wrI b1 n 2 s)))=(wrI da n 4 (wrI nu n 3 (wrI b1 n 2 s))) by unfold fuS;rw[Bool.or_false]];exact uh HX)
    .have e8:=(uh HX).sh.bs.cell 8 rfl;have z8:=(uh HX).sh.bs.frz 8;have HN:=ab (uh HX).full;go_wp2_with fail
     go_meet
     exact ab (by rw[show fuS true (wrI da n 4 (wrI nu n 3 (wrI b1 n 2 s)))={ (wrI da n 4 (wrI nu n 3 (wrI b1 n 2 s))) with fu:=true } by unfold fuS;rw[Bool.or_true]];exact uh HN)
   case rest =>
   clear o4 HX;obtain⟨s2,gQ⟩:∃s2,s2=(fuS fu (wrI da n 4 (wrI nu n 3 (wrI b1 n 2 s)))):=⟨_,rfl⟩;rw[<-gQ]at hcut gq kO;obtain⟨s3,f8⟩:∃s3,s3=onx.foldl (λs g=>dJ c fuel n nd.nx g s) s2:=⟨_,rfl⟩;rw[<-f8]at gq kO;have hX:=uh hcut;have htLn:∀y∈Ln,Td y.f:=λy hy=>(uh GR).1 _ (by rw[<-(uh HM).1];exact mem_map_of_mem hy);have htLt:∀y∈Lt,Td y.f:=λy hy=>(uh GR).2 _ (by rw[<-(uh HM).2];exact mem_map_of_mem hy);have yN:=hX.lp htLn;have db:Hid ((∀k∈bn tv Lt,w.heap.size<=k)/\Y ∉ bn tv Lt/\∀y∈Lt,Td y.f):=ab ⟨λk hk=>(hX.on k (by simp only[ez,mem_cons,mem_append];exact zq1 (zq1 (zq1 hk)))).2,λe=>hX.yn (by simp only[ez,mem_cons,mem_append];exact zq1 (zq1 e)),htLt⟩;obtain⟨na,nc,BT,alJ,alM⟩:=aj hX.oo.nx.row;obtain⟨ta,tc,htv,amc,amd⟩:=aj hX.oo.ot.row;have oc:=hX.oo.bk.cell 0 rfl;have cG:Hid (Lp w wc S c (.pointer (some ⟨Q,0,none⟩)) hv kv (.slice (some ⟨wB,0,none⟩) K.length wC) KV WV K [] KV K s2 nv Ln 0 (Y::O::bn tv Lt)/\((Ln.drop 0).map (·.f)).foldl (λs g=>dJ c fuel n nd.nx g s) s2=s3/\Bk wc Y 186 nd.cells/\Bk wc O 280 [nv,tv,.bool nu,.bool da,.bool fu]/\Fl wc 0 tv Lt):=ab ⟨yN,by rw[drop_zero,(uh HM).1,f8],hX.bx,hX.oo.bk,hX.oo.ot⟩;subst BT;subst htv;have aq4:Ln.length<=9223372036854775807:=(by omega);have aq5:Lt.length<=9223372036854775807:=(by omega);clear hX yN htLn htLt gQ f8 hcut alJ alM amc amd;go_wp2_with fail
   go_loopg [74] Ln.length (λgn iv wx=>∃(j:Nat) (KV':List Value) (K':List (List En)) (s':Sr),j+gn=Ln.length/\iv=.int .i64 j/\Hid (Lp w wx S c (.pointer (some ⟨Q,0,none⟩)) hv kv (.slice (some ⟨wB,0,none⟩) K.length wC) KV WV K [] KV' K' s' (.slice na Ln.length nc) Ln j (Y::O::bn (.slice ta Lt.length tc) Lt)/\((Ln.drop j).map (·.f)).foldl (λs g=>dJ c fuel n nd.nx g s) s'=s3/\Bk wx Y 186 nd.cells/\Bk wx O 280 [.slice na Ln.length nc,.slice ta Lt.length tc,.bool nu,.bool da,.bool fu]/\Fl wx 0 (.slice ta Lt.length tc) Lt))
   case atStart=>exact⟨0,KV,K,s2,by omega,rfl,cG⟩
   case round =>
    clear cG oc;obtain⟨j,KV',K',s',BO,rfl,hI⟩:=hrel;obtain⟨G1,zW⟩:∃G1,G1=gk:=⟨_,rfl⟩;by_cases ar:j<Ln.length
    .have kj:decide ((j:Int)<(Ln.length:Int))=true:=(by simp;omega);obtain⟨h1,h2,h3,h4,h5⟩:=uh hI;obtain⟨g2,cap2,dx,ay⟩:=h1.pn.pe.cell ar;simp only[Value.slice.injEq,true_and]at dx;obtain⟨rfl,rfl⟩:=dx;obtain⟨n1,-,-,-,n5⟩:=h1.pn.pe.next ar;have Po:=h1.pn.td _ (getElem_mem ar);have OL:∀k∈Ln[j].bs,k ∉ cW S hv kv (.slice (some ⟨wB,0,none⟩) K.length wC) KV' WV/\k ∉ ee K':=λk hk=>h1.pn.fd k (n5 k hk);have kS:Ln.drop j=Ln[j]::Ln.drop (j+1):=drop_eq_getElem_cons ar;rw[kS,map_cons,foldl_cons]at h2;have qB:(dJ c fuel n nd.nx Ln[j].f s').ok=true:=iz _ (by rw[h2];exact iz _ (uh kO));have aL:onx≠[]:=λe=>by
      have h9:=congrArg List.length (uh HM).1;rw[e,length_map,length_nil]at h9;omega
     have hnn:=(uh pX).1 aL;have j5:=h1.kl;have y4:=h3.cell 4 rfl;have ZD:∀w' ,ij wr S c (.pointer (some ⟨Q,0,none⟩)) hv kv (.slice (some ⟨wB,0,none⟩) K.length wC) KV' WV K' Ln[j].bs (dJ c fuel n nd.nx Ln[j].f s') w'->∃tb K2,Lp w w' S c (.pointer (some ⟨Q,0,none⟩)) hv kv (.slice (some ⟨wB,0,none⟩) K.length wC) KV WV K [] tb K2 (dJ c fuel n nd.nx Ln[j].f s') (.slice (some ⟨g2,0,none⟩) Ln.length nc) Ln (j+1) (Y::O::bn (.slice ta Lt.length tc) Lt)/\Bk w' Y 186 nd.cells/\Bk w' O 280 [.slice (some ⟨g2,0,none⟩) Ln.length nc,.slice ta Lt.length tc,.bool nu,.bool da,.bool fu]/\Fl w' 0 (.slice ta Lt.length tc) Lt:=λw' hP=>by
      obtain⟨tb,K2,q1,q2⟩:=h1.next ar hP;exact⟨tb,K2,q1,h3.of_eq (q2 Y (by simp)),h4.of_eq (q2 O (by simp)),h5.of_eq (λk hk=>q2 k (mem_cons_of_mem _ (mem_cons_of_mem _ hk)))⟩
     obtain⟨y,hy⟩:∃y,y=Ln[j]:=⟨_,rfl⟩;rw[<-hy]at ay n1 Po OL h2 qB ZD;have It:y.p=.pointer (some ⟨y.A,0,none⟩):=rfl;rw[It]at ay;have R7:=ab (rH h1.sh n1 Po OL (a:=n) (n:=nd.nx) (by omega) (by omega) (by omega) qB);have yj:=ab (zq2 ZD h2);have k1:(0:Int)<=(j:Int):=(by omega);have k2:(j:Int)<(Ln.length:Int):=(by omega);clear h1 h2 h3 h4 h5 n1 n5 Po OL kS qB aL hnn j5 ZD hy It hI;go_wp2_with fail
     refine(uh R7).mono ?_;rintro e w6 ⟨rfl,hP⟩;obtain⟨tb,K2,q1,q2,q3,q4⟩:=(uh yj).1 w6 hP;have HN:=ab (zq2 q1 (zq2 (uh yj).2 (zq2 q2 (zq2 q3 q4))));clear hP q1 q2 q3 q4 R7 yj y4 ay;go_wp2_with fail
     go_roundg (G1-1)
     case rel=>exact⟨j+1,tb,K2,_,by omega,by go_num,HN⟩
     case measure=>omega
    .have kj:decide ((j:Int)<(Ln.length:Int))=false:=(by simp;omega);obtain⟨h1,h2,h3,h4,h5⟩:=uh hI;rw[drop_eq_nil_of_le (by omega)]at h2;have f8:s'=s3:=h2;subst f8;have o1:=h4.cell 1 rfl;have oK:Hid (Lp w wr S c (.pointer (some ⟨Q,0,none⟩)) hv kv (.slice (some ⟨wB,0,none⟩) K.length wC) KV WV K [] KV' K' s' (.slice ta Lt.length tc) Lt 0 [Y]/\((Lt.drop 0).map (·.f)).foldl (λs g=>dJ c fuel n nd.ot g s) s'=oot.foldl (λs g=>dJ c fuel n nd.ot g s) s'/\Bk wr Y 186 nd.cells):=ab ⟨h1.turn h5 (uh db).2.2 (uh db).1 (uh db).2.1,by rw[drop_zero,(uh HM).2],h3⟩;clear h1 h2 h3 h4 h5 hI;go_wp2_with fail
     go_loopg [90] Lt.length (λgn iv wx=>∃(j:Nat) (tb:List Value) (K2:List (List En)) (s2:Sr),j+gn=Lt.length/\iv=.int .i64 j/\Hid (Lp w wx S c (.pointer (some ⟨Q,0,none⟩)) hv kv (.slice (some ⟨wB,0,none⟩) K.length wC) KV WV K [] tb K2 s2 (.slice ta Lt.length tc) Lt j [Y]/\((Lt.drop j).map (·.f)).foldl (λs g=>dJ c fuel n nd.ot g s) s2=oot.foldl (λs g=>dJ c fuel n nd.ot g s) s'/\Bk wx Y 186 nd.cells))
     case atStart=>exact⟨0,KV',K',s',by omega,rfl,oK⟩
     case round =>
      clear oK o1;obtain⟨i,tb,K2,sb,arE,rfl,hI⟩:=hrel;obtain⟨G2,Fi⟩:∃G2,G2=gk:=⟨_,rfl⟩;by_cases cd:i<Lt.length
      .have hd3:decide ((i:Int)<(Lt.length:Int))=true:=(by simp;omega);obtain⟨h1,h2,h3⟩:=uh hI;obtain⟨g2,cap2,dx,ay⟩:=h1.pn.pe.cell cd;simp only[Value.slice.injEq,true_and]at dx;obtain⟨rfl,rfl⟩:=dx;obtain⟨n1,-,-,-,n5⟩:=h1.pn.pe.next cd;have Po:=h1.pn.td _ (getElem_mem cd);have OL:∀k∈Lt[i].bs,k ∉ cW S hv kv (.slice (some ⟨wB,0,none⟩) K.length wC) tb WV/\k ∉ ee K2:=λk hk=>h1.pn.fd k (n5 k hk);have kS:Lt.drop i=Lt[i]::Lt.drop (i+1):=drop_eq_getElem_cons cd;rw[kS,map_cons,foldl_cons]at h2;have qB:(dJ c fuel n nd.ot Lt[i].f sb).ok=true:=iz _ (by rw[h2];exact uh kO);have aL:oot≠[]:=λe=>by
        have h9:=congrArg List.length (uh HM).2;rw[e,length_map,length_nil]at h9;omega
       have hnn:=(uh pX).2 aL;have j5:=h1.kl;have y5:=h3.cell 5 rfl;have ZD:∀w' ,ij wr S c (.pointer (some ⟨Q,0,none⟩)) hv kv (.slice (some ⟨wB,0,none⟩) K.length wC) tb WV K2 Lt[i].bs (dJ c fuel n nd.ot Lt[i].f sb) w'->∃Yv K3,Lp w w' S c (.pointer (some ⟨Q,0,none⟩)) hv kv (.slice (some ⟨wB,0,none⟩) K.length wC) KV WV K [] Yv K3 (dJ c fuel n nd.ot Lt[i].f sb) (.slice (some ⟨g2,0,none⟩) Lt.length tc) Lt (i+1) [Y]/\Bk w' Y 186 nd.cells:=λw' hP=>by
        obtain⟨Yv,K3,q1,q2⟩:=h1.next cd hP;exact⟨Yv,K3,q1,h3.of_eq (q2 Y (by simp))⟩
       obtain⟨y,hy⟩:∃y,y=Lt[i]:=⟨_,rfl⟩;rw[<-hy]at ay n1 Po OL h2 qB ZD;have It:y.p=.pointer (some ⟨y.A,0,none⟩):=rfl;rw[It]at ay;have R7:=ab (rH h1.sh n1 Po OL (a:=n) (n:=nd.ot) (by omega) (by omega) (by omega) qB);have yj:=ab (zq2 ZD h2);have k1:(0:Int)<=(i:Int):=(by omega);have k2:(i:Int)<(Lt.length:Int):=(by omega);clear h1 h2 h3 n1 n5 Po OL kS qB aL hnn j5 ZD hy It hI;go_wp2_with fail
       refine(uh R7).mono ?_;rintro e w6 ⟨rfl,hP⟩;obtain⟨Yv,K3,q1,q2⟩:=(uh yj).1 w6 hP;have HN:=ab (zq2 q1 (zq2 (uh yj).2 q2));clear hP q1 q2 R7 yj y5 ay;go_wp2_with fail
       go_roundg (G2-1)
       case rel=>exact⟨i+1,Yv,K3,_,by omega,by go_num,HN⟩
       case measure=>omega
      .have hd3:decide ((i:Int)<(Lt.length:Int))=false:=(by simp;omega);have hP:eo wr:=by
        obtain⟨h1,h2,h3⟩:=uh hI;rw[drop_eq_nil_of_le (by omega)]at h2;rw[uh gq,<-h2];exact h1.end'
       have HP:=ab hP;clear hP hI;go_wp2_with fail
       go_end0
       exact⟨rfl,uh HP⟩
end
theorem GF(b:Bool)(n k:Nat)(s:Sr):(wrI b n k s).ok=s.ok:=by unfold wrI;split <;> rfl
theorem QY{c:Cd}{fuel n:Nat}{f:CF}{s:Sr}(h:(oE c fuel n f s).ok=true):s.ok=true:=by
 unfold oE at h;simp only at h;have h1:=iz _ (iz _ h);have h2:(wrI (bL (c.nds.getD n aI) f).da n 4 (wrI (bL (c.nds.getD n aI) f).nu n 3 (wrI (decide ((c.nds.getD n aI).op=0)&&!decide (fj f=[])) n 2 s))).ok=true:=h1;rw[GF,GF,GF]at h2;exact h2
theorem ro{c:Cd}{fuel n:Nat}:∀(l:List CF) {s:Sr},(mJ c fuel n l s).ok=true->s.ok=true
 |[],_,h=>h
 |f::l,s,h=>by
  unfold mJ at h;split at h
  .exact h
  .exact QY (ro l h)
def En.dn(e:En):En:={ e with d:=true }
theorem En.dn_of{e:En}(h:e.d=true):e.dn=e:=by cases e;simp only at h;subst h;rfl
def fN(l:List En)(k:Nat):List En:=(l.take k).map En.dn++l.drop k
theorem cP(l:List En)(k:Nat):(fN l k).length=l.length:=by unfold fN;simp;omega
theorem NE(l:List En):fN l 0=l:=rfl
theorem Tf{l:List En}{k:Nat}(h:l.length<=k):fN l k=l.map En.dn:=by unfold fN;rw[take_of_length_le h,drop_eq_nil_of_le h,append_nil]
theorem zN{l:List En}{k:Nat}(h:k<l.length):(fN l k)[k]?=some l[k]:=by
 unfold fN;rw[getElem?_append_right (by simp;omega),getElem?_drop];simp[Nat.min_eq_left (Nat.le_of_lt h),h]
theorem qs{l:List En}{k:Nat}(h:k<l.length):fN l (k+1)=(fN l k).set k l[k].dn:=by
 unfold fN;have e:((l.take k).map En.dn).length=k:=by simp;omega
 rw[set_append_right _ _ (by omega),e,Nat.sub_self,take_succ_eq_append_getElem h,map_append,drop_eq_getElem_cons h,set_cons_zero];simp
theorem ND{l:List En}{k:Nat}(h:k<l.length)(hd:l[k].d=true):fN l (k+1)=fN l k:=by
 rw[qs h,En.dn_of hd];apply ext_getElem?;intro i;rw[getElem?_set];split
 .rename_i e;subst e;rw[if_pos (by rw[cP];exact h),zN h]
 .rfl
theorem Hk{l:List En}{k:Nat}{e:En}(h:e∈fN l k):∃e0∈l,e.bs=e0.bs/\(∀w,e0.ok w->e.ok w):=by
 unfold fN at h;rcases mem_append.1 h with h|h
 .obtain⟨e0,h0,rfl⟩:=mem_map.1 h;exact⟨e0,mem_of_mem_take h0,rfl,λw h=>h⟩
 .exact⟨e,mem_of_mem_drop h,rfl,λw h=>h⟩
theorem nJ{α:Type}{l:List α}{d:α}{n:Nat}(h:n<l.length):l.set n (l.getD n d)=l:=by
 apply ext_getElem?;intro i;rw[getElem?_set];split
 .rename_i e;subst e;simp[h]
 .rfl
section
variable {w W:World} {S:Nat} {c:Cd} {c0 hv kv wv:Value} {KV WV:List Value} {K:List (List En)} {s:Sr} {n:Nat} {l:List En}
theorem Sh.done{k g cap:Nat}(h:Sh w S c c0 hv kv wv KV WV (K.set n (fN l k)) { s with kn:=s.kn.set n ((fN l k).map En.m) })(hn:n<K.length)(hk:k<l.length)(hg:KV.getD n aJ=.slice (some ⟨g,0,none⟩) l.length cap):
  Sh (w.setCell ⟨g,k*2+1,none⟩ (.bool true)) S c c0 hv kv wv KV WV (K.set n (fN l (k+1))) { s with kn:=s.kn.set n ((fN l (k+1)).map En.m) }/\g∈cW S hv kv wv KV WV:=by
 have yK:(K.set n (fN l k)).length=K.length:=length_set;have hKV:=h.kvl;rw[yK]at hKV;have BU:(pp S hv kv wv KV WV)[4+n]?=some (some g):=by rw[yd (by omega),hg];rfl
 have xu:g∈cW S hv kv wv KV WV:=bU BU;have bE:=h.ke n (by rw[yK];exact hn);have e2:(K.set n (fN l k)).getD n []=fN l k:=by simp[hn]
 rw[e2,hg,cP]at bE;have aV:=(bE.stored (k*2+1) (.bool true)).1;have ay:(ru (fN l k)).set (k*2+1) (.bool true)=ru (fN l (k+1)):=by
  have h1:=Hl (L:=fN l k) (i:=k) (by rw[cP];exact hk) l[k].dn;rw[<-qs hk]at h1;rw[<-h1];congr 1;symm;apply ext_getElem?;intro i;rw[getElem?_set];split
  .rename_i e;subst e;have h3:=(qt (L:=fN l k) (i:=k) (by rw[cP];exact hk)).1;have h4:=zN hk;rw[getElem?_eq_getElem (by rw[cP];exact hk)]at h4;injection h4 with h4;rw[h4]at h3;rw[if_pos (by rw[Ti,cP];omega),h3];rfl
  .rfl
 rw[ay]at aV;have rZ:=h.put (n:=n) (by rw[yK];exact hn) (w':=w.setCell ⟨g,k*2+1,none⟩ (.bool true)) (v':=.slice (some ⟨g,0,none⟩) l.length cap) (l':=fN l (k+1)) (λi j _ h4 hi=>heap_setCell _ _ _ _ (λe=>h4 (by
   rw[show j=g from e]at hi;exact h.nd i _ g hi BU))) (by
   rw[yK,<-hg,nJ (by omega)];refine cy (yK ▸ h.kr) (p:=⟨g,k*2+1,none⟩) (λe=>?_) _;have:=h.nd 2 (4+n) g (congrArg some e) BU;omega) (by rw[cP];exact aV) (λj hj=>zq0 (by rw[hg];exact hj)) (λj hj=>heap_setCell _ _ _ _ (λe=>h.da j hj (by rw[show j=g from e];exact xu))) (λe he=>by
   have cO:KV.set n (.slice (some ⟨g,0,none⟩) l.length cap)=KV:=(by rw[<-hg,nJ (by omega)]);obtain⟨e0,h0,tq,ho0⟩:=Hk he;obtain⟨i,hi,KG⟩:=mem_iff_getElem.1 h0;have tt:∃e1∈fN l k,e1.bs=e0.bs/\(∀w',e1.ok w'->e0.ok w'):=by
    by_cases hik:i<k
    .refine⟨e0.dn,mem_append_left _ (mem_map_of_mem (mem_iff_getElem?.2 ⟨i,?_⟩)),rfl,λw' h=>h⟩;rw[getElem?_take,if_pos hik,getElem?_eq_getElem hi,KG]
    .refine⟨e0,mem_append_right _ (mem_iff_getElem?.2 ⟨i-k,?_⟩),rfl,λw' h=>h⟩;rw[getElem?_drop,show k+(i-k)=i by omega,getElem?_eq_getElem hi,KG]
   obtain⟨e1,h1,bH,ho1⟩:=tt;have hl:fN l k∈K.set n (fN l k):=mem_iff_getElem?.2 ⟨n,by rw[getElem?_set_self hn]⟩;have L6:∀j∈e.bs,j∈ee (K.set n (fN l k)):=λj hj=>bI.2 ⟨_,hl,e1,h1,by rw[bH,<-tq];exact hj⟩;refine⟨(ho0 w (ho1 w (h.dr _ hl e1 h1))).of_eq (λj hj=>heap_setCell _ _ _ _ (λe'=>h.da j (L6 j hj) (by rw[show j=g from e'];exact xu))),λj hj hm=>?_⟩;rw[cO]at hm;exact h.da j (L6 j hj) hm)
 have cO:KV.set n (.slice (some ⟨g,0,none⟩) l.length cap)=KV:=by rw[<-hg,nJ (by omega)]
 rw[cO,set_set]at rZ;refine⟨rZ.as (s':={ s with kn:=s.kn.set n ((fN l (k+1)).map En.m) }) ?_ rfl rfl rfl rfl,xu⟩;show s.kn.set n _=(s.kn.set n _).set n _;rw[set_set]
theorem Cr(hl:l=K.getD n [])(hn:n<K.length)(k:Nat):∀j,j∈ee (K.set n (fN l k))↔j∈ee K:=by
 have hlK:l∈K:=by rw[hl,bM hn];exact getElem_mem hn
 intro j;constructor
 .intro hj;obtain⟨l2,h2,e,he,hj⟩:=bI.1 hj;rcases mem_or_eq_of_mem_set h2 with p|p
  .exact bI.2 ⟨l2,p,e,he,hj⟩
  .subst p;obtain⟨e0,h0,tq,-⟩:=Hk he;exact bI.2 ⟨l,hlK,e0,h0,by rw[<-tq];exact hj⟩
 .intro hj;obtain⟨l2,h2,e,he,hj⟩:=bI.1 hj;obtain⟨i,hi,KG⟩:=mem_iff_getElem.1 h2;by_cases tt:i=n
  .subst tt;have vt:l2=l:=(by rw[hl,bM hn];exact KG.symm);subst vt;obtain⟨q,hq,hqe⟩:=mem_iff_getElem.1 he;have hm:fN l2 k∈K.set i (fN l2 k):=mem_iff_getElem?.2 ⟨i,by rw[getElem?_set_self hi]⟩;by_cases hqk:q<k
   .refine bI.2 ⟨_,hm,e.dn,mem_append_left _ (mem_map_of_mem (mem_iff_getElem?.2 ⟨q,?_⟩)),hj⟩;rw[getElem?_take,if_pos hqk,getElem?_eq_getElem hq,hqe]
   .refine bI.2 ⟨_,hm,e,mem_append_right _ (mem_iff_getElem?.2 ⟨q-k,?_⟩),hj⟩;rw[getElem?_drop,show k+(q-k)=q by omega,getElem?_eq_getElem hq,hqe]
  .exact bI.2 ⟨l2,mem_iff_getElem?.2 ⟨i,by rw[getElem?_set_ne (λe=>tt e.symm),getElem?_eq_getElem hi,KG]⟩,e,he,hj⟩
end
