import Derived.Test.YtciihepbeacppaaGreatM23
namespace Go.Proofs.YtciihepbeacppaaGreat
open Go.RowKit List
set_option linter.unusedVariables false
theorem a8{x k:ByteArray}:aX x k=true↔x=k:=by
 constructor
 .intro h;have h1:x.toList=k.toList:=by simpa[aX] using h
  rw[ByteArray.toList_eq,ByteArray.toList_eq]at h1;obtain⟨⟨a⟩⟩:=x;obtain⟨⟨b⟩⟩:=k;simp only at h1;rw[h1]
 .rintro rfl;simp[aX]
theorem bj{x k:ByteArray}(h:x≠k):aX x k=false:=by
 cases hk:aX x k with
 |false=>rfl
 |true=>exact absurd (a8.1 hk) h
theorem aT(k:ByteArray):aX k k=true:=a8.2 rfl
theorem eX{x k:ByteArray}(h:aK x=true)(hk:aK k=false):x≠k:=by
 rintro rfl;rw[h]at hk;cases hk
theorem aq{x k:ByteArray}(h:x.data.toList≠k.data.toList):x≠k:=λe=>h (by rw[e])
theorem nC{r q:List ByteArray}:Cx r=some q↔∃x,aK x=true/\r=x::q:=by
 cases r with
 |nil=>simp[Cx]
 |cons y r =>
  show(if aK y=true then some r else none)=some q↔_;by_cases h:aK y=true
  .rw[if_pos h];exact⟨λe=>by cases e;exact⟨y,h,rfl⟩,λ⟨x,_,e⟩=>by cases e;rfl⟩
  .rw[if_neg h];exact⟨λe=>(by cases e),λ⟨x,hx,e⟩=>by cases e;exact absurd hx h⟩
theorem oy{r q:List ByteArray}:kW r=some q↔∃x,(x=cC\/aK x=true)/\r=x::q:=by
 cases r with
 |nil=>simp[kW,gq,Cx]
 |cons y r =>
  show(if aX y cC=true then some r else Cx (y::r))=some q↔_;by_cases h:aX y cC=true
  .rw[if_pos h];exact⟨λe=>by cases e;exact⟨y,zq0 (a8.1 h),rfl⟩,λ⟨x,_,e⟩=>by cases e;rfl⟩
  .rw[if_neg h,nC];constructor
   .rintro⟨x,hx,e⟩;exact⟨x,zq1 hx,e⟩
   .rintro⟨x,hx|hx,e⟩
    .cases e;exact absurd (a8.2 hx) h
    .exact⟨x,hx,e⟩
theorem fZ{k:ByteArray}{r q:List ByteArray}:lS k r=some q↔r=k::q:=by
 rw[jX];exact⟨λ⟨x,hx,e⟩=>by rw[e,a8.1 hx],λe=>⟨k,aT k,e⟩⟩
theorem rg(k:ByteArray)(q:List ByteArray):lS k (k::q)=some q:=fZ.2 rfl
theorem zy{r q:List ByteArray}:Lx r=some q↔∃x,(x=bS\/x=kU)/\r=x::q:=by
 cases r with
 |nil=>simp[Lx,gq,lS]
 |cons y r =>
  show(if aX y kU=true then some r else lS bS (y::r))=some q↔_;by_cases h:aX y kU=true
  .rw[if_pos h];exact⟨λe=>by cases e;exact⟨y,zq1 (a8.1 h),rfl⟩,λ⟨x,_,e⟩=>by cases e;rfl⟩
  .rw[if_neg h,fZ];constructor
   .intro e;exact⟨bS,zq0 rfl,e⟩
   .rintro⟨x,hx|hx,e⟩
    .rw[e,hx]
    .cases e;exact absurd (a8.2 hx) h
def pC(l:List ByteArray):Prop :=
 ∀R:List ByteArray->Prop,R [bJ]->(∀{a b c:ByteArray},aK a=true->(b=bS\/b=kU)->(c=cC\/aK c=true)->R [a,b,c])->R l
theorem pC.star:pC [bJ]:=λ_ h _=>h
theorem pC.two{a b c:ByteArray}(ha:aK a=true)(hb:b=bS\/b=kU)(hc:c=cC\/aK c=true):pC [a,b,c]:=λ_ _ h=>h ha hb hc
theorem pC.ind {motive:(l:List ByteArray)->pC l->Prop} (star:motive [bJ] pC.star)
  (two:∀{a b c:ByteArray} (ha:aK a=true) (hb:b=bS\/b=kU) (hc:c=cC\/aK c=true),motive [a,b,c] (pC.two ha hb hc)) {l:List ByteArray} (h:pC l):motive l h:=by
 obtain⟨_,h2⟩:=h (λl=>∃h,motive l h) ⟨_,star⟩ (λha hb hc=>⟨_,two ha hb hc⟩);exact h2
theorem ajc{l:List ByteArray}:rcB l=true↔pC l:=by
 constructor
 .intro h;match l,h with
  |[a],h=>rw[a8.1 (show aX a bJ=true from h)];exact pC.star
  |[a,b,c],h =>
   simp only[rcB,Bool.and_eq_true,Bool.or_eq_true,a8]at h;exact pC.two h.1.1 h.2 (h.1.2.symm)
 .intro h;cases h using pC.ind with
  |star=>exact aT _
  |two ha hb hc=>simp only[rcB,Bool.and_eq_true,Bool.or_eq_true,a8];exact⟨⟨ha,hc.symm⟩,hb⟩
theorem DP{r q:List ByteArray}:pCo r=some q↔∃c,pC c/\r=c++q:=by
 constructor
 .intro h;cases r with
  |nil=>simp[pCo,gq,Cx]at h
  |cons y r =>
   change (if aX y bJ=true then some r else ((Cx (y::r)).bind Lx).bind kW)=some q at h
   by_cases h1:aX y bJ=true
   .rw[if_pos h1]at h;cases h;rw[a8.1 h1];exact⟨_,pC.star,rfl⟩
   .rw[if_neg h1]at h;obtain⟨r2,h,h3⟩:=Option.bind_eq_some_iff.1 h;obtain⟨r1,h1,h2⟩:=Option.bind_eq_some_iff.1 h;obtain⟨a,ha,e⟩:=nC.1 h1;obtain⟨b,hb,rfl⟩:=zy.1 h2;obtain⟨c,hc,rfl⟩:=oy.1 h3;exact⟨_,pC.two ha hb hc,e⟩
 .rintro⟨c,hc,rfl⟩;cases hc using pC.ind with
  |star=>show(if aX bJ bJ=true then some q else _)=some q;rw[if_pos (aT _)]
  |@two a b c ha hb hc =>
   show(if aX a bJ=true then some (b::c::q) else ((Cx (a::b::c::q)).bind Lx).bind kW)=some q;rw[if_neg (by rw[bj (eX ha rfl)];simp),nC.2 ⟨a,ha,rfl⟩,Option.bind_some,zy.2 ⟨b,hb,rfl⟩,Option.bind_some,oy.2 ⟨c,hc,rfl⟩]
theorem DT{r q:List ByteArray}:pTs r=some q↔∃c,pC c/\r=uC::(c++sS::q):=by
 constructor
 .intro h;unfold pTs at h;obtain⟨r2,h,h3⟩:=Option.bind_eq_some_iff.1 h;obtain⟨r1,h1,h2⟩:=Option.bind_eq_some_iff.1 h;obtain⟨c,hc,rfl⟩:=DP.1 h2;have e3:=fZ.1 h3;subst e3;exact⟨c,hc,fZ.1 h1⟩
 .rintro⟨c,hc,rfl⟩;show((lS uC (uC::(c++sS::q))).bind pCo).bind (lS sS)=some q;rw[rg,Option.bind_some,DP.2 ⟨c,hc,rfl⟩,Option.bind_some,rg]
def k9(l:List ByteArray):Prop :=
 ∀R:List ByteArray->Prop,R [aD]->(∀{b:ByteArray},aK b=true->R [fL,b])->(∀{a c:ByteArray},aK a=true->(c=lB\/c=cC\/aK c=true)->R [a,bS,c]) ->
  (∀{a c:ByteArray},aK a=true->aK c=true->R [a,bS,c,a6,nW])->(∀{a e:ByteArray},aK a=true->(e=cC\/aK e=true)->R [a,a6,nW,bS,e])->R l
theorem k9.skip:k9 [aD]:=λ_ h _ _ _ _=>h
theorem k9.free{b:ByteArray}(hb:aK b=true):k9 [fL,b]:=λ_ _ h _ _ _=>h hb
theorem k9.val{a c:ByteArray}(ha:aK a=true)(hc:c=lB\/c=cC\/aK c=true):k9 [a,bS,c]:=λ_ _ _ h _ _=>h ha hc
theorem k9.load{a c:ByteArray}(ha:aK a=true)(hc:aK c=true):k9 [a,bS,c,a6,nW]:=λ_ _ _ _ h _=>h ha hc
theorem k9.store{a e:ByteArray}(ha:aK a=true)(he:e=cC\/aK e=true):k9 [a,a6,nW,bS,e]:=λ_ _ _ _ _ h=>h ha he
theorem k9.ind {motive:(l:List ByteArray)->k9 l->Prop} (skip:motive [aD] k9.skip) (free:∀{b:ByteArray} (hb:aK b=true),motive [fL,b] (k9.free hb))
  (val:∀{a c:ByteArray} (ha:aK a=true) (hc:c=lB\/c=cC\/aK c=true),motive [a,bS,c] (k9.val ha hc)) (load:∀{a c:ByteArray} (ha:aK a=true) (hc:aK c=true),motive [a,bS,c,a6,nW] (k9.load ha hc))
  (store:∀{a e:ByteArray} (ha:aK a=true) (he:e=cC\/aK e=true),motive [a,a6,nW,bS,e] (k9.store ha he)) {l:List ByteArray} (h:k9 l):motive l h:=by
 obtain⟨_,h2⟩:=h (λl=>∃h,motive l h) ⟨_,skip⟩ (λhb=>⟨_,free hb⟩) (λha hc=>⟨_,val ha hc⟩) (λha hc=>⟨_,load ha hc⟩) (λha he=>⟨_,store ha he⟩);exact h2
theorem Za:aX a6 bS=false:=bj (aq (by simp[a6,bS]))
theorem Qz{r q:List ByteArray}(h:(pAs r).bind (lS fE)=some q):(∃c,(c=lB\/c=cC\/aK c=true)/\r=c::fE::q)\/∃c,aK c=true/\r=c::a6::nW::fE::q:=by
 cases r with
 |nil=>simp[pAs,gq,kW,Cx]at h
 |cons c r =>
  obtain⟨r1,h1,h2⟩:=Option.bind_eq_some_iff.1 h;have e2:=fZ.1 h2;change (if aX c lB=true then some r else if (!(aX c cC)&&(match kW (c::r) with|some q=>gq a6 q|none=>false))=true then (kW (c::r)).bind (λq=>lS nW q.tail) else kW (c::r))=some r1 at h1
  by_cases hn:aX c lB=true
  .rw[if_pos hn]at h1;cases h1;exact zq0 ⟨c,zq0 (a8.1 hn),by rw[e2]⟩
  .rw[if_neg hn]at h1;cases hp:kW (c::r) with
   |none=>rw[hp]at h1;simp at h1
   |some r2 =>
    obtain⟨x,hx,e⟩:=oy.1 hp;cases e
    rw[hp]at h1;dsimp only at h1;by_cases hd:(!(aX c cC)&&gq a6 r)=true
    .rw[if_pos hd]at h1;simp only[Option.bind_some]at h1;have e1:=fZ.1 h1;rw[e2]at e1;simp only[Bool.and_eq_true,Bool.not_eq_true']at hd;right;refine⟨c,?_,?_⟩
     .rcases hx with rfl|hx
      .rw[aT]at hd;cases hd.1
      .exact hx
     .cases r with
      |nil=>cases hd.2
      |cons y r=>rw[a8.1 (show aX y a6=true from hd.2)];simp only[tail_cons]at e1;rw[e1]
    .rw[if_neg hd]at h1;cases h1
     exact zq0 ⟨c,zq1 hx,by rw[e2]⟩
theorem GH{r q:List ByteArray}(h:(pSi r).bind (lS jb)=some q):∃p,k9 p/\r=p++fE::q:=by
 cases r with
 |nil=>simp[pSi,gq,Cx]at h
 |cons a r =>
  obtain⟨r1,h1,h2⟩:=Option.bind_eq_some_iff.1 h;have e2:r1=fE::q:=fZ.1 h2;change (if aX a aD=true then some r else if aX a fL=true then Cx r else (Cx (a::r)).bind VB)=some r1 at h1
  by_cases hs:aX a aD=true
  .rw[if_pos hs]at h1;cases h1;rw[a8.1 hs,e2];exact⟨_,k9.skip,rfl⟩
  .rw[if_neg hs]at h1;by_cases hf:aX a fL=true
   .rw[if_pos hf]at h1;obtain⟨b,hb,rfl⟩:=nC.1 h1;rw[a8.1 hf,e2];exact⟨_,k9.free hb,rfl⟩
   .rw[if_neg hf]at h1;obtain⟨r2,h3,h4⟩:=Option.bind_eq_some_iff.1 h1;obtain⟨x,ha,e⟩:=nC.1 h3;cases e
    cases r with
    |nil=>simp[VB,gq,lS]at h4
    |cons b r =>
     change (if aX b a6=true then (((lS nW r).bind (lS bS)).bind kW) else (lS bS (b::r)).bind pAs)=some r1 at h4
     by_cases hd:aX b a6=true
     .rw[if_pos hd]at h4;obtain⟨r3,h5,h6⟩:=Option.bind_eq_some_iff.1 h4;obtain⟨r4,h7,h8⟩:=Option.bind_eq_some_iff.1 h5;obtain⟨e,he,rfl⟩:=oy.1 h6;have e7:=fZ.1 h7;have e8:=fZ.1 h8;subst e8;subst e7;rw[a8.1 hd,e2];exact⟨_,k9.store ha he,rfl⟩
     .rw[if_neg hd]at h4;obtain⟨r3,h5,h6⟩:=Option.bind_eq_some_iff.1 h4;have e5:=fZ.1 h5;cases e5
      have h7:(pAs r).bind (lS fE)=some q:=(by rw[h6,Option.bind_some];exact fZ.2 e2);rcases Qz h7 with⟨c,hc,rfl⟩|⟨c,hc,rfl⟩
      .exact⟨_,k9.val ha hc,rfl⟩
      .exact⟨_,k9.load ha hc,rfl⟩
theorem Rf:aX fE a6=false:=bj (aq (by simp[a6,fE]))
theorem Ie:aX bS a6=false:=bj (aq (by simp[a6,bS]))
theorem Vs:aX cC lB=false:=bj (aq (by simp[cC,lB]))
theorem Kw:aX fL aD=false:=bj (aq (by simp[fL,aD]))
def iB(l:List ByteArray)(k:Nat):Prop :=
 ∀R:List ByteArray->Nat->Prop,R [] 0->(∀{p r:List ByteArray} {k:Nat},k9 p->R r k->R (p++fE::r) (k+1)) ->
  (∀{c b r:List ByteArray} {j k:Nat},pC c->R b j->R r k->R (yA::uC::(c++sS::ee::(b++gB::r))) (j+2+k))->(∀{c b r:List ByteArray} {j k:Nat},pC c->R b j->R r k->R (tq::uC::(c++sS::ee::(b++gB::r))) (j+1+k)) ->
  (∀{c b d r:List ByteArray} {j i k:Nat},pC c->R b j->R d i->R r k->R (tq::uC::(c++sS::ee::(b++gB::rE::ee::(d++gB::r)))) (j+2+i+k))->R l k
theorem iB.nil:iB [] 0:=λ_ h _ _ _ _=>h
theorem iB.sim{p r:List ByteArray}{k:Nat}(hp:k9 p)(hr:iB r k):iB (p++fE::r) (k+1):=λR h1 h2 h3 h4 h5=>h2 hp (hr R h1 h2 h3 h4 h5)
theorem iB.whl{c b r:List ByteArray}{j k:Nat}(hc:pC c)(hb:iB b j)(hr:iB r k):iB (yA::uC::(c++sS::ee::(b++gB::r))) (j+2+k):=λR h1 h2 h3 h4 h5=>h3 hc (hb R h1 h2 h3 h4 h5) (hr R h1 h2 h3 h4 h5)
theorem iB.ife{c b r:List ByteArray}{j k:Nat}(hc:pC c)(hb:iB b j)(hr:iB r k):iB (tq::uC::(c++sS::ee::(b++gB::r))) (j+1+k):=λR h1 h2 h3 h4 h5=>h4 hc (hb R h1 h2 h3 h4 h5) (hr R h1 h2 h3 h4 h5)
theorem iB.ifl{c b d r:List ByteArray}{j i k:Nat}(hc:pC c)(hb:iB b j)(hd:iB d i)(hr:iB r k):iB (tq::uC::(c++sS::ee::(b++gB::rE::ee::(d++gB::r)))) (j+2+i+k):=λR h1 h2 h3 h4 h5=>h5 hc (hb R h1 h2 h3 h4 h5) (hd R h1 h2 h3 h4 h5) (hr R h1 h2 h3 h4 h5)
theorem iB.ind {motive:(l:List ByteArray)->(k:Nat)->iB l k->Prop} (nil:motive [] 0 iB.nil) (sim:∀{p r:List ByteArray} {k:Nat} (hp:k9 p) (hr:iB r k),motive r k hr->motive _ _ (iB.sim hp hr))
  (whl:∀{c b r:List ByteArray} {j k:Nat} (hc:pC c) (hb:iB b j) (hr:iB r k),motive b j hb->motive r k hr->motive _ _ (iB.whl hc hb hr))
  (ife:∀{c b r:List ByteArray} {j k:Nat} (hc:pC c) (hb:iB b j) (hr:iB r k),motive b j hb->motive r k hr->motive _ _ (iB.ife hc hb hr))
  (ifl:∀{c b d r:List ByteArray} {j i k:Nat} (hc:pC c) (hb:iB b j) (hd:iB d i) (hr:iB r k),motive b j hb->motive d i hd->motive r k hr->motive _ _ (iB.ifl hc hb hd hr))
  {l:List ByteArray} {k:Nat} (h:iB l k):motive l k h:=by
 obtain⟨_,h2⟩:=h (λl k=>∃h,motive l k h) ⟨_,nil⟩ (λhp ⟨hr,ih⟩=>⟨_,sim hp hr ih⟩) (λhc ⟨hb,ib⟩ ⟨hr,ir⟩=>⟨_,whl hc hb hr ib ir⟩) (λhc ⟨hb,ib⟩ ⟨hr,ir⟩=>⟨_,ife hc hb hr ib ir⟩) (λhc ⟨hb,ib⟩ ⟨hd,id⟩ ⟨hr,ir⟩=>⟨_,ifl hc hb hd hr ib id ir⟩);exact h2
theorem ei{f g:List ByteArray->Option (List ByteArray × Nat)}{r p:List ByteArray}{n:Nat}:Eb f g r=some (p,n)↔∃q k j,f r=some (q,k)/\g q=some (p,j)/\n=k+j:=by
 unfold Eb;cases hf:f r with
 |none=>simp
 |some qk =>
  obtain⟨q,k⟩:=qk;dsimp only;cases hg:g q with
  |none =>
   constructor
   .intro h;cases h
   .rintro⟨q',k',j,e,h,_⟩;cases e;rw[hg]at h;cases h
  |some pj =>
   obtain⟨p',j⟩:=pj;constructor
   .intro h;cases h;exact⟨q,k,j,rfl,hg,rfl⟩
   .rintro⟨q',k',j',e,h,rfl⟩;cases e;rw[hg]at h;cases h;rfl
theorem oj{f:List ByteArray->Option (List ByteArray)}{r p:List ByteArray}{n:Nat}:n0 f r=some (p,n)↔f r=some p/\n=0:=by
 unfold n0;cases f r with
 |none=>simp
 |some q=>simp only[Option.map_some,Option.some.injEq,Prod.mk.injEq];exact⟨λh=>⟨h.1,h.2.symm⟩,λh=>⟨h.1,h.2.symm⟩⟩
theorem Bt{f:List ByteArray->Option (List ByteArray)}{r p:List ByteArray}{n:Nat}:n1 f r=some (p,n)↔f r=some p/\n=1:=by
 unfold n1;cases f r with
 |none=>simp
 |some q=>simp only[Option.map_some,Option.some.injEq,Prod.mk.injEq];exact⟨λh=>⟨h.1,h.2.symm⟩,λh=>⟨h.1,h.2.symm⟩⟩
theorem Dd{k:ByteArray}{r:List ByteArray}(h:gq k r=true):r=k::r.tail:=by
 cases r with
 |nil=>cases h
 |cons x r=>rw[a8.1 (show aX x k=true from h)];rfl
theorem DQ{k:ByteArray}{pb:List ByteArray->Option (List ByteArray × Nat)}{r q:List ByteArray}{n:Nat}:
  pHd k pb r=some (q,n)↔∃c t j,pC c/\r=k::uC::(c++sS::t)/\pb t=some (q,j)/\n=1+j:=by
 unfold pHd;rw[ei];constructor
 .rintro⟨t,a,j,h1,h2,rfl⟩;obtain⟨s,a1,a2,h3,h4,rfl⟩:=ei.1 h1;obtain⟨h5,rfl⟩:=oj.1 h3;obtain⟨h6,rfl⟩:=Bt.1 h4;obtain⟨c,hc,rfl⟩:=DT.1 h6;exact⟨c,t,j,hc,fZ.1 h5,h2,by omega⟩
 .rintro⟨c,t,j,hc,rfl,h2,rfl⟩;exact⟨t,0+1,j,ei.2 ⟨_,0,1,oj.2 ⟨rg _ _,rfl⟩,Bt.2 ⟨DT.2 ⟨c,hc,rfl⟩,rfl⟩,rfl⟩,h2,by omega⟩
def BlR(r q:List ByteArray)(k:Nat):Prop:=∃b,iB b k/\r=ee::(b++gB::q)
theorem NC{pb:List ByteArray->Option (List ByteArray × Nat)}{f:Nat}(hb:∀r q k,r.length<f->pb r=some (q,k)->BlR r q k)(n:Nat):
  ∀r q k,r.length<f->pCs (pCm pb) n r=some (q,k)->∃b,iB b k/\r=b++q:=by
 induction n with
 |zero=>intro r q k _ h;cases h;exact⟨[],iB.nil,rfl⟩
 |succ n ih =>
  intro r q k hr h;simp only[pCs]at h;by_cases h1:gq k6 r=true
  .rw[if_pos h1]at h;cases h;exact⟨[],iB.nil,rfl⟩
  .rw[if_neg h1]at h;obtain⟨t,a,j,h2,h3,rfl⟩:=ei.1 h;unfold pCm at h2;by_cases hi:gq mc r=true
   .rw[if_pos hi]at h2;obtain⟨u,a1,a2,h4,h5,rfl⟩:=ei.1 h2;obtain⟨c,v,j1,hc,rfl,h6,rfl⟩:=DQ.1 h4;have hv:v.length<f:=(by simp only[length_cons,length_append]at hr;omega);obtain⟨b,hB,rfl⟩:=hb _ _ _ hv h6;unfold pEl at h5;by_cases he:gq iN u=true
    .rw[if_pos he]at h5;obtain⟨u1,b1,b2,h7,h8,rfl⟩:=ei.1 h5;cases h7
     have hu:=Dd he;rw[hu]at hr hv ⊢;obtain⟨d,hD,e8⟩:=hb _ _ _ (by simp only[length_cons,length_append]at hv;omega) h8;rw[e8]at hr ⊢;obtain⟨z,hZ,rfl⟩:=ih _ _ _ (by simp only[length_cons,length_append]at hr;omega) h3;have hK:=iB.ifl hc hB hD hZ;rw[show j1+2+b2+j=1+j1+(1+b2)+j by omega]at hK;exact⟨_,hK,by simp[show mc=tq from rfl,show iN=rE from rfl]⟩
    .rw[if_neg he]at h5;cases h5
     obtain⟨z,hZ,rfl⟩:=ih _ _ _ (by simp only[length_cons,length_append]at hr;omega) h3;have hK:=iB.ife hc hB hZ;rw[show j1+1+j=1+j1+0+j by omega]at hK;exact⟨_,hK,by simp[show mc=tq from rfl]⟩
   .rw[if_neg hi]at h2;by_cases hw:gq bO r=true
    .rw[if_pos hw]at h2;obtain⟨u,a1,a2,h4,h5,rfl⟩:=ei.1 h2;obtain⟨c,v,j1,hc,rfl,h6,rfl⟩:=DQ.1 h4;have hv:v.length<f:=(by simp only[length_cons,length_append]at hr;omega);obtain⟨b,hB,rfl⟩:=hb _ _ _ hv h6;cases h5
     obtain⟨z,hZ,rfl⟩:=ih _ _ _ (by simp only[length_cons,length_append]at hr;omega) h3;have hK:=iB.whl hc hB hZ;rw[show j1+2+j=1+j1+1+j by omega]at hK;exact⟨_,hK,by simp[show bO=yA from rfl]⟩
    .rw[if_neg hw]at h2;obtain⟨h4,rfl⟩:=Bt.1 h2;obtain⟨p,hp,rfl⟩:=GH h4;obtain⟨z,hZ,rfl⟩:=ih _ _ _ (by simp only[length_cons,length_append]at hr;omega) h3;have hK:=iB.sim hp hZ;rw[show j+1=1+j by omega]at hK;exact⟨_,hK,by simp⟩
theorem Nk(N:Nat)(f:Nat):∀r q k,r.length<f->pBl N f r=some (q,k)->BlR r q k:=by
 induction f with
 |zero=>intro r q k h;omega
 |succ f ih =>
  intro r q k hr h;simp only[pBl]at h;obtain⟨t,a1,a2,h1,h2,rfl⟩:=ei.1 h;obtain⟨u,b1,b2,h3,h4,rfl⟩:=ei.1 h1;obtain⟨h5,rfl⟩:=oj.1 h3;obtain⟨h6,rfl⟩:=oj.1 h2;have e3:=fZ.1 h5;have e2:=fZ.1 h6;subst e3;obtain⟨b,hB,rfl⟩:=NC ih N u t b2 (by simp only[length_cons]at hr;omega) h4;subst e2;exact⟨b,by rw[show 0+b2+0=b2 by omega];exact hB,rfl⟩
theorem uL{p:List ByteArray}(h:k9 p){k:ByteArray}(h1:k≠aD)(h2:k≠fL)(h3:k≠bS)(h4:k≠lB)(h5:k≠cC)(h6:k≠a6)(h7:k≠nW)(h8:aK k=false):∀x∈p,x≠k:=by
 intro x hx;cases h using k9.ind with
 |skip=>simp only[mem_cons,not_mem_nil,or_false]at hx;subst hx;exact h1.symm
 |free hb =>
  simp only[mem_cons,not_mem_nil,or_false]at hx;rcases hx with rfl|rfl
  .exact h2.symm
  .exact eX hb h8
 |val ha hc =>
  simp only[mem_cons,not_mem_nil,or_false]at hx;rcases hx with rfl|rfl|rfl
  .exact eX ha h8
  .exact h3.symm
  .rcases hc with rfl|rfl|hc
   .exact h4.symm
   .exact h5.symm
   .exact eX hc h8
 |load ha hc =>
  simp only[mem_cons,not_mem_nil,or_false]at hx;rcases hx with rfl|rfl|rfl|rfl|rfl
  .exact eX ha h8
  .exact h3.symm
  .exact eX hc h8
  .exact h6.symm
  .exact h7.symm
 |store ha hc =>
  simp only[mem_cons,not_mem_nil,or_false]at hx;rcases hx with rfl|rfl|rfl|rfl|rfl
  .exact eX ha h8
  .exact h6.symm
  .exact h7.symm
  .exact h3.symm
  .rcases hc with rfl|hc
   .exact h5.symm
   .exact eX hc h8
theorem Rk{p:List ByteArray}(h:k9 p):∀x∈p,x≠gB:=uL h (aq (by simp[gB,aD])) (aq (by simp[gB,fL])) (aq (by simp[gB,bS])) (aq (by simp[gB,lB])) (aq (by simp[gB,cC])) (aq (by simp[gB,a6])) (aq (by simp[gB,nW])) rfl
theorem Rj{p:List ByteArray}(h:k9 p):∀x∈p,x≠tq:=uL h (aq (by simp[tq,aD])) (aq (by simp[tq,fL])) (aq (by simp[tq,bS])) (aq (by simp[tq,lB])) (aq (by simp[tq,cC])) (aq (by simp[tq,a6])) (aq (by simp[tq,nW])) rfl
theorem Rl{p:List ByteArray}(h:k9 p):∀x∈p,x≠yA:=uL h (aq (by simp[yA,aD])) (aq (by simp[yA,fL])) (aq (by simp[yA,bS])) (aq (by simp[yA,lB])) (aq (by simp[yA,cC])) (aq (by simp[yA,a6])) (aq (by simp[yA,nW])) rfl
theorem abU{p:List ByteArray}(h:k9 p):∀x∈p,x≠rE:=uL h (aq (by simp[rE,aD])) (aq (by simp[rE,fL])) (aq (by simp[rE,bS])) (aq (by simp[rE,lB])) (aq (by simp[rE,cC])) (aq (by simp[rE,a6])) (aq (by simp[rE,nW])) rfl
theorem xe{p:List ByteArray}(h:k9 p):∃x t,p=x::t:=by cases h using k9.ind <;> exact⟨_,_,rfl⟩
theorem ahC:aX yA tq=false:=bj (aq (by simp[yA,tq]))
theorem XO:aX tq rE=false:=bj (aq (by simp[rE,tq]))
theorem ahB:aX yA rE=false:=bj (aq (by simp[rE,yA]))
theorem DZ:aX gB rE=false:=bj (aq (by simp[rE,gB]))
theorem Nl{b:List ByteArray}{k:Nat}(h:iB b k){q:List ByteArray}(hq:gq rE q=false):gq rE (b++q)=false:=by
 induction h using iB.ind with
 |nil=>exact hq
 |sim hp _ =>
  obtain⟨x,t,rfl⟩:=xe hp;exact bj (abU hp x (by simp))
 |whl=>exact ahB
 |ife=>exact XO
 |ifl=>exact XO
theorem ahA:yA≠gB:=aq (by simp[yA,gB])
theorem XN:tq≠gB:=aq (by simp[tq,gB])
def oK(l:List ByteArray):Prop :=
 ∀R:List ByteArray->Prop,(∀{p:List ByteArray},yy p=true->R p)->(∀{p r:List ByteArray},yy p=true->R r->R (p++bJ::r))->R l
theorem oK.one{p:List ByteArray}(hp:yy p=true):oK p:=λ_ h _=>h hp
theorem oK.more{p r:List ByteArray}(hp:yy p=true)(hr:oK r):oK (p++bJ::r):=λR h1 h2=>h2 hp (hr R h1 h2)
theorem oK.ind{motive:(l:List ByteArray)->oK l->Prop}(one:∀{p:List ByteArray} (hp:yy p=true),motive p (oK.one hp))(more:∀{p r:List ByteArray} (hp:yy p=true) (hr:oK r),motive r hr->motive _ (oK.more hp hr)){l:List ByteArray}(h:oK l):motive l h:=by
 obtain⟨_,h2⟩:=h (λl=>∃h,motive l h) (λhp=>⟨_,one hp⟩) (λhp ⟨hr,ih⟩=>⟨_,more hp hr ih⟩);exact h2
theorem RJ{x k:ByteArray}(h:k8 x=true)(hk:k8 k=false):x≠k:=by
 rintro rfl;rw[h]at hk;cases hk
theorem lA{x k:ByteArray}(h:gP x=true)(h1:k≠cC)(h2:aK k=false)(h3:k8 k=false):x≠k:=by
 simp only[gP,Bool.or_eq_true,a8]at h;rcases h with(rfl|h)|h
 .exact h1.symm
 .exact eX h h2
 .exact RJ h h3
theorem CI{p:List ByteArray}(h:yy p=true){k:ByteArray}(h1:k≠qA)(h2:k≠EK)(h3:k≠uC)(h4:k≠WT)(h5:k≠sS)(h6:k≠bS)(h7:k≠kU)(h8:k≠LQ)(h9:k≠cC)(hl:aK k=false)(hu:k8 k=false):∀x∈p,x≠k:=by
 intro x hx;match p,h with
 |[a],h =>
  have e:=a8.1 (show aX a qA=true from h);simp only[mem_cons,not_mem_nil,or_false]at hx;subst hx;subst e;exact h1.symm
 |[a,b,c],h =>
  simp only[yy,Bool.and_eq_true,Bool.or_eq_true,a8]at h;obtain⟨⟨ha,hc⟩,hb⟩:=h;simp only[mem_cons,not_mem_nil,or_false]at hx;rcases hx with rfl|rfl|rfl
  .exact lA ha h9 hl hu
  .rcases hb with(rfl|rfl)|rfl
   .exact h6.symm
   .exact h7.symm
   .exact h8.symm
  .exact lA hc h9 hl hu
 |[a,b,c,d,e,f],h =>
  simp only[yy,Bool.and_eq_true,a8]at h;obtain⟨⟨⟨⟨rfl,rfl⟩,rfl⟩,rfl⟩,hc,he⟩:=h;simp only[mem_cons,not_mem_nil,or_false]at hx;rcases hx with rfl|rfl|rfl|rfl|rfl|rfl
  .exact h2.symm
  .exact h3.symm
  .exact lA hc h9 hl hu
  .exact h4.symm
  .exact lA he h9 hl hu
  .exact h5.symm
theorem yP{p:List ByteArray}(h:yy p=true):∀x∈p,x≠bJ :=
 CI h (aq (by simp[bJ,qA])) (aq (by simp[bJ,EK])) (aq (by simp[bJ,uC])) (aq (by simp[bJ,WT])) (aq (by simp[bJ,sS])) (aq (by simp[bJ,bS])) (aq (by simp[bJ,kU])) (aq (by simp[bJ,LQ])) (aq (by simp[bJ,cC])) rfl rfl
theorem Hr{p:List ByteArray}(h:yy p=true):∀x∈p,x≠ee :=
 CI h (aq (by simp[ee,qA])) (aq (by simp[ee,EK])) (aq (by simp[ee,uC])) (aq (by simp[ee,WT])) (aq (by simp[ee,sS])) (aq (by simp[ee,bS])) (aq (by simp[ee,kU])) (aq (by simp[ee,LQ])) (aq (by simp[ee,cC])) rfl rfl
theorem aeJ{f:List ByteArray}(h:oK f):∀x∈f,x≠ee:=by
 induction h using oK.ind with
 |one h=>exact Hr h
 |more h _ ih =>
  intro x hx;simp only[mem_append,mem_cons]at hx;rcases hx with hx|rfl|hx
  .exact Hr h x hx
  .exact aq (by simp[bJ,ee])
  .exact ih x hx
theorem Kr(n:Nat):∀{r q:List ByteArray},Ly n r=some q->r=q\/∃f,oK f/\r=bJ::(f++q):=by
 induction n with
 |zero=>intro r q h;cases h;exact zq0 rfl
 |succ n ih =>
  intro r q h;simp only[Ly]at h;by_cases h1:gq dD r=true
  .rw[if_pos h1]at h;obtain⟨t,h2,h3⟩:=Option.bind_eq_some_iff.1 h;obtain⟨p,hp,e⟩:=jW.1 h2;have e1:r=bJ::r.tail:=Dd h1;right;rcases ih h3 with rfl|⟨f,hf,rfl⟩
   .exact⟨p,oK.one hp,by rw[e1,e]⟩
   .exact⟨_,oK.more hp hf,by rw[e1,e];simp⟩
  .rw[if_neg h1]at h;cases h;exact zq0 rfl
theorem Ks{n:Nat}{r q:List ByteArray}(h:Lz n r=some q):∃f,oK f/\r=f++q:=by
 obtain⟨t,h2,h3⟩:=Option.bind_eq_some_iff.1 h;obtain⟨p,hp,rfl⟩:=jW.1 h2;rcases Kr n h3 with rfl|⟨f,hf,rfl⟩
 .exact⟨p,oK.one hp,rfl⟩
 .exact⟨_,oK.more hp hf,by simp⟩
theorem Av{f:List ByteArray}(h:oK f):∀{n:Nat} {q:List ByteArray},f.length<=n->gq bJ q=false->Lz n (f++q)=some q:=by
 induction h using oK.ind with
 |one hp =>
  intro n q _ hq;unfold Lz;rw[jW.2 ⟨_,hp,rfl⟩,Option.bind_some];cases n with
  |zero=>rfl
  |succ n=>show(if gq bJ q=true then _ else some q)=_;rw[hq,if_neg (by simp)]
 |@more p r hp _ ih =>
  intro n q hn hq;simp only[length_append,length_cons]at hn;unfold Lz;rw[append_assoc,jW.2 ⟨_,hp,rfl⟩,Option.bind_some];cases n with
  |zero=>omega
  |succ n =>
   show(if aX bJ bJ=true then (pB (r++q)).bind (Ly n) else _)=_;rw[if_pos (aT _)];exact ih (by omega) hq
theorem JC{p:List ByteArray}(h:∀x∈p,x≠bJ):∀cur r,SR cur (p++r)=SR (cur++p) r:=by
 induction p with
 |nil=>intro cur r;rw[append_nil];rfl
 |cons x p ih =>
  intro cur r;show SR cur (x::(p++r))=_;simp only[SR];rw[bj (h x (by simp)),if_neg (by simp),ih (λy hy=>h y (by simp[hy])),append_assoc];rfl
def Pgm(ws:List ByteArray)(k:Nat):Prop:=∃f b,oK f/\iB b k/\ws=dR::(f++ee::(b++[gB]))
theorem QL{ws:List ByteArray}{k:Nat}(h:pPr ws.length ws=some ([],k)):∃j,Pgm ws j/\k=j+1:=by
 unfold pPr at h;obtain⟨t,a1,a2,h1,h2,rfl⟩:=ei.1 h;obtain⟨u,b1,b2,h3,h4,rfl⟩:=ei.1 h1;obtain⟨v,c1,c2,h5,h6,rfl⟩:=ei.1 h3;obtain⟨h7,rfl⟩:=oj.1 h5;obtain⟨h8,rfl⟩:=oj.1 h6;cases h2
 have e7:ws=dR::v:=fZ.1 h7;obtain⟨f,hf,e8⟩:=Ks h8;have hl:u.length<ws.length+1:=by rw[e7,e8];simp only[length_cons,length_append];omega
 obtain⟨b,hB,e9⟩:=Nk _ _ _ _ _ hl h4;exact⟨b2,⟨f,b,hf,hB,by rw[e7,e8,e9]⟩,by omega⟩
def dP(c:UInt8):ByteArray:=⟨#[c]⟩
theorem Bf{x:ByteArray}(h:aK x=true):x=dP (Cm x):=by
 obtain⟨⟨l⟩⟩:=x;match l,h with
 |[c],_=>rfl
theorem GO{x:ByteArray}(h:k8 x=true):x=dP (Cm x):=by
 obtain⟨⟨l⟩⟩:=x;match l,h with
 |[c],_=>rfl
theorem T7(l:List UInt8)(c:UInt8):Fu (l.map dP) (dP c)=plc l c:=by
 induction l with
 |nil=>rfl
 |cons a l ih =>
  show(if aX (dP a) (dP c)=true then 0 else Fu (l.map dP) (dP c)+1)=if a=c then 0 else plc l c+1
  by_cases h:a=c
  .rw[if_pos h,if_pos (by rw[h];exact aT _)]
  .rw[if_neg h,if_neg,ih];intro e;have:=a8.1 e;simp only[dP,ByteArray.mk.injEq,Array.mk.injEq,List.cons.injEq,and_true]at this;exact h this
theorem Hg(l:List UInt8)(c:UInt8):eC true (l.map dP) (dP c)=(put l c).map dP:=by
 have h1:=wO l c;unfold eC put amI;rw[T7];simp only[length_map,Bool.true_and];by_cases h:plc l c=l.length
 .rw[if_pos h,if_pos (by rw[h];simp)];simp
 .rw[if_neg h,if_neg];rw[if_pos (by omega)];simp
def B8(ws:List ByteArray)(s:PS):Prop :=
 s.failed=false->aeE ws s.pos=false/\SQ ws s.pos=s.vars.map dP/\SP ws s.pos=s.hid.map dP
def dZ(ws:List ByteArray)(F:PS->PS):Prop:=∀s,B8 ws s->B8 ws (F s)
theorem qQ(ws:List ByteArray)(s:PS):B8 ws s.fail:=λh=>(by cases h)
theorem DU{ws:List ByteArray}{s:PS}(h:s.failed=false):pk ws s=ws[s.pos]?.getD em:=by
 unfold pk;rw[if_neg (by simp[h])];rfl
theorem E1{ws:List ByteArray}{s:PS}{k:ByteArray}(h:bK ws k s=true):pk ws s=k:=a8.1 h
theorem XX{ws:List ByteArray}{n:Nat}(hl:aK (ws[n]?.getD em)=false)(hu:k8 (ws[n]?.getD em)=false):SQ ws (n+1)=SQ ws n/\SP ws (n+1)=SP ws n:=by
 constructor
 .show eC (aK (ws[n]?.getD em)&&!aeE ws n) _ _=_;rw[hl];rfl
 .show eC (k8 (ws[n]?.getD em)) _ _=_;rw[hu];rfl
theorem dO{ws:List ByteArray}{s:PS}{k:ByteArray}(h:B8 ws s)(ha:bK ws k s=true)(hl:aK k=false)(hu:k8 k=false)(hd:k≠a6):B8 ws s.adv:=by
 intro hf;have yj:s.failed=false:=hf;have hk:=(DU (ws:=ws) yj).symm.trans (E1 ha);obtain⟨_,h2,h3⟩:=h yj;have hn:=XX (ws:=ws) (n:=s.pos) (by rw[hk];exact hl) (by rw[hk];exact hu);refine⟨?_,hn.1.trans h2,hn.2.trans h3⟩;show aX (ws[s.pos]?.getD em) a6=false;rw[hk];exact bj hd
theorem gM{ws:List ByteArray}{k:ByteArray}(hl:aK k=false)(hu:k8 k=false)(hd:k≠a6):dZ ws (aF ws k):=by
 intro s h;unfold aF;by_cases ha:bK ws k s=true
 .rw[if_pos ha];exact dO h ha hl hu hd
 .rw[if_neg ha];exact qQ _ _
theorem Dx{ws:List ByteArray}{s:PS}(h:B8 ws s)(ha:bK ws iM s=true):B8 ws (aF ws kN s.adv):=by
 unfold aF;by_cases hb:bK ws kN s.adv=true
 .rw[if_pos hb];intro hf;have yj:s.failed=false:=hf;have mJ:s.adv.failed=false:=hf;have hk:ws[s.pos]?.getD em=a6:=(DU (ws:=ws) yj).symm.trans (E1 ha);have mK:ws[s.pos+1]?.getD em=nW:=(DU (ws:=ws) mJ).symm.trans (E1 hb);obtain⟨_,h2,h3⟩:=h yj;have hn:=XX (ws:=ws) (n:=s.pos) (by rw[hk];rfl) (by rw[hk];rfl);refine⟨?_,?_,?_⟩
  .show aX (ws[s.pos+1]?.getD em) a6=false;rw[mK];exact bj (aq (by simp[nW,a6]))
  .show eC (aK (ws[s.pos+1]?.getD em)&&!(aX (ws[s.pos]?.getD em) a6)) (SQ ws (s.pos+1)) _=_;rw[hk,aT,Bool.not_true,Bool.and_false];exact hn.1.trans h2
  .show eC (k8 (ws[s.pos+1]?.getD em)) (SP ws (s.pos+1)) _=_;rw[mK];exact hn.2.trans h3
 .rw[if_neg hb];exact qQ _ _
theorem qW{ws:List ByteArray}:dZ ws (bD ws):=by
 intro s h;unfold bD;by_cases hl:aK (pk ws s)=true
 .rw[if_pos hl];intro hf;have yj:s.failed=false:=hf;obtain⟨h1,h2,h3⟩:=h yj;have hk:=DU (ws:=ws) yj;rw[hk]at hl;have ho:=Bf hl;refine⟨?_,?_,?_⟩
  .show aX (ws[s.pos]?.getD em) a6=false;exact bj (eX hl rfl)
  .show eC (aK (ws[s.pos]?.getD em)&&!aeE ws s.pos) (SQ ws s.pos) (ws[s.pos]?.getD em)=(put s.vars (Cm (pk ws s))).map dP;rw[h1,hl,h2,hk];conv=>lhs;rw[ho]
   exact Hg _ _
  .show eC (k8 (ws[s.pos]?.getD em)) (SP ws s.pos) _=_;rw[Bg _ hl];exact h3
 .rw[if_neg hl];exact qQ _ _
theorem nj{ws:List ByteArray}:dZ ws (b9 ws):=by
 intro s h;unfold b9;by_cases ha:bK ws kt s=true
 .rw[if_pos ha];exact dO h ha rfl rfl (aq (by simp[kt,a6]))
 .rw[if_neg ha];exact qW s h
theorem ut{ws:List ByteArray}:dZ ws (fJ ws):=by
 intro s h;unfold fJ;by_cases hl:k8 (pk ws s)=true
 .rw[if_pos hl];intro hf;have yj:s.failed=false:=hf;obtain⟨h1,h2,h3⟩:=h yj;have hk:=DU (ws:=ws) yj;rw[hk]at hl;have ho:=GO hl;have jN:aK (ws[s.pos]?.getD em)=false:=by
   cases hx:aK (ws[s.pos]?.getD em) with
   |false=>rfl
   |true=>rw[Bg _ hx]at hl;cases hl
  refine⟨?_,?_,?_⟩
  .show aX (ws[s.pos]?.getD em) a6=false;exact bj (RJ hl rfl)
  .show eC (aK (ws[s.pos]?.getD em)&&!aeE ws s.pos) (SQ ws s.pos) (ws[s.pos]?.getD em)=_;rw[jN];exact h2
  .show eC (k8 (ws[s.pos]?.getD em)) (SP ws s.pos) (ws[s.pos]?.getD em)=(put s.hid (Cm (pk ws s))).map dP;rw[hl,h3,hk];conv=>lhs;rw[ho]
   exact Hg _ _
 .rw[if_neg hl];exact nj s h
theorem eW{ws:List ByteArray}{k:ByteArray}{A B:PS->PS}(hA:∀s,B8 ws s->bK ws k s=true->B8 ws (A s))(hB:dZ ws B):dZ ws (λs=>if bK ws k s then A s else B s):=by
 intro s h;dsimp only;by_cases ha:bK ws k s=true
 .rw[if_pos ha];exact hA s h ha
 .rw[if_neg ha];exact hB s h
theorem X7{ws:List ByteArray}:dZ ws (aF ws gj):=gM rfl rfl (aq (by simp[gj,a6]))
theorem RY{ws:List ByteArray}:dZ ws (aF ws iU):=gM rfl rfl (aq (by simp[iU,a6]))
theorem aci{ws:List ByteArray}:dZ ws (aF ws ni):=gM rfl rfl (aq (by simp[ni,a6]))
theorem xTo{ws:List ByteArray}:dZ ws (aF ws XP):=gM rfl rfl (aq (by simp[XP,a6]))
theorem xEq{ws:List ByteArray}:dZ ws (aF ws gT):=gM rfl rfl (aq (by simp[gT,a6]))
theorem ahF{ws:List ByteArray}:dZ ws (aF ws jb):=gM rfl rfl (aq (by simp[jb,a6]))
theorem xLB{ws:List ByteArray}:dZ ws (aF ws mB):=gM rfl rfl (aq (by simp[mB,a6]))
theorem xRB{ws:List ByteArray}:dZ ws (aF ws k6):=gM rfl rfl (aq (by simp[k6,a6]))
theorem xIf{ws:List ByteArray}:dZ ws (aF ws mc):=gM rfl rfl (aq (by simp[mc,a6]))
theorem acj{ws:List ByteArray}:dZ ws (aF ws bO):=gM rfl rfl (aq (by simp[bO,a6]))
theorem ahE{ws:List ByteArray}:dZ ws (aF ws fO):=gM rfl rfl (aq (by simp[fO,a6]))
theorem PZ{ws:List ByteArray}:dZ ws (fA ws) :=
 eW (λ_ h ha=>dO h ha rfl rfl (aq (by simp[gT,a6]))) (eW (λ_ h ha=>dO h ha rfl rfl (aq (by simp[tr,a6]))) xTo)
theorem U4{ws:List ByteArray}:dZ ws (Be ws):=λ_ h=>RY _ (ut _ (aci _ (ut _ (X7 _ h))))
theorem IT{ws:List ByteArray}:dZ ws (eI ws) :=
 eW (λ_ h ha=>dO h ha rfl rfl (aq (by simp[pV,a6]))) (eW (λ_ h ha=>U4 _ (dO h ha rfl rfl (aq (by simp[IS,a6])))) (λ_ h=>ut _ (PZ _ (ut _ h))))
theorem PY{ws:List ByteArray}(n:Nat):dZ ws (λs=>(jj ws n s).2):=by
 induction n with
 |zero=>exact λ_ h=>h
 |succ n ih =>
  intro s h;simp only[jj];by_cases ha:bK ws dD s=true
  .rw[if_pos ha];exact ih _ (IT _ (dO h ha rfl rfl (aq (by simp[dD,a6]))))
  .rw[if_neg ha];exact h
theorem IU{ws:List ByteArray}:dZ ws (rG ws):=λs h=>PY (ws.length+1) _ (IT s h)
theorem PX{ws:List ByteArray}:dZ ws (yT ws):=eW (λ_ h ha=>dO h ha rfl rfl (aq (by simp[tr,a6]))) xEq
theorem U2{ws:List ByteArray}:dZ ws (tE ws):=eW (λ_ h ha=>dO h ha rfl rfl (aq (by simp[dD,a6]))) (λ_ h=>nj _ (PX _ (qW _ h)))
theorem IV{ws:List ByteArray}:dZ ws (gz ws):=λs h=>(show B8 ws (Mz ws s) from RY _ (U2 _ (X7 _ h)))
theorem UY{ws:List ByteArray}:dZ ws (oP ws):=by
 refine eW (λ_ h ha=>dO h ha rfl rfl (aq (by simp[oX,a6]))) (λs h=>?_);by_cases ha:Es ws s=true
 .rw[if_pos ha];unfold Es at ha;simp only[Bool.and_eq_true]at ha;exact Dx (nj s h) ha.2
 .rw[if_neg ha];exact nj s h
theorem U8{ws:List ByteArray}:dZ ws (iu ws):=by
 refine eW (λ_ h ha=>dO h ha rfl rfl (aq (by simp[ic,a6]))) (eW (λ_ h ha=>qW _ (dO h ha rfl rfl (aq (by simp[ja,a6])))) (λs h=>?_));by_cases ha:bK ws iM (bD ws s)=true
 .rw[if_pos ha];exact nj _ (xEq _ (Dx (qW s h) ha))
 .rw[if_neg ha];exact UY _ (xEq _ (qW s h))
theorem U7{ws:List ByteArray}:dZ ws (rJ ws):=λs h=>(show B8 ws (aF ws jb (iu ws s)) from ahF _ (U8 s h))
theorem U5{ws:List ByteArray}{blk:PS->PS}(hb:dZ ws blk):dZ ws (xV blk ws):=λs h=>(show B8 ws (ny blk ws s) from hb _ (IV _ (acj s h)))
theorem U0{ws:List ByteArray}{blk:PS->PS}(hb:dZ ws blk):dZ ws (pN blk ws):=by
 intro s h;have h1:B8 ws (cI blk ws s):=hb _ (IV _ (xIf s h));unfold pN;by_cases ha:bK ws iN (cI blk ws s)=true
 .rw[if_pos ha];exact(show B8 ws (blk (lP s.nodes.length (cI blk ws s))) from hb _ (show B8 ws (cI blk ws s).adv from dO h1 ha rfl rfl (aq (by simp[iN,a6]))))
 .rw[if_neg ha];exact h1
theorem U1{ws:List ByteArray}{blk:PS->PS}(hb:dZ ws blk):dZ ws (kw blk ws):=eW (λs h _=>U0 hb s h) (eW (λs h _=>U5 hb s h) U7)
theorem U3{ws:List ByteArray}{c:PS->PS}(hc:dZ ws c)(n:Nat):dZ ws (jg c ws n):=by
 induction n with
 |zero=>exact λ_ h=>h
 |succ n ih =>
  intro s h;simp only[jg];split
  .exact h
  .exact ih _ (hc s h)
theorem UZ{ws:List ByteArray}(f:Nat):dZ ws (cL ws f):=by
 induction f with
 |zero=>exact λ_ h=>h
 |succ f ih=>exact λs h=>xRB _ (U3 (U1 ih) _ _ (xLB s h))
theorem U6{ws:List ByteArray}:dZ ws (fy ws):=by
 intro s h;have h1:B8 ws (EO ws s):=(show B8 ws (cL ws (ws.length+1) (rG ws (aF ws fO s))) from UZ _ _ (IU _ (ahE s h)));unfold fy;split
 .exact h1
 .exact qQ _ _
theorem IP(ws:List ByteArray):B8 ws bt:=λ_=>⟨rfl,rfl,rfl⟩
