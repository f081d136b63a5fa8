import Derived.Test.YtciihepbeacppaaGreatM23
namespace Go.Proofs.YtciihepbeacppaaGreat
open Go.RowKit List
set_option linter.unusedVariables false
theorem a8{x k:ByteArray}:aX x k=true↔x=k:=by
 constructor
 .intro h;have h1:x.toList=k.toList:=by simpa[aX] using h
  rw[ByteArray.toList_eq,ByteArray.toList_eq]at h1;obtain⟨⟨a⟩⟩:=x;obtain⟨⟨b⟩⟩:=k;simp only at h1;rw[h1]
 .rintro rfl;simp[aX]
theorem bm{x k:ByteArray}(h:x≠k):aX x k=false:=by
 cases hk:aX x k with
 |false=>rfl
 |true=>exact absurd (a8.1 hk) h
theorem aT(k:ByteArray):aX k k=true:=a8.2 rfl
theorem eY{x k:ByteArray}(h:aK x=true)(hk:aK k=false):x≠k:=by
 rintro rfl;rw[h]at hk;cases hk
theorem aq{x k:ByteArray}(h:x.data.toList≠k.data.toList):x≠k:=λe=>h (by rw[e])
theorem nD{r q:List ByteArray}:CA r=some q↔∃x,aK x=true/\r=x::q:=by
 cases r with
 |nil=>simp[CA]
 |cons y r =>
  show(if aK y=true then some r else none)=some q↔_;by_cases h:aK y=true
  .rw[if_pos h];exact⟨λe=>by cases e;exact⟨y,h,rfl⟩,λ⟨x,_,e⟩=>by cases e;rfl⟩
  .rw[if_neg h];exact⟨λe=>(by cases e),λ⟨x,hx,e⟩=>by cases e;exact absurd hx h⟩
theorem oB{r q:List ByteArray}:kY r=some q↔∃x,(x=cD\/aK x=true)/\r=x::q:=by
 cases r with
 |nil=>simp[kY,gu,CA]
 |cons y r =>
  show(if aX y cD=true then some r else CA (y::r))=some q↔_;by_cases h:aX y cD=true
  .rw[if_pos h];exact⟨λe=>by cases e;exact⟨y,zq0 (a8.1 h),rfl⟩,λ⟨x,_,e⟩=>by cases e;rfl⟩
  .rw[if_neg h,nD];constructor
   .rintro⟨x,hx,e⟩;exact⟨x,zq1 hx,e⟩
   .rintro⟨x,hx|hx,e⟩
    .cases e;exact absurd (a8.2 hx) h
    .exact⟨x,hx,e⟩
theorem f7{k:ByteArray}{r q:List ByteArray}:lT k r=some q↔r=k::q:=by
 rw[jZ];exact⟨λ⟨x,hx,e⟩=>by rw[e,a8.1 hx],λe=>⟨k,aT k,e⟩⟩
theorem rg(k:ByteArray)(q:List ByteArray):lT k (k::q)=some q:=f7.2 rfl
theorem zB{r q:List ByteArray}:Lz r=some q↔∃x,(x=bT\/x=kX)/\r=x::q:=by
 cases r with
 |nil=>simp[Lz,gu,lT]
 |cons y r =>
  show(if aX y kX=true then some r else lT bT (y::r))=some q↔_;by_cases h:aX y kX=true
  .rw[if_pos h];exact⟨λe=>by cases e;exact⟨y,zq1 (a8.1 h),rfl⟩,λ⟨x,_,e⟩=>by cases e;rfl⟩
  .rw[if_neg h,f7];constructor
   .intro e;exact⟨bT,zq0 rfl,e⟩
   .rintro⟨x,hx|hx,e⟩
    .rw[e,hx]
    .cases e;exact absurd (a8.2 hx) h
def pD(l:List ByteArray):Prop :=
 ∀R:List ByteArray->Prop,R [bK]->(∀{a b c:ByteArray},aK a=true->(b=bT\/b=kX)->(c=cD\/aK c=true)->R [a,b,c])->R l
theorem pD.star:pD [bK]:=λ_ h _=>h
theorem pD.two{a b c:ByteArray}(ha:aK a=true)(hb:b=bT\/b=kX)(hc:c=cD\/aK c=true):pD [a,b,c]:=λ_ _ h=>h ha hb hc
theorem pD.ind {motive:(l:List ByteArray)->pD l->Prop} (star:motive [bK] pD.star)
  (two:∀{a b c:ByteArray} (ha:aK a=true) (hb:b=bT\/b=kX) (hc:c=cD\/aK c=true),motive [a,b,c] (pD.two ha hb hc)) {l:List ByteArray} (h:pD l):motive l h:=by
 obtain⟨_,h2⟩:=h (λl=>∃h,motive l h) ⟨_,star⟩ (λha hb hc=>⟨_,two ha hb hc⟩);exact h2
theorem aje{l:List ByteArray}:rcB l=true↔pD l:=by
 constructor
 .intro h;match l,h with
  |[a],h=>rw[a8.1 (show aX a bK=true from h)];exact pD.star
  |[a,b,c],h =>
   simp only[rcB,Bool.and_eq_true,Bool.or_eq_true,a8]at h;exact pD.two h.1.1 h.2 (h.1.2.symm)
 .intro h;cases h using pD.ind with
  |star=>exact aT _
  |two ha hb hc=>simp only[rcB,Bool.and_eq_true,Bool.or_eq_true,a8];exact⟨⟨ha,hc.symm⟩,hb⟩
theorem DR{r q:List ByteArray}:pCo r=some q↔∃c,pD c/\r=c++q:=by
 constructor
 .intro h;cases r with
  |nil=>simp[pCo,gu,CA]at h
  |cons y r =>
   change (if aX y bK=true then some r else ((CA (y::r)).bind Lz).bind kY)=some q at h
   by_cases h1:aX y bK=true
   .rw[if_pos h1]at h;cases h;rw[a8.1 h1];exact⟨_,pD.star,rfl⟩
   .rw[if_neg h1]at h;obtain⟨r2,h,h3⟩:=Option.bind_eq_some_iff.1 h;obtain⟨r1,h1,h2⟩:=Option.bind_eq_some_iff.1 h;obtain⟨a,ha,e⟩:=nD.1 h1;obtain⟨b,hb,rfl⟩:=zB.1 h2;obtain⟨c,hc,rfl⟩:=oB.1 h3;exact⟨_,pD.two ha hb hc,e⟩
 .rintro⟨c,hc,rfl⟩;cases hc using pD.ind with
  |star=>show(if aX bK bK=true then some q else _)=some q;rw[if_pos (aT _)]
  |@two a b c ha hb hc =>
   show(if aX a bK=true then some (b::c::q) else ((CA (a::b::c::q)).bind Lz).bind kY)=some q;rw[if_neg (by rw[bm (eY ha rfl)];simp),nD.2 ⟨a,ha,rfl⟩,Option.bind_some,zB.2 ⟨b,hb,rfl⟩,Option.bind_some,oB.2 ⟨c,hc,rfl⟩]
theorem DV{r q:List ByteArray}:pTs r=some q↔∃c,pD c/\r=uF::(c++sU::q):=by
 constructor
 .intro h;unfold pTs at h;obtain⟨r2,h,h3⟩:=Option.bind_eq_some_iff.1 h;obtain⟨r1,h1,h2⟩:=Option.bind_eq_some_iff.1 h;obtain⟨c,hc,rfl⟩:=DR.1 h2;have e3:=f7.1 h3;subst e3;exact⟨c,hc,f7.1 h1⟩
 .rintro⟨c,hc,rfl⟩;show((lT uF (uF::(c++sU::q))).bind pCo).bind (lT sU)=some q;rw[rg,Option.bind_some,DR.2 ⟨c,hc,rfl⟩,Option.bind_some,rg]
def lj(l:List ByteArray):Prop :=
 ∀R:List ByteArray->Prop,R [aD]->(∀{b:ByteArray},aK b=true->R [fM,b])->(∀{a c:ByteArray},aK a=true->(c=lD\/c=cD\/aK c=true)->R [a,bT,c]) ->
  (∀{a c:ByteArray},aK a=true->aK c=true->R [a,bT,c,a6,nW])->(∀{a e:ByteArray},aK a=true->(e=cD\/aK e=true)->R [a,a6,nW,bT,e])->R l
theorem lj.skip:lj [aD]:=λ_ h _ _ _ _=>h
theorem lj.free{b:ByteArray}(hb:aK b=true):lj [fM,b]:=λ_ _ h _ _ _=>h hb
theorem lj.val{a c:ByteArray}(ha:aK a=true)(hc:c=lD\/c=cD\/aK c=true):lj [a,bT,c]:=λ_ _ _ h _ _=>h ha hc
theorem lj.load{a c:ByteArray}(ha:aK a=true)(hc:aK c=true):lj [a,bT,c,a6,nW]:=λ_ _ _ _ h _=>h ha hc
theorem lj.store{a e:ByteArray}(ha:aK a=true)(he:e=cD\/aK e=true):lj [a,a6,nW,bT,e]:=λ_ _ _ _ _ h=>h ha he
theorem lj.ind {motive:(l:List ByteArray)->lj l->Prop} (skip:motive [aD] lj.skip) (free:∀{b:ByteArray} (hb:aK b=true),motive [fM,b] (lj.free hb))
  (val:∀{a c:ByteArray} (ha:aK a=true) (hc:c=lD\/c=cD\/aK c=true),motive [a,bT,c] (lj.val ha hc)) (load:∀{a c:ByteArray} (ha:aK a=true) (hc:aK c=true),motive [a,bT,c,a6,nW] (lj.load ha hc))
  (store:∀{a e:ByteArray} (ha:aK a=true) (he:e=cD\/aK e=true),motive [a,a6,nW,bT,e] (lj.store ha he)) {l:List ByteArray} (h:lj l):motive l h:=by
 obtain⟨_,h2⟩:=h (λl=>∃h,motive l h) ⟨_,skip⟩ (λhb=>⟨_,free hb⟩) (λha hc=>⟨_,val ha hc⟩) (λha hc=>⟨_,load ha hc⟩) (λha he=>⟨_,store ha he⟩);exact h2
theorem Zc:aX a6 bT=false:=bm (aq (by simp[a6,bT]))
theorem QB{r q:List ByteArray}(h:(pAs r).bind (lT fF)=some q):(∃c,(c=lD\/c=cD\/aK c=true)/\r=c::fF::q)\/∃c,aK c=true/\r=c::a6::nW::fF::q:=by
 cases r with
 |nil=>simp[pAs,gu,kY,CA]at h
 |cons c r =>
  obtain⟨r1,h1,h2⟩:=Option.bind_eq_some_iff.1 h;have e2:=f7.1 h2;change (if aX c lD=true then some r else if (!(aX c cD)&&(match kY (c::r) with|some q=>gu a6 q|none=>false))=true then (kY (c::r)).bind (λq=>lT nW q.tail) else kY (c::r))=some r1 at h1
  by_cases hn:aX c lD=true
  .rw[if_pos hn]at h1;cases h1;exact zq0 ⟨c,zq0 (a8.1 hn),by rw[e2]⟩
  .rw[if_neg hn]at h1;cases hp:kY (c::r) with
   |none=>rw[hp]at h1;simp at h1
   |some r2 =>
    obtain⟨x,hx,e⟩:=oB.1 hp;cases e
    rw[hp]at h1;dsimp only at h1;by_cases hd:(!(aX c cD)&&gu a6 r)=true
    .rw[if_pos hd]at h1;simp only[Option.bind_some]at h1;have e1:=f7.1 h1;rw[e2]at e1;simp only[Bool.and_eq_true,Bool.not_eq_true']at hd;right;refine⟨c,?_,?_⟩
     .rcases hx with rfl|hx
      .rw[aT]at hd;cases hd.1
      .exact hx
     .cases r with
      |nil=>cases hd.2
      |cons y r=>rw[a8.1 (show aX y a6=true from hd.2)];simp only[tail_cons]at e1;rw[e1]
    .rw[if_neg hd]at h1;cases h1
     exact zq0 ⟨c,zq1 hx,by rw[e2]⟩
theorem GJ{r q:List ByteArray}(h:(pSi r).bind (lT jd)=some q):∃p,lj p/\r=p++fF::q:=by
 cases r with
 |nil=>simp[pSi,gu,CA]at h
 |cons a r =>
  obtain⟨r1,h1,h2⟩:=Option.bind_eq_some_iff.1 h;have e2:r1=fF::q:=f7.1 h2;change (if aX a aD=true then some r else if aX a fM=true then CA r else (CA (a::r)).bind VD)=some r1 at h1
  by_cases hs:aX a aD=true
  .rw[if_pos hs]at h1;cases h1;rw[a8.1 hs,e2];exact⟨_,lj.skip,rfl⟩
  .rw[if_neg hs]at h1;by_cases hf:aX a fM=true
   .rw[if_pos hf]at h1;obtain⟨b,hb,rfl⟩:=nD.1 h1;rw[a8.1 hf,e2];exact⟨_,lj.free hb,rfl⟩
   .rw[if_neg hf]at h1;obtain⟨r2,h3,h4⟩:=Option.bind_eq_some_iff.1 h1;obtain⟨x,ha,e⟩:=nD.1 h3;cases e
    cases r with
    |nil=>simp[VD,gu,lT]at h4
    |cons b r =>
     change (if aX b a6=true then (((lT nW r).bind (lT bT)).bind kY) else (lT bT (b::r)).bind pAs)=some r1 at h4
     by_cases hd:aX b a6=true
     .rw[if_pos hd]at h4;obtain⟨r3,h5,h6⟩:=Option.bind_eq_some_iff.1 h4;obtain⟨r4,h7,h8⟩:=Option.bind_eq_some_iff.1 h5;obtain⟨e,he,rfl⟩:=oB.1 h6;have e7:=f7.1 h7;have e8:=f7.1 h8;subst e8;subst e7;rw[a8.1 hd,e2];exact⟨_,lj.store ha he,rfl⟩
     .rw[if_neg hd]at h4;obtain⟨r3,h5,h6⟩:=Option.bind_eq_some_iff.1 h4;have e5:=f7.1 h5;cases e5
      have h7:(pAs r).bind (lT fF)=some q:=(by rw[h6,Option.bind_some];exact f7.2 e2);rcases QB h7 with⟨c,hc,rfl⟩|⟨c,hc,rfl⟩
      .exact⟨_,lj.val ha hc,rfl⟩
      .exact⟨_,lj.load ha hc,rfl⟩
theorem Rh:aX fF a6=false:=bm (aq (by simp[a6,fF]))
theorem Ig:aX bT a6=false:=bm (aq (by simp[a6,bT]))
theorem Vu:aX cD lD=false:=bm (aq (by simp[cD,lD]))
theorem Ky:aX fM aD=false:=bm (aq (by simp[fM,aD]))
def iD(l:List ByteArray)(k:Nat):Prop :=
 ∀R:List ByteArray->Nat->Prop,R [] 0->(∀{p r:List ByteArray} {k:Nat},lj p->R r k->R (p++fF::r) (k+1)) ->
  (∀{c b r:List ByteArray} {j k:Nat},pD c->R b j->R r k->R (yD::uF::(c++sU::eg::(b++gC::r))) (j+2+k))->(∀{c b r:List ByteArray} {j k:Nat},pD c->R b j->R r k->R (ts::uF::(c++sU::eg::(b++gC::r))) (j+1+k)) ->
  (∀{c b d r:List ByteArray} {j i k:Nat},pD c->R b j->R d i->R r k->R (ts::uF::(c++sU::eg::(b++gC::rF::eg::(d++gC::r)))) (j+2+i+k))->R l k
theorem iD.nil:iD [] 0:=λ_ h _ _ _ _=>h
theorem iD.sim{p r:List ByteArray}{k:Nat}(hp:lj p)(hr:iD r k):iD (p++fF::r) (k+1):=λR h1 h2 h3 h4 h5=>h2 hp (hr R h1 h2 h3 h4 h5)
theorem iD.whl{c b r:List ByteArray}{j k:Nat}(hc:pD c)(hb:iD b j)(hr:iD r k):iD (yD::uF::(c++sU::eg::(b++gC::r))) (j+2+k):=λR h1 h2 h3 h4 h5=>h3 hc (hb R h1 h2 h3 h4 h5) (hr R h1 h2 h3 h4 h5)
theorem iD.ife{c b r:List ByteArray}{j k:Nat}(hc:pD c)(hb:iD b j)(hr:iD r k):iD (ts::uF::(c++sU::eg::(b++gC::r))) (j+1+k):=λR h1 h2 h3 h4 h5=>h4 hc (hb R h1 h2 h3 h4 h5) (hr R h1 h2 h3 h4 h5)
theorem iD.ifl{c b d r:List ByteArray}{j i k:Nat}(hc:pD c)(hb:iD b j)(hd:iD d i)(hr:iD r k):iD (ts::uF::(c++sU::eg::(b++gC::rF::eg::(d++gC::r)))) (j+2+i+k):=λR h1 h2 h3 h4 h5=>h5 hc (hb R h1 h2 h3 h4 h5) (hd R h1 h2 h3 h4 h5) (hr R h1 h2 h3 h4 h5)
theorem iD.ind {motive:(l:List ByteArray)->(k:Nat)->iD l k->Prop} (nil:motive [] 0 iD.nil) (sim:∀{p r:List ByteArray} {k:Nat} (hp:lj p) (hr:iD r k),motive r k hr->motive _ _ (iD.sim hp hr))
  (whl:∀{c b r:List ByteArray} {j k:Nat} (hc:pD c) (hb:iD b j) (hr:iD r k),motive b j hb->motive r k hr->motive _ _ (iD.whl hc hb hr))
  (ife:∀{c b r:List ByteArray} {j k:Nat} (hc:pD c) (hb:iD b j) (hr:iD r k),motive b j hb->motive r k hr->motive _ _ (iD.ife hc hb hr))
  (ifl:∀{c b d r:List ByteArray} {j i k:Nat} (hc:pD c) (hb:iD b j) (hd:iD d i) (hr:iD r k),motive b j hb->motive d i hd->motive r k hr->motive _ _ (iD.ifl hc hb hd hr))
  {l:List ByteArray} {k:Nat} (h:iD l k):motive l k h:=by
 obtain⟨_,h2⟩:=h (λl k=>∃h,motive l k h) ⟨_,nil⟩ (λhp ⟨hr,ih⟩=>⟨_,sim hp hr ih⟩) (λhc ⟨hb,ib⟩ ⟨hr,ir⟩=>⟨_,whl hc hb hr ib ir⟩) (λhc ⟨hb,ib⟩ ⟨hr,ir⟩=>⟨_,ife hc hb hr ib ir⟩) (λhc ⟨hb,ib⟩ ⟨hd,id⟩ ⟨hr,ir⟩=>⟨_,ifl hc hb hd hr ib id ir⟩);exact h2
theorem ej{f g:List ByteArray->Option (List ByteArray × Nat)}{r p:List ByteArray}{n:Nat}:Ed f g r=some (p,n)↔∃q k j,f r=some (q,k)/\g q=some (p,j)/\n=k+j:=by
 unfold Ed;cases hf:f r with
 |none=>simp
 |some qk =>
  obtain⟨q,k⟩:=qk;dsimp only;cases hg:g q with
  |none =>
   constructor
   .intro h;cases h
   .rintro⟨q',k',j,e,h,_⟩;cases e;rw[hg]at h;cases h
  |some pj =>
   obtain⟨p',j⟩:=pj;constructor
   .intro h;cases h;exact⟨q,k,j,rfl,hg,rfl⟩
   .rintro⟨q',k',j',e,h,rfl⟩;cases e;rw[hg]at h;cases h;rfl
theorem om{f:List ByteArray->Option (List ByteArray)}{r p:List ByteArray}{n:Nat}:n0 f r=some (p,n)↔f r=some p/\n=0:=by
 unfold n0;cases f r with
 |none=>simp
 |some q=>simp only[Option.map_some,Option.some.injEq,Prod.mk.injEq];exact⟨λh=>⟨h.1,h.2.symm⟩,λh=>⟨h.1,h.2.symm⟩⟩
theorem Bw{f:List ByteArray->Option (List ByteArray)}{r p:List ByteArray}{n:Nat}:n1 f r=some (p,n)↔f r=some p/\n=1:=by
 unfold n1;cases f r with
 |none=>simp
 |some q=>simp only[Option.map_some,Option.some.injEq,Prod.mk.injEq];exact⟨λh=>⟨h.1,h.2.symm⟩,λh=>⟨h.1,h.2.symm⟩⟩
theorem Df{k:ByteArray}{r:List ByteArray}(h:gu k r=true):r=k::r.tail:=by
 cases r with
 |nil=>cases h
 |cons x r=>rw[a8.1 (show aX x k=true from h)];rfl
theorem DS{k:ByteArray}{pb:List ByteArray->Option (List ByteArray × Nat)}{r q:List ByteArray}{n:Nat}:
  pHd k pb r=some (q,n)↔∃c t j,pD c/\r=k::uF::(c++sU::t)/\pb t=some (q,j)/\n=1+j:=by
 unfold pHd;rw[ej];constructor
 .rintro⟨t,a,j,h1,h2,rfl⟩;obtain⟨s,a1,a2,h3,h4,rfl⟩:=ej.1 h1;obtain⟨h5,rfl⟩:=om.1 h3;obtain⟨h6,rfl⟩:=Bw.1 h4;obtain⟨c,hc,rfl⟩:=DV.1 h6;exact⟨c,t,j,hc,f7.1 h5,h2,by omega⟩
 .rintro⟨c,t,j,hc,rfl,h2,rfl⟩;exact⟨t,0+1,j,ej.2 ⟨_,0,1,om.2 ⟨rg _ _,rfl⟩,Bw.2 ⟨DV.2 ⟨c,hc,rfl⟩,rfl⟩,rfl⟩,h2,by omega⟩
def BlR(r q:List ByteArray)(k:Nat):Prop:=∃b,iD b k/\r=eg::(b++gC::q)
theorem NE{pb:List ByteArray->Option (List ByteArray × Nat)}{f:Nat}(hb:∀r q k,r.length<f->pb r=some (q,k)->BlR r q k)(n:Nat):
  ∀r q k,r.length<f->pCs (pCm pb) n r=some (q,k)->∃b,iD b k/\r=b++q:=by
 induction n with
 |zero=>intro r q k _ h;cases h;exact⟨[],iD.nil,rfl⟩
 |succ n ih =>
  intro r q k hr h;simp only[pCs]at h;by_cases h1:gu k8 r=true
  .rw[if_pos h1]at h;cases h;exact⟨[],iD.nil,rfl⟩
  .rw[if_neg h1]at h;obtain⟨t,a,j,h2,h3,rfl⟩:=ej.1 h;unfold pCm at h2;by_cases hi:gu md r=true
   .rw[if_pos hi]at h2;obtain⟨u,a1,a2,h4,h5,rfl⟩:=ej.1 h2;obtain⟨c,v,j1,hc,rfl,h6,rfl⟩:=DS.1 h4;have hv:v.length<f:=(by simp only[length_cons,length_append]at hr;omega);obtain⟨b,hB,rfl⟩:=hb _ _ _ hv h6;unfold pEl at h5;by_cases he:gu iP u=true
    .rw[if_pos he]at h5;obtain⟨u1,b1,b2,h7,h8,rfl⟩:=ej.1 h5;cases h7
     have hu:=Df he;rw[hu]at hr hv ⊢;obtain⟨d,hD,e8⟩:=hb _ _ _ (by simp only[length_cons,length_append]at hv;omega) h8;rw[e8]at hr ⊢;obtain⟨z,hZ,rfl⟩:=ih _ _ _ (by simp only[length_cons,length_append]at hr;omega) h3;have hK:=iD.ifl hc hB hD hZ;rw[show j1+2+b2+j=1+j1+(1+b2)+j by omega]at hK;exact⟨_,hK,by simp[show md=ts from rfl,show iP=rF from rfl]⟩
    .rw[if_neg he]at h5;cases h5
     obtain⟨z,hZ,rfl⟩:=ih _ _ _ (by simp only[length_cons,length_append]at hr;omega) h3;have hK:=iD.ife hc hB hZ;rw[show j1+1+j=1+j1+0+j by omega]at hK;exact⟨_,hK,by simp[show md=ts from rfl]⟩
   .rw[if_neg hi]at h2;by_cases hw:gu bP r=true
    .rw[if_pos hw]at h2;obtain⟨u,a1,a2,h4,h5,rfl⟩:=ej.1 h2;obtain⟨c,v,j1,hc,rfl,h6,rfl⟩:=DS.1 h4;have hv:v.length<f:=(by simp only[length_cons,length_append]at hr;omega);obtain⟨b,hB,rfl⟩:=hb _ _ _ hv h6;cases h5
     obtain⟨z,hZ,rfl⟩:=ih _ _ _ (by simp only[length_cons,length_append]at hr;omega) h3;have hK:=iD.whl hc hB hZ;rw[show j1+2+j=1+j1+1+j by omega]at hK;exact⟨_,hK,by simp[show bP=yD from rfl]⟩
    .rw[if_neg hw]at h2;obtain⟨h4,rfl⟩:=Bw.1 h2;obtain⟨p,hp,rfl⟩:=GJ h4;obtain⟨z,hZ,rfl⟩:=ih _ _ _ (by simp only[length_cons,length_append]at hr;omega) h3;have hK:=iD.sim hp hZ;rw[show j+1=1+j by omega]at hK;exact⟨_,hK,by simp⟩
theorem Nm(N:Nat)(f:Nat):∀r q k,r.length<f->pBl N f r=some (q,k)->BlR r q k:=by
 induction f with
 |zero=>intro r q k h;omega
 |succ f ih =>
  intro r q k hr h;simp only[pBl]at h;obtain⟨t,a1,a2,h1,h2,rfl⟩:=ej.1 h;obtain⟨u,b1,b2,h3,h4,rfl⟩:=ej.1 h1;obtain⟨h5,rfl⟩:=om.1 h3;obtain⟨h6,rfl⟩:=om.1 h2;have e3:=f7.1 h5;have e2:=f7.1 h6;subst e3;obtain⟨b,hB,rfl⟩:=NE ih N u t b2 (by simp only[length_cons]at hr;omega) h4;subst e2;exact⟨b,by rw[show 0+b2+0=b2 by omega];exact hB,rfl⟩
theorem uO{p:List ByteArray}(h:lj p){k:ByteArray}(h1:k≠aD)(h2:k≠fM)(h3:k≠bT)(h4:k≠lD)(h5:k≠cD)(h6:k≠a6)(h7:k≠nW)(h8:aK k=false):∀x∈p,x≠k:=by
 intro x hx;cases h using lj.ind with
 |skip=>simp only[mem_cons,not_mem_nil,or_false]at hx;subst hx;exact h1.symm
 |free hb =>
  simp only[mem_cons,not_mem_nil,or_false]at hx;rcases hx with rfl|rfl
  .exact h2.symm
  .exact eY hb h8
 |val ha hc =>
  simp only[mem_cons,not_mem_nil,or_false]at hx;rcases hx with rfl|rfl|rfl
  .exact eY ha h8
  .exact h3.symm
  .rcases hc with rfl|rfl|hc
   .exact h4.symm
   .exact h5.symm
   .exact eY hc h8
 |load ha hc =>
  simp only[mem_cons,not_mem_nil,or_false]at hx;rcases hx with rfl|rfl|rfl|rfl|rfl
  .exact eY ha h8
  .exact h3.symm
  .exact eY hc h8
  .exact h6.symm
  .exact h7.symm
 |store ha hc =>
  simp only[mem_cons,not_mem_nil,or_false]at hx;rcases hx with rfl|rfl|rfl|rfl|rfl
  .exact eY ha h8
  .exact h6.symm
  .exact h7.symm
  .exact h3.symm
  .rcases hc with rfl|hc
   .exact h5.symm
   .exact eY hc h8
theorem Rn{p:List ByteArray}(h:lj p):∀x∈p,x≠gC:=uO h (aq (by simp[gC,aD])) (aq (by simp[gC,fM])) (aq (by simp[gC,bT])) (aq (by simp[gC,lD])) (aq (by simp[gC,cD])) (aq (by simp[gC,a6])) (aq (by simp[gC,nW])) rfl
theorem Rl{p:List ByteArray}(h:lj p):∀x∈p,x≠ts:=uO h (aq (by simp[ts,aD])) (aq (by simp[ts,fM])) (aq (by simp[ts,bT])) (aq (by simp[ts,lD])) (aq (by simp[ts,cD])) (aq (by simp[ts,a6])) (aq (by simp[ts,nW])) rfl
theorem Ro{p:List ByteArray}(h:lj p):∀x∈p,x≠yD:=uO h (aq (by simp[yD,aD])) (aq (by simp[yD,fM])) (aq (by simp[yD,bT])) (aq (by simp[yD,lD])) (aq (by simp[yD,cD])) (aq (by simp[yD,a6])) (aq (by simp[yD,nW])) rfl
theorem abW{p:List ByteArray}(h:lj p):∀x∈p,x≠rF:=uO h (aq (by simp[rF,aD])) (aq (by simp[rF,fM])) (aq (by simp[rF,bT])) (aq (by simp[rF,lD])) (aq (by simp[rF,cD])) (aq (by simp[rF,a6])) (aq (by simp[rF,nW])) rfl
theorem xi{p:List ByteArray}(h:lj p):∃x t,p=x::t:=by cases h using lj.ind <;> exact⟨_,_,rfl⟩
theorem ahE:aX yD ts=false:=bm (aq (by simp[yD,ts]))
theorem XQ:aX ts rF=false:=bm (aq (by simp[rF,ts]))
theorem ahD:aX yD rF=false:=bm (aq (by simp[rF,yD]))
theorem D3:aX gC rF=false:=bm (aq (by simp[rF,gC]))
theorem Nn{b:List ByteArray}{k:Nat}(h:iD b k){q:List ByteArray}(hq:gu rF q=false):gu rF (b++q)=false:=by
 induction h using iD.ind with
 |nil=>exact hq
 |sim hp _ =>
  obtain⟨x,t,rfl⟩:=xi hp;exact bm (abW hp x (by simp))
 |whl=>exact ahD
 |ife=>exact XQ
 |ifl=>exact XQ
theorem ahC:yD≠gC:=aq (by simp[yD,gC])
theorem XP:ts≠gC:=aq (by simp[ts,gC])
def oL(l:List ByteArray):Prop :=
 ∀R:List ByteArray->Prop,(∀{p:List ByteArray},yB p=true->R p)->(∀{p r:List ByteArray},yB p=true->R r->R (p++bK::r))->R l
theorem oL.one{p:List ByteArray}(hp:yB p=true):oL p:=λ_ h _=>h hp
theorem oL.more{p r:List ByteArray}(hp:yB p=true)(hr:oL r):oL (p++bK::r):=λR h1 h2=>h2 hp (hr R h1 h2)
theorem oL.ind{motive:(l:List ByteArray)->oL l->Prop}(one:∀{p:List ByteArray} (hp:yB p=true),motive p (oL.one hp))(more:∀{p r:List ByteArray} (hp:yB p=true) (hr:oL r),motive r hr->motive _ (oL.more hp hr)){l:List ByteArray}(h:oL l):motive l h:=by
 obtain⟨_,h2⟩:=h (λl=>∃h,motive l h) (λhp=>⟨_,one hp⟩) (λhp ⟨hr,ih⟩=>⟨_,more hp hr ih⟩);exact h2
theorem RL{x k:ByteArray}(h:lg x=true)(hk:lg k=false):x≠k:=by
 rintro rfl;rw[h]at hk;cases hk
theorem lC{x k:ByteArray}(h:gQ x=true)(h1:k≠cD)(h2:aK k=false)(h3:lg k=false):x≠k:=by
 simp only[gQ,Bool.or_eq_true,a8]at h;rcases h with(rfl|h)|h
 .exact h1.symm
 .exact eY h h2
 .exact RL h h3
theorem CK{p:List ByteArray}(h:yB p=true){k:ByteArray}(h1:k≠qA)(h2:k≠EM)(h3:k≠uF)(h4:k≠WW)(h5:k≠sU)(h6:k≠bT)(h7:k≠kX)(h8:k≠LT)(h9:k≠cD)(hl:aK k=false)(hu:lg k=false):∀x∈p,x≠k:=by
 intro x hx;match p,h with
 |[a],h =>
  have e:=a8.1 (show aX a qA=true from h);simp only[mem_cons,not_mem_nil,or_false]at hx;subst hx;subst e;exact h1.symm
 |[a,b,c],h =>
  simp only[yB,Bool.and_eq_true,Bool.or_eq_true,a8]at h;obtain⟨⟨ha,hc⟩,hb⟩:=h;simp only[mem_cons,not_mem_nil,or_false]at hx;rcases hx with rfl|rfl|rfl
  .exact lC ha h9 hl hu
  .rcases hb with(rfl|rfl)|rfl
   .exact h6.symm
   .exact h7.symm
   .exact h8.symm
  .exact lC hc h9 hl hu
 |[a,b,c,d,e,f],h =>
  simp only[yB,Bool.and_eq_true,a8]at h;obtain⟨⟨⟨⟨rfl,rfl⟩,rfl⟩,rfl⟩,hc,he⟩:=h;simp only[mem_cons,not_mem_nil,or_false]at hx;rcases hx with rfl|rfl|rfl|rfl|rfl|rfl
  .exact h2.symm
  .exact h3.symm
  .exact lC hc h9 hl hu
  .exact h4.symm
  .exact lC he h9 hl hu
  .exact h5.symm
theorem yS{p:List ByteArray}(h:yB p=true):∀x∈p,x≠bK :=
 CK h (aq (by simp[bK,qA])) (aq (by simp[bK,EM])) (aq (by simp[bK,uF])) (aq (by simp[bK,WW])) (aq (by simp[bK,sU])) (aq (by simp[bK,bT])) (aq (by simp[bK,kX])) (aq (by simp[bK,LT])) (aq (by simp[bK,cD])) rfl rfl
theorem Ht{p:List ByteArray}(h:yB p=true):∀x∈p,x≠eg :=
 CK h (aq (by simp[eg,qA])) (aq (by simp[eg,EM])) (aq (by simp[eg,uF])) (aq (by simp[eg,WW])) (aq (by simp[eg,sU])) (aq (by simp[eg,bT])) (aq (by simp[eg,kX])) (aq (by simp[eg,LT])) (aq (by simp[eg,cD])) rfl rfl
theorem aeL{f:List ByteArray}(h:oL f):∀x∈f,x≠eg:=by
 induction h using oL.ind with
 |one h=>exact Ht h
 |more h _ ih =>
  intro x hx;simp only[mem_append,mem_cons]at hx;rcases hx with hx|rfl|hx
  .exact Ht h x hx
  .exact aq (by simp[bK,eg])
  .exact ih x hx
theorem Kt(n:Nat):∀{r q:List ByteArray},LE n r=some q->r=q\/∃f,oL f/\r=bK::(f++q):=by
 induction n with
 |zero=>intro r q h;cases h;exact zq0 rfl
 |succ n ih =>
  intro r q h;simp only[LE]at h;by_cases h1:gu dE r=true
  .rw[if_pos h1]at h;obtain⟨t,h2,h3⟩:=Option.bind_eq_some_iff.1 h;obtain⟨p,hp,e⟩:=jY.1 h2;have e1:r=bK::r.tail:=Df h1;right;rcases ih h3 with rfl|⟨f,hf,rfl⟩
   .exact⟨p,oL.one hp,by rw[e1,e]⟩
   .exact⟨_,oL.more hp hf,by rw[e1,e];simp⟩
  .rw[if_neg h1]at h;cases h;exact zq0 rfl
theorem Ku{n:Nat}{r q:List ByteArray}(h:LF n r=some q):∃f,oL f/\r=f++q:=by
 obtain⟨t,h2,h3⟩:=Option.bind_eq_some_iff.1 h;obtain⟨p,hp,rfl⟩:=jY.1 h2;rcases Kt n h3 with rfl|⟨f,hf,rfl⟩
 .exact⟨p,oL.one hp,rfl⟩
 .exact⟨_,oL.more hp hf,by simp⟩
theorem Ay{f:List ByteArray}(h:oL f):∀{n:Nat} {q:List ByteArray},f.length<=n->gu bK q=false->LF n (f++q)=some q:=by
 induction h using oL.ind with
 |one hp =>
  intro n q _ hq;unfold LF;rw[jY.2 ⟨_,hp,rfl⟩,Option.bind_some];cases n with
  |zero=>rfl
  |succ n=>show(if gu bK q=true then _ else some q)=_;rw[hq,if_neg (by simp)]
 |@more p r hp _ ih =>
  intro n q hn hq;simp only[length_append,length_cons]at hn;unfold LF;rw[append_assoc,jY.2 ⟨_,hp,rfl⟩,Option.bind_some];cases n with
  |zero=>omega
  |succ n =>
   show(if aX bK bK=true then (pC (r++q)).bind (LE n) else _)=_;rw[if_pos (aT _)];exact ih (by omega) hq
theorem JE{p:List ByteArray}(h:∀x∈p,x≠bK):∀cur r,SU cur (p++r)=SU (cur++p) r:=by
 induction p with
 |nil=>intro cur r;rw[append_nil];rfl
 |cons x p ih =>
  intro cur r;show SU cur (x::(p++r))=_;simp only[SU];rw[bm (h x (by simp)),if_neg (by simp),ih (λy hy=>h y (by simp[hy])),append_assoc];rfl
def Pgm(ws:List ByteArray)(k:Nat):Prop:=∃f b,oL f/\iD b k/\ws=dS::(f++eg::(b++[gC]))
theorem QN{ws:List ByteArray}{k:Nat}(h:pPr ws.length ws=some ([],k)):∃j,Pgm ws j/\k=j+1:=by
 unfold pPr at h;obtain⟨t,a1,a2,h1,h2,rfl⟩:=ej.1 h;obtain⟨u,b1,b2,h3,h4,rfl⟩:=ej.1 h1;obtain⟨v,c1,c2,h5,h6,rfl⟩:=ej.1 h3;obtain⟨h7,rfl⟩:=om.1 h5;obtain⟨h8,rfl⟩:=om.1 h6;cases h2
 have e7:ws=dS::v:=f7.1 h7;obtain⟨f,hf,e8⟩:=Ku h8;have hl:u.length<ws.length+1:=by rw[e7,e8];simp only[length_cons,length_append];omega
 obtain⟨b,hB,e9⟩:=Nm _ _ _ _ _ hl h4;exact⟨b2,⟨f,b,hf,hB,by rw[e7,e8,e9]⟩,by omega⟩
def dQ(c:UInt8):ByteArray:=⟨#[c]⟩
theorem Bi{x:ByteArray}(h:aK x=true):x=dQ (Cq x):=by
 obtain⟨⟨l⟩⟩:=x;match l,h with
 |[c],_=>rfl
theorem GQ{x:ByteArray}(h:lg x=true):x=dQ (Cq x):=by
 obtain⟨⟨l⟩⟩:=x;match l,h with
 |[c],_=>rfl
theorem T9(l:List UInt8)(c:UInt8):Fw (l.map dQ) (dQ c)=plc l c:=by
 induction l with
 |nil=>rfl
 |cons a l ih =>
  show(if aX (dQ a) (dQ c)=true then 0 else Fw (l.map dQ) (dQ c)+1)=if a=c then 0 else plc l c+1
  by_cases h:a=c
  .rw[if_pos h,if_pos (by rw[h];exact aT _)]
  .rw[if_neg h,if_neg,ih];intro e;have:=a8.1 e;simp only[dQ,ByteArray.mk.injEq,Array.mk.injEq,List.cons.injEq,and_true]at this;exact h this
theorem Hi(l:List UInt8)(c:UInt8):eE true (l.map dQ) (dQ c)=(put l c).map dQ:=by
 have h1:=wS l c;unfold eE put amI;rw[T9];simp only[length_map,Bool.true_and];by_cases h:plc l c=l.length
 .rw[if_pos h,if_pos (by rw[h];simp)];simp
 .rw[if_neg h,if_neg];rw[if_pos (by omega)];simp
def Cb(ws:List ByteArray)(s:PS):Prop :=
 s.failed=false->aeG ws s.pos=false/\ST ws s.pos=s.vars.map dQ/\SR ws s.pos=s.hid.map dQ
def d7(ws:List ByteArray)(F:PS->PS):Prop:=∀s,Cb ws s->Cb ws (F s)
theorem qQ(ws:List ByteArray)(s:PS):Cb ws s.fail:=λh=>(by cases h)
theorem DW{ws:List ByteArray}{s:PS}(h:s.failed=false):pk ws s=ws[s.pos]?.getD em:=by
 unfold pk;rw[if_neg (by simp[h])];rfl
theorem E3{ws:List ByteArray}{s:PS}{k:ByteArray}(h:bL ws k s=true):pk ws s=k:=a8.1 h
theorem XZ{ws:List ByteArray}{n:Nat}(hl:aK (ws[n]?.getD em)=false)(hu:lg (ws[n]?.getD em)=false):ST ws (n+1)=ST ws n/\SR ws (n+1)=SR ws n:=by
 constructor
 .show eE (aK (ws[n]?.getD em)&&!aeG ws n) _ _=_;rw[hl];rfl
 .show eE (lg (ws[n]?.getD em)) _ _=_;rw[hu];rfl
theorem dP{ws:List ByteArray}{s:PS}{k:ByteArray}(h:Cb ws s)(ha:bL ws k s=true)(hl:aK k=false)(hu:lg k=false)(hd:k≠a6):Cb ws s.adv:=by
 intro hf;have ym:s.failed=false:=hf;have hk:=(DW (ws:=ws) ym).symm.trans (E3 ha);obtain⟨_,h2,h3⟩:=h ym;have hn:=XZ (ws:=ws) (n:=s.pos) (by rw[hk];exact hl) (by rw[hk];exact hu);refine⟨?_,hn.1.trans h2,hn.2.trans h3⟩;show aX (ws[s.pos]?.getD em) a6=false;rw[hk];exact bm hd
theorem gN{ws:List ByteArray}{k:ByteArray}(hl:aK k=false)(hu:lg k=false)(hd:k≠a6):d7 ws (aF ws k):=by
 intro s h;unfold aF;by_cases ha:bL ws k s=true
 .rw[if_pos ha];exact dP h ha hl hu hd
 .rw[if_neg ha];exact qQ _ _
theorem Dz{ws:List ByteArray}{s:PS}(h:Cb ws s)(ha:bL ws iO s=true):Cb ws (aF ws kN s.adv):=by
 unfold aF;by_cases hb:bL ws kN s.adv=true
 .rw[if_pos hb];intro hf;have ym:s.failed=false:=hf;have mK:s.adv.failed=false:=hf;have hk:ws[s.pos]?.getD em=a6:=(DW (ws:=ws) ym).symm.trans (E3 ha);have mL:ws[s.pos+1]?.getD em=nW:=(DW (ws:=ws) mK).symm.trans (E3 hb);obtain⟨_,h2,h3⟩:=h ym;have hn:=XZ (ws:=ws) (n:=s.pos) (by rw[hk];rfl) (by rw[hk];rfl);refine⟨?_,?_,?_⟩
  .show aX (ws[s.pos+1]?.getD em) a6=false;rw[mL];exact bm (aq (by simp[nW,a6]))
  .show eE (aK (ws[s.pos+1]?.getD em)&&!(aX (ws[s.pos]?.getD em) a6)) (ST ws (s.pos+1)) _=_;rw[hk,aT,Bool.not_true,Bool.and_false];exact hn.1.trans h2
  .show eE (lg (ws[s.pos+1]?.getD em)) (SR ws (s.pos+1)) _=_;rw[mL];exact hn.2.trans h3
 .rw[if_neg hb];exact qQ _ _
theorem qW{ws:List ByteArray}:d7 ws (bE ws):=by
 intro s h;unfold bE;by_cases hl:aK (pk ws s)=true
 .rw[if_pos hl];intro hf;have ym:s.failed=false:=hf;obtain⟨h1,h2,h3⟩:=h ym;have hk:=DW (ws:=ws) ym;rw[hk]at hl;have ho:=Bi hl;refine⟨?_,?_,?_⟩
  .show aX (ws[s.pos]?.getD em) a6=false;exact bm (eY hl rfl)
  .show eE (aK (ws[s.pos]?.getD em)&&!aeG ws s.pos) (ST ws s.pos) (ws[s.pos]?.getD em)=(put s.vars (Cq (pk ws s))).map dQ;rw[h1,hl,h2,hk];conv=>lhs;rw[ho]
   exact Hi _ _
  .show eE (lg (ws[s.pos]?.getD em)) (SR ws s.pos) _=_;rw[Bj _ hl];exact h3
 .rw[if_neg hl];exact qQ _ _
theorem nk{ws:List ByteArray}:d7 ws (cd ws):=by
 intro s h;unfold cd;by_cases ha:bL ws kw s=true
 .rw[if_pos ha];exact dP h ha rfl rfl (aq (by simp[kw,a6]))
 .rw[if_neg ha];exact qW s h
theorem ux{ws:List ByteArray}:d7 ws (fK ws):=by
 intro s h;unfold fK;by_cases hl:lg (pk ws s)=true
 .rw[if_pos hl];intro hf;have ym:s.failed=false:=hf;obtain⟨h1,h2,h3⟩:=h ym;have hk:=DW (ws:=ws) ym;rw[hk]at hl;have ho:=GQ hl;have jP:aK (ws[s.pos]?.getD em)=false:=by
   cases hx:aK (ws[s.pos]?.getD em) with
   |false=>rfl
   |true=>rw[Bj _ hx]at hl;cases hl
  refine⟨?_,?_,?_⟩
  .show aX (ws[s.pos]?.getD em) a6=false;exact bm (RL hl rfl)
  .show eE (aK (ws[s.pos]?.getD em)&&!aeG ws s.pos) (ST ws s.pos) (ws[s.pos]?.getD em)=_;rw[jP];exact h2
  .show eE (lg (ws[s.pos]?.getD em)) (SR ws s.pos) (ws[s.pos]?.getD em)=(put s.hid (Cq (pk ws s))).map dQ;rw[hl,h3,hk];conv=>lhs;rw[ho]
   exact Hi _ _
 .rw[if_neg hl];exact nk s h
theorem eX{ws:List ByteArray}{k:ByteArray}{A B:PS->PS}(hA:∀s,Cb ws s->bL ws k s=true->Cb ws (A s))(hB:d7 ws B):d7 ws (λs=>if bL ws k s then A s else B s):=by
 intro s h;dsimp only;by_cases ha:bL ws k s=true
 .rw[if_pos ha];exact hA s h ha
 .rw[if_neg ha];exact hB s h
theorem X9{ws:List ByteArray}:d7 ws (aF ws gl):=gN rfl rfl (aq (by simp[gl,a6]))
theorem R3{ws:List ByteArray}:d7 ws (aF ws iW):=gN rfl rfl (aq (by simp[iW,a6]))
theorem ack{ws:List ByteArray}:d7 ws (aF ws nj):=gN rfl rfl (aq (by simp[nj,a6]))
theorem xTo{ws:List ByteArray}:d7 ws (aF ws XR):=gN rfl rfl (aq (by simp[XR,a6]))
theorem xEq{ws:List ByteArray}:d7 ws (aF ws gU):=gN rfl rfl (aq (by simp[gU,a6]))
theorem ahH{ws:List ByteArray}:d7 ws (aF ws jd):=gN rfl rfl (aq (by simp[jd,a6]))
theorem xLB{ws:List ByteArray}:d7 ws (aF ws mC):=gN rfl rfl (aq (by simp[mC,a6]))
theorem xRB{ws:List ByteArray}:d7 ws (aF ws k8):=gN rfl rfl (aq (by simp[k8,a6]))
theorem xIf{ws:List ByteArray}:d7 ws (aF ws md):=gN rfl rfl (aq (by simp[md,a6]))
theorem acl{ws:List ByteArray}:d7 ws (aF ws bP):=gN rfl rfl (aq (by simp[bP,a6]))
theorem ahG{ws:List ByteArray}:d7 ws (aF ws fP):=gN rfl rfl (aq (by simp[fP,a6]))
theorem P1{ws:List ByteArray}:d7 ws (fB ws) :=
 eX (λ_ h ha=>dP h ha rfl rfl (aq (by simp[gU,a6]))) (eX (λ_ h ha=>dP h ha rfl rfl (aq (by simp[tt,a6]))) xTo)
theorem U6{ws:List ByteArray}:d7 ws (Bh ws):=λ_ h=>R3 _ (ux _ (ack _ (ux _ (X9 _ h))))
theorem IV{ws:List ByteArray}:d7 ws (eJ ws) :=
 eX (λ_ h ha=>dP h ha rfl rfl (aq (by simp[pW,a6]))) (eX (λ_ h ha=>U6 _ (dP h ha rfl rfl (aq (by simp[IU,a6])))) (λ_ h=>ux _ (P1 _ (ux _ h))))
theorem P0{ws:List ByteArray}(n:Nat):d7 ws (λs=>(jl ws n s).2):=by
 induction n with
 |zero=>exact λ_ h=>h
 |succ n ih =>
  intro s h;simp only[jl];by_cases ha:bL ws dE s=true
  .rw[if_pos ha];exact ih _ (IV _ (dP h ha rfl rfl (aq (by simp[dE,a6]))))
  .rw[if_neg ha];exact h
theorem IW{ws:List ByteArray}:d7 ws (rH ws):=λs h=>P0 (ws.length+1) _ (IV s h)
theorem PZ{ws:List ByteArray}:d7 ws (yW ws):=eX (λ_ h ha=>dP h ha rfl rfl (aq (by simp[tt,a6]))) xEq
theorem U4{ws:List ByteArray}:d7 ws (tI ws):=eX (λ_ h ha=>dP h ha rfl rfl (aq (by simp[dE,a6]))) (λ_ h=>nk _ (PZ _ (qW _ h)))
theorem IX{ws:List ByteArray}:d7 ws (gB ws):=λs h=>(show Cb ws (MB ws s) from R3 _ (U4 _ (X9 _ h)))
theorem U0{ws:List ByteArray}:d7 ws (oQ ws):=by
 refine eX (λ_ h ha=>dP h ha rfl rfl (aq (by simp[oY,a6]))) (λs h=>?_);by_cases ha:Eu ws s=true
 .rw[if_pos ha];unfold Eu at ha;simp only[Bool.and_eq_true]at ha;exact Dz (nk s h) ha.2
 .rw[if_neg ha];exact nk s h
theorem Va{ws:List ByteArray}:d7 ws (ix ws):=by
 refine eX (λ_ h ha=>dP h ha rfl rfl (aq (by simp[ie,a6]))) (eX (λ_ h ha=>qW _ (dP h ha rfl rfl (aq (by simp[jc,a6])))) (λs h=>?_));by_cases ha:bL ws iO (bE ws s)=true
 .rw[if_pos ha];exact nk _ (xEq _ (Dz (qW s h) ha))
 .rw[if_neg ha];exact U0 _ (xEq _ (qW s h))
theorem U9{ws:List ByteArray}:d7 ws (rK ws):=λs h=>(show Cb ws (aF ws jd (ix ws s)) from ahH _ (Va s h))
theorem U7{ws:List ByteArray}{blk:PS->PS}(hb:d7 ws blk):d7 ws (xY blk ws):=λs h=>(show Cb ws (nz blk ws s) from hb _ (IX _ (acl s h)))
theorem U2{ws:List ByteArray}{blk:PS->PS}(hb:d7 ws blk):d7 ws (pO blk ws):=by
 intro s h;have h1:Cb ws (cJ blk ws s):=hb _ (IX _ (xIf s h));unfold pO;by_cases ha:bL ws iP (cJ blk ws s)=true
 .rw[if_pos ha];exact(show Cb ws (blk (lQ s.nodes.length (cJ blk ws s))) from hb _ (show Cb ws (cJ blk ws s).adv from dP h1 ha rfl rfl (aq (by simp[iP,a6]))))
 .rw[if_neg ha];exact h1
theorem U3{ws:List ByteArray}{blk:PS->PS}(hb:d7 ws blk):d7 ws (kA blk ws):=eX (λs h _=>U2 hb s h) (eX (λs h _=>U7 hb s h) U9)
theorem U5{ws:List ByteArray}{c:PS->PS}(hc:d7 ws c)(n:Nat):d7 ws (ji c ws n):=by
 induction n with
 |zero=>exact λ_ h=>h
 |succ n ih =>
  intro s h;simp only[ji];split
  .exact h
  .exact ih _ (hc s h)
theorem U1{ws:List ByteArray}(f:Nat):d7 ws (cM ws f):=by
 induction f with
 |zero=>exact λ_ h=>h
 |succ f ih=>exact λs h=>xRB _ (U5 (U3 ih) _ _ (xLB s h))
theorem U8{ws:List ByteArray}:d7 ws (fA ws):=by
 intro s h;have h1:Cb ws (EQ ws s):=(show Cb ws (cM ws (ws.length+1) (rH ws (aF ws fP s))) from U1 _ _ (IW _ (ahG s h)));unfold fA;split
 .exact h1
 .exact qQ _ _
theorem IR(ws:List ByteArray):Cb ws bu:=λ_=>⟨rfl,rfl,rfl⟩
