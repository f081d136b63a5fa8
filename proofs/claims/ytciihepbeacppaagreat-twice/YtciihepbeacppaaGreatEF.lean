import Derived.Test.YtciihepbeacppaaGreatM23
namespace Go.Proofs.YtciihepbeacppaaGreat
open Go.RowKit List
set_option linter.unusedVariables false
theorem aZ{x k:ByteArray}:aV x k=true↔x=k:=by
 constructor
 .intro h;have h1:x.toList=k.toList:=by simpa[aV] using h
  rw[ByteArray.toList_eq,ByteArray.toList_eq]at h1;obtain⟨⟨a⟩⟩:=x;obtain⟨⟨b⟩⟩:=k;simp only at h1;rw[h1]
 .rintro rfl;simp[aV]
theorem bm{x k:ByteArray}(h:x≠k):aV x k=false:=by
 cases hk:aV x k with
 |false=>rfl
 |true=>exact absurd (aZ.1 hk) h
theorem aT(k:ByteArray):aV k k=true:=aZ.2 rfl
theorem dY{x k:ByteArray}(h:aI x=true)(hk:aI k=false):x≠k:=by
 rintro rfl;rw[h]at hk;cases hk
theorem am{x k:ByteArray}(h:x.data.toList≠k.data.toList):x≠k:=λe=>h (by rw[e])
theorem lY{r q:List ByteArray}:zL r=some q↔∃x,aI x=true/\r=x::q:=by
 cases r with
 |nil=>simp[zL]
 |cons y r =>
  show(if aI y=true then some r else none)=some q↔_;by_cases h:aI y=true
  .rw[if_pos h];exact⟨λe=>by cases e;exact⟨y,h,rfl⟩,λ⟨x,_,e⟩=>by cases e;rfl⟩
  .rw[if_neg h];exact⟨λe=>(by cases e),λ⟨x,hx,e⟩=>by cases e;exact absurd hx h⟩
theorem mF{r q:List ByteArray}:jC r=some q↔∃x,(x=b9\/aI x=true)/\r=x::q:=by
 cases r with
 |nil=>simp[jC,fs,zL]
 |cons y r =>
  show(if aV y b9=true then some r else zL (y::r))=some q↔_;by_cases h:aV y b9=true
  .rw[if_pos h];exact⟨λe=>by cases e;exact⟨y,zq0 (aZ.1 h),rfl⟩,λ⟨x,_,e⟩=>by cases e;rfl⟩
  .rw[if_neg h,lY];constructor
   .rintro⟨x,hx,e⟩;exact⟨x,zq1 hx,e⟩
   .rintro⟨x,hx|hx,e⟩
    .cases e;exact absurd (aZ.2 hx) h
    .exact⟨x,hx,e⟩
theorem eR{k:ByteArray}{r q:List ByteArray}:ki k r=some q↔r=k::q:=by
 rw[iT];exact⟨λ⟨x,hx,e⟩=>by rw[e,aZ.1 hx],λe=>⟨k,aT k,e⟩⟩
theorem pq(k:ByteArray)(q:List ByteArray):ki k (k::q)=some q:=eR.2 rfl
theorem wQ{r q:List ByteArray}:ID r=some q↔∃x,(x=bM\/x=jB)/\r=x::q:=by
 cases r with
 |nil=>simp[ID,fs,ki]
 |cons y r =>
  show(if aV y jB=true then some r else ki bM (y::r))=some q↔_;by_cases h:aV y jB=true
  .rw[if_pos h];exact⟨λe=>by cases e;exact⟨y,zq1 (aZ.1 h),rfl⟩,λ⟨x,_,e⟩=>by cases e;rfl⟩
  .rw[if_neg h,eR];constructor
   .intro e;exact⟨bM,zq0 rfl,e⟩
   .rintro⟨x,hx|hx,e⟩
    .rw[e,hx]
    .cases e;exact absurd (aZ.2 hx) h
def nB(l:List ByteArray):Prop :=
 ∀R:List ByteArray->Prop,R [bG]->(∀{a b c:ByteArray},aI a=true->(b=bM\/b=jB)->(c=b9\/aI c=true)->R [a,b,c])->R l
theorem nB.star:nB [bG]:=λ_ h _=>h
theorem nB.two{a b c:ByteArray}(ha:aI a=true)(hb:b=bM\/b=jB)(hc:c=b9\/aI c=true):nB [a,b,c]:=λ_ _ h=>h ha hb hc
theorem nB.ind {motive:(l:List ByteArray)->nB l->Prop} (star:motive [bG] nB.star)
  (two:∀{a b c:ByteArray} (ha:aI a=true) (hb:b=bM\/b=jB) (hc:c=b9\/aI c=true),motive [a,b,c] (nB.two ha hb hc)) {l:List ByteArray} (h:nB l):motive l h:=by
 obtain⟨_,h2⟩:=h (λl=>∃h,motive l h) ⟨_,star⟩ (λha hb hc=>⟨_,two ha hb hc⟩);exact h2
theorem afp{l:List ByteArray}:rcB l=true↔nB l:=by
 constructor
 .intro h;match l,h with
  |[a],h=>rw[aZ.1 (show aV a bG=true from h)];exact nB.star
  |[a,b,c],h =>
   simp only[rcB,Bool.and_eq_true,Bool.or_eq_true,aZ]at h;exact nB.two h.1.1 h.2 (h.1.2.symm)
 .intro h;cases h using nB.ind with
  |star=>exact aT _
  |two ha hb hc=>simp only[rcB,Bool.and_eq_true,Bool.or_eq_true,aZ];exact⟨⟨ha,hc.symm⟩,hb⟩
theorem Bn{r q:List ByteArray}:pCo r=some q↔∃c,nB c/\r=c++q:=by
 constructor
 .intro h;cases r with
  |nil=>simp[pCo,fs,zL]at h
  |cons y r =>
   change (if aV y bG=true then some r else ((zL (y::r)).bind ID).bind jC)=some q at h
   by_cases h1:aV y bG=true
   .rw[if_pos h1]at h;cases h;rw[aZ.1 h1];exact⟨_,nB.star,rfl⟩
   .rw[if_neg h1]at h;obtain⟨r2,h,h3⟩:=Option.bind_eq_some_iff.1 h;obtain⟨r1,h1,h2⟩:=Option.bind_eq_some_iff.1 h;obtain⟨a,ha,e⟩:=lY.1 h1;obtain⟨b,hb,rfl⟩:=wQ.1 h2;obtain⟨c,hc,rfl⟩:=mF.1 h3;exact⟨_,nB.two ha hb hc,e⟩
 .rintro⟨c,hc,rfl⟩;cases hc using nB.ind with
  |star=>show(if aV bG bG=true then some q else _)=some q;rw[if_pos (aT _)]
  |@two a b c ha hb hc =>
   show(if aV a bG=true then some (b::c::q) else ((zL (a::b::c::q)).bind ID).bind jC)=some q;rw[if_neg (by rw[bm (dY ha rfl)];simp),lY.2 ⟨a,ha,rfl⟩,Option.bind_some,wQ.2 ⟨b,hb,rfl⟩,Option.bind_some,mF.2 ⟨c,hc,rfl⟩]
theorem Br{r q:List ByteArray}:pTs r=some q↔∃c,nB c/\r=lw::(c++kS::q):=by
 constructor
 .intro h;unfold pTs at h;obtain⟨r2,h,h3⟩:=Option.bind_eq_some_iff.1 h;obtain⟨r1,h1,h2⟩:=Option.bind_eq_some_iff.1 h;obtain⟨c,hc,rfl⟩:=Bn.1 h2;have e3:=eR.1 h3;subst e3;exact⟨c,hc,eR.1 h1⟩
 .rintro⟨c,hc,rfl⟩;show((ki lw (lw::(c++kS::q))).bind pCo).bind (ki kS)=some q;rw[pq,Option.bind_some,Bn.2 ⟨c,hc,rfl⟩,Option.bind_some,pq]
def k7(l:List ByteArray):Prop :=
 ∀R:List ByteArray->Prop,R [fj]->(∀{b:ByteArray},aI b=true->R [eX,b])->(∀{a c:ByteArray},aI a=true->(c=kG\/c=b9\/aI c=true)->R [a,bM,c]) ->
  (∀{a c:ByteArray},aI a=true->aI c=true->R [a,bM,c,aW,nW])->(∀{a e:ByteArray},aI a=true->(e=b9\/aI e=true)->R [a,aW,nW,bM,e])->R l
theorem k7.skip:k7 [fj]:=λ_ h _ _ _ _=>h
theorem k7.free{b:ByteArray}(hb:aI b=true):k7 [eX,b]:=λ_ _ h _ _ _=>h hb
theorem k7.val{a c:ByteArray}(ha:aI a=true)(hc:c=kG\/c=b9\/aI c=true):k7 [a,bM,c]:=λ_ _ _ h _ _=>h ha hc
theorem k7.load{a c:ByteArray}(ha:aI a=true)(hc:aI c=true):k7 [a,bM,c,aW,nW]:=λ_ _ _ _ h _=>h ha hc
theorem k7.store{a e:ByteArray}(ha:aI a=true)(he:e=b9\/aI e=true):k7 [a,aW,nW,bM,e]:=λ_ _ _ _ _ h=>h ha he
theorem k7.ind {motive:(l:List ByteArray)->k7 l->Prop} (skip:motive [fj] k7.skip) (free:∀{b:ByteArray} (hb:aI b=true),motive [eX,b] (k7.free hb))
  (val:∀{a c:ByteArray} (ha:aI a=true) (hc:c=kG\/c=b9\/aI c=true),motive [a,bM,c] (k7.val ha hc)) (load:∀{a c:ByteArray} (ha:aI a=true) (hc:aI c=true),motive [a,bM,c,aW,nW] (k7.load ha hc))
  (store:∀{a e:ByteArray} (ha:aI a=true) (he:e=b9\/aI e=true),motive [a,aW,nW,bM,e] (k7.store ha he)) {l:List ByteArray} (h:k7 l):motive l h:=by
 obtain⟨_,h2⟩:=h (λl=>∃h,motive l h) ⟨_,skip⟩ (λhb=>⟨_,free hb⟩) (λha hc=>⟨_,val ha hc⟩) (λha hc=>⟨_,load ha hc⟩) (λha he=>⟨_,store ha he⟩);exact h2
theorem Vm:aV aW bM=false:=bm (am (by simp[aW,bM]))
theorem Nf{r q:List ByteArray}(h:(ZN r).bind (ki l9)=some q):(∃c,(c=kG\/c=b9\/aI c=true)/\r=c::l9::q)\/∃c,aI c=true/\r=c::aW::nW::l9::q:=by
 cases r with
 |nil=>simp[ZN,fs,jC,zL]at h
 |cons c r =>
  obtain⟨r1,h1,h2⟩:=Option.bind_eq_some_iff.1 h;have e2:=eR.1 h2;change (if aV c kG=true then some r else if (!(aV c b9)&&(match jC (c::r) with|some q=>fs aW q|none=>false))=true then (jC (c::r)).bind (λq=>ki nW q.tail) else jC (c::r))=some r1 at h1
  by_cases hn:aV c kG=true
  .rw[if_pos hn]at h1;cases h1;exact zq0 ⟨c,zq0 (aZ.1 hn),by rw[e2]⟩
  .rw[if_neg hn]at h1;cases hp:jC (c::r) with
   |none=>rw[hp]at h1;simp at h1
   |some r2 =>
    obtain⟨x,hx,e⟩:=mF.1 hp;cases e
    rw[hp]at h1;dsimp only at h1;by_cases hd:(!(aV c b9)&&fs aW r)=true
    .rw[if_pos hd]at h1;simp only[Option.bind_some]at h1;have e1:=eR.1 h1;rw[e2]at e1;simp only[Bool.and_eq_true,Bool.not_eq_true']at hd;right;refine⟨c,?_,?_⟩
     .rcases hx with rfl|hx
      .rw[aT]at hd;cases hd.1
      .exact hx
     .cases r with
      |nil=>cases hd.2
      |cons y r=>rw[aZ.1 (show aV y aW=true from hd.2)];simp only[tail_cons]at e1;rw[e1]
    .rw[if_neg hd]at h1;cases h1
     exact zq0 ⟨c,zq1 hx,by rw[e2]⟩
theorem DP{r q:List ByteArray}(h:(pSi r).bind (ki ig)=some q):∃p,k7 p/\r=p++l9::q:=by
 cases r with
 |nil=>simp[pSi,fs,zL]at h
 |cons a r =>
  obtain⟨r1,h1,h2⟩:=Option.bind_eq_some_iff.1 h;have e2:r1=l9::q:=eR.1 h2;change (if aV a fj=true then some r else if aV a eX=true then zL r else (zL (a::r)).bind RL)=some r1 at h1
  by_cases hs:aV a fj=true
  .rw[if_pos hs]at h1;cases h1;rw[aZ.1 hs,e2];exact⟨_,k7.skip,rfl⟩
  .rw[if_neg hs]at h1;by_cases hf:aV a eX=true
   .rw[if_pos hf]at h1;obtain⟨b,hb,rfl⟩:=lY.1 h1;rw[aZ.1 hf,e2];exact⟨_,k7.free hb,rfl⟩
   .rw[if_neg hf]at h1;obtain⟨r2,h3,h4⟩:=Option.bind_eq_some_iff.1 h1;obtain⟨x,ha,e⟩:=lY.1 h3;cases e
    cases r with
    |nil=>simp[RL,fs,ki]at h4
    |cons b r =>
     change (if aV b aW=true then (((ki nW r).bind (ki bM)).bind jC) else (ki bM (b::r)).bind ZN)=some r1 at h4
     by_cases hd:aV b aW=true
     .rw[if_pos hd]at h4;obtain⟨r3,h5,h6⟩:=Option.bind_eq_some_iff.1 h4;obtain⟨r4,h7,h8⟩:=Option.bind_eq_some_iff.1 h5;obtain⟨e,he,rfl⟩:=mF.1 h6;have e7:=eR.1 h7;have e8:=eR.1 h8;subst e8;subst e7;rw[aZ.1 hd,e2];exact⟨_,k7.store ha he,rfl⟩
     .rw[if_neg hd]at h4;obtain⟨r3,h5,h6⟩:=Option.bind_eq_some_iff.1 h4;have e5:=eR.1 h5;cases e5
      have h7:(ZN r).bind (ki l9)=some q:=(by rw[h6,Option.bind_some];exact eR.2 e2);rcases Nf h7 with⟨c,hc,rfl⟩|⟨c,hc,rfl⟩
      .exact⟨_,k7.val ha hc,rfl⟩
      .exact⟨_,k7.load ha hc,rfl⟩
theorem NQ:aV l9 aW=false:=bm (am (by simp[aW,l9]))
theorem EG:aV bM aW=false:=bm (am (by simp[aW,bM]))
theorem RD:aV b9 kG=false:=bm (am (by simp[b9,kG]))
theorem He:aV eX fj=false:=bm (am (by simp[eX,fj]))
def fR(l:List ByteArray)(k:Nat):Prop :=
 ∀R:List ByteArray->Nat->Prop,R [] 0->(∀{p r:List ByteArray} {k:Nat},k7 p->R r k->R (p++l9::r) (k+1)) ->
  (∀{c b r:List ByteArray} {j k:Nat},nB c->R b j->R r k->R (rA::lw::(c++kS::cK::(b++dd::r))) (j+2+k))->(∀{c b r:List ByteArray} {j k:Nat},nB c->R b j->R r k->R (mt::lw::(c++kS::cK::(b++dd::r))) (j+1+k)) ->
  (∀{c b d r:List ByteArray} {j i k:Nat},nB c->R b j->R d i->R r k->R (mt::lw::(c++kS::cK::(b++dd::m7::cK::(d++dd::r)))) (j+2+i+k))->R l k
theorem fR.nil:fR [] 0:=λ_ h _ _ _ _=>h
theorem fR.sim{p r:List ByteArray}{k:Nat}(hp:k7 p)(hr:fR r k):fR (p++l9::r) (k+1):=λR h1 h2 h3 h4 h5=>h2 hp (hr R h1 h2 h3 h4 h5)
theorem fR.whl{c b r:List ByteArray}{j k:Nat}(hc:nB c)(hb:fR b j)(hr:fR r k):fR (rA::lw::(c++kS::cK::(b++dd::r))) (j+2+k):=λR h1 h2 h3 h4 h5=>h3 hc (hb R h1 h2 h3 h4 h5) (hr R h1 h2 h3 h4 h5)
theorem fR.ife{c b r:List ByteArray}{j k:Nat}(hc:nB c)(hb:fR b j)(hr:fR r k):fR (mt::lw::(c++kS::cK::(b++dd::r))) (j+1+k):=λR h1 h2 h3 h4 h5=>h4 hc (hb R h1 h2 h3 h4 h5) (hr R h1 h2 h3 h4 h5)
theorem fR.ifl{c b d r:List ByteArray}{j i k:Nat}(hc:nB c)(hb:fR b j)(hd:fR d i)(hr:fR r k):fR (mt::lw::(c++kS::cK::(b++dd::m7::cK::(d++dd::r)))) (j+2+i+k):=λR h1 h2 h3 h4 h5=>h5 hc (hb R h1 h2 h3 h4 h5) (hd R h1 h2 h3 h4 h5) (hr R h1 h2 h3 h4 h5)
theorem fR.ind {motive:(l:List ByteArray)->(k:Nat)->fR l k->Prop} (nil:motive [] 0 fR.nil) (sim:∀{p r:List ByteArray} {k:Nat} (hp:k7 p) (hr:fR r k),motive r k hr->motive _ _ (fR.sim hp hr))
  (whl:∀{c b r:List ByteArray} {j k:Nat} (hc:nB c) (hb:fR b j) (hr:fR r k),motive b j hb->motive r k hr->motive _ _ (fR.whl hc hb hr))
  (ife:∀{c b r:List ByteArray} {j k:Nat} (hc:nB c) (hb:fR b j) (hr:fR r k),motive b j hb->motive r k hr->motive _ _ (fR.ife hc hb hr))
  (ifl:∀{c b d r:List ByteArray} {j i k:Nat} (hc:nB c) (hb:fR b j) (hd:fR d i) (hr:fR r k),motive b j hb->motive d i hd->motive r k hr->motive _ _ (fR.ifl hc hb hd hr))
  {l:List ByteArray} {k:Nat} (h:fR l k):motive l k h:=by
 obtain⟨_,h2⟩:=h (λl k=>∃h,motive l k h) ⟨_,nil⟩ (λhp ⟨hr,ih⟩=>⟨_,sim hp hr ih⟩) (λhc ⟨hb,ib⟩ ⟨hr,ir⟩=>⟨_,whl hc hb hr ib ir⟩) (λhc ⟨hb,ib⟩ ⟨hr,ir⟩=>⟨_,ife hc hb hr ib ir⟩) (λhc ⟨hb,ib⟩ ⟨hd,id⟩ ⟨hr,ir⟩=>⟨_,ifl hc hb hd hr ib id ir⟩);exact h2
theorem dH{f g:List ByteArray->Option (List ByteArray × Nat)}{r p:List ByteArray}{n:Nat}:BG f g r=some (p,n)↔∃q k j,f r=some (q,k)/\g q=some (p,j)/\n=k+j:=by
 unfold BG;cases hf:f r with
 |none=>simp
 |some qk =>
  obtain⟨q,k⟩:=qk;dsimp only;cases hg:g q with
  |none =>
   constructor
   .intro h;cases h
   .rintro⟨q',k',j,e,h,_⟩;cases e;rw[hg]at h;cases h
  |some pj =>
   obtain⟨p',j⟩:=pj;constructor
   .intro h;cases h;exact⟨q,k,j,rfl,hg,rfl⟩
   .rintro⟨q',k',j',e,h,rfl⟩;cases e;rw[hg]at h;cases h;rfl
theorem mB{f:List ByteArray->Option (List ByteArray)}{r p:List ByteArray}{n:Nat}:n0 f r=some (p,n)↔f r=some p/\n=0:=by
 unfold n0;cases f r with
 |none=>simp
 |some q=>simp only[Option.map_some,Option.some.injEq,Prod.mk.injEq];exact⟨λh=>⟨h.1,h.2.symm⟩,λh=>⟨h.1,h.2.symm⟩⟩
theorem yP{f:List ByteArray->Option (List ByteArray)}{r p:List ByteArray}{n:Nat}:n1 f r=some (p,n)↔f r=some p/\n=1:=by
 unfold n1;cases f r with
 |none=>simp
 |some q=>simp only[Option.map_some,Option.some.injEq,Prod.mk.injEq];exact⟨λh=>⟨h.1,h.2.symm⟩,λh=>⟨h.1,h.2.symm⟩⟩
theorem AC{k:ByteArray}{r:List ByteArray}(h:fs k r=true):r=k::r.tail:=by
 cases r with
 |nil=>cases h
 |cons x r=>rw[aZ.1 (show aV x k=true from h)];rfl
theorem Bo{k:ByteArray}{pb:List ByteArray->Option (List ByteArray × Nat)}{r q:List ByteArray}{n:Nat}:
  ZP k pb r=some (q,n)↔∃c t j,nB c/\r=k::lw::(c++kS::t)/\pb t=some (q,j)/\n=1+j:=by
 unfold ZP;rw[dH];constructor
 .rintro⟨t,a,j,h1,h2,rfl⟩;obtain⟨s,a1,a2,h3,h4,rfl⟩:=dH.1 h1;obtain⟨h5,rfl⟩:=mB.1 h3;obtain⟨h6,rfl⟩:=yP.1 h4;obtain⟨c,hc,rfl⟩:=Br.1 h6;exact⟨c,t,j,hc,eR.1 h5,h2,by omega⟩
 .rintro⟨c,t,j,hc,rfl,h2,rfl⟩;exact⟨t,0+1,j,dH.2 ⟨_,0,1,mB.2 ⟨pq _ _,rfl⟩,yP.2 ⟨Br.2 ⟨c,hc,rfl⟩,rfl⟩,rfl⟩,h2,by omega⟩
def BlR(r q:List ByteArray)(k:Nat):Prop:=∃b,fR b k/\r=cK::(b++dd::q)
theorem Kg{pb:List ByteArray->Option (List ByteArray × Nat)}{f:Nat}(hb:∀r q k,r.length<f->pb r=some (q,k)->BlR r q k)(n:Nat):
  ∀r q k,r.length<f->ZO (pCm pb) n r=some (q,k)->∃b,fR b k/\r=b++q:=by
 induction n with
 |zero=>intro r q k _ h;cases h;exact⟨[],fR.nil,rfl⟩
 |succ n ih =>
  intro r q k hr h;simp only[ZO]at h;by_cases h1:fs jG r=true
  .rw[if_pos h1]at h;cases h;exact⟨[],fR.nil,rfl⟩
  .rw[if_neg h1]at h;obtain⟨t,a,j,h2,h3,rfl⟩:=dH.1 h;unfold pCm at h2;by_cases hi:fs kX r=true
   .rw[if_pos hi]at h2;obtain⟨u,a1,a2,h4,h5,rfl⟩:=dH.1 h2;obtain⟨c,v,j1,hc,rfl,h6,rfl⟩:=Bo.1 h4;have hv:v.length<f:=(by simp only[length_cons,length_append]at hr;omega);obtain⟨b,hB,rfl⟩:=hb _ _ _ hv h6;unfold pEl at h5;by_cases he:fs gM u=true
    .rw[if_pos he]at h5;obtain⟨u1,b1,b2,h7,h8,rfl⟩:=dH.1 h5;cases h7
     have hu:=AC he;rw[hu]at hr hv ⊢;obtain⟨d,hD,e8⟩:=hb _ _ _ (by simp only[length_cons,length_append]at hv;omega) h8;rw[e8]at hr ⊢;obtain⟨z,hZ,rfl⟩:=ih _ _ _ (by simp only[length_cons,length_append]at hr;omega) h3;have hK:=fR.ifl hc hB hD hZ;rw[show j1+2+b2+j=1+j1+(1+b2)+j by omega]at hK;exact⟨_,hK,by simp[show kX=mt from rfl,show gM=m7 from rfl]⟩
    .rw[if_neg he]at h5;cases h5
     obtain⟨z,hZ,rfl⟩:=ih _ _ _ (by simp only[length_cons,length_append]at hr;omega) h3;have hK:=fR.ife hc hB hZ;rw[show j1+1+j=1+j1+0+j by omega]at hK;exact⟨_,hK,by simp[show kX=mt from rfl]⟩
   .rw[if_neg hi]at h2;by_cases hw:fs bQ r=true
    .rw[if_pos hw]at h2;obtain⟨u,a1,a2,h4,h5,rfl⟩:=dH.1 h2;obtain⟨c,v,j1,hc,rfl,h6,rfl⟩:=Bo.1 h4;have hv:v.length<f:=(by simp only[length_cons,length_append]at hr;omega);obtain⟨b,hB,rfl⟩:=hb _ _ _ hv h6;cases h5
     obtain⟨z,hZ,rfl⟩:=ih _ _ _ (by simp only[length_cons,length_append]at hr;omega) h3;have hK:=fR.whl hc hB hZ;rw[show j1+2+j=1+j1+1+j by omega]at hK;exact⟨_,hK,by simp[show bQ=rA from rfl]⟩
    .rw[if_neg hw]at h2;obtain⟨h4,rfl⟩:=yP.1 h2;obtain⟨p,hp,rfl⟩:=DP h4;obtain⟨z,hZ,rfl⟩:=ih _ _ _ (by simp only[length_cons,length_append]at hr;omega) h3;have hK:=fR.sim hp hZ;rw[show j+1=1+j by omega]at hK;exact⟨_,hK,by simp⟩
theorem J1(N:Nat)(f:Nat):∀r q k,r.length<f->pBl N f r=some (q,k)->BlR r q k:=by
 induction f with
 |zero=>intro r q k h;omega
 |succ f ih =>
  intro r q k hr h;simp only[pBl]at h;obtain⟨t,a1,a2,h1,h2,rfl⟩:=dH.1 h;obtain⟨u,b1,b2,h3,h4,rfl⟩:=dH.1 h1;obtain⟨h5,rfl⟩:=mB.1 h3;obtain⟨h6,rfl⟩:=mB.1 h2;have e3:=eR.1 h5;have e2:=eR.1 h6;subst e3;obtain⟨b,hB,rfl⟩:=Kg ih N u t b2 (by simp only[length_cons]at hr;omega) h4;subst e2;exact⟨b,by rw[show 0+b2+0=b2 by omega];exact hB,rfl⟩
theorem sd{p:List ByteArray}(h:k7 p){k:ByteArray}(h1:k≠fj)(h2:k≠eX)(h3:k≠bM)(h4:k≠kG)(h5:k≠b9)(h6:k≠aW)(h7:k≠nW)(h8:aI k=false):∀x∈p,x≠k:=by
 intro x hx;cases h using k7.ind with
 |skip=>simp only[mem_cons,not_mem_nil,or_false]at hx;subst hx;exact h1.symm
 |free hb =>
  simp only[mem_cons,not_mem_nil,or_false]at hx;rcases hx with rfl|rfl
  .exact h2.symm
  .exact dY hb h8
 |val ha hc =>
  simp only[mem_cons,not_mem_nil,or_false]at hx;rcases hx with rfl|rfl|rfl
  .exact dY ha h8
  .exact h3.symm
  .rcases hc with rfl|rfl|hc
   .exact h4.symm
   .exact h5.symm
   .exact dY hc h8
 |load ha hc =>
  simp only[mem_cons,not_mem_nil,or_false]at hx;rcases hx with rfl|rfl|rfl|rfl|rfl
  .exact dY ha h8
  .exact h3.symm
  .exact dY hc h8
  .exact h6.symm
  .exact h7.symm
 |store ha hc =>
  simp only[mem_cons,not_mem_nil,or_false]at hx;rcases hx with rfl|rfl|rfl|rfl|rfl
  .exact dY ha h8
  .exact h6.symm
  .exact h7.symm
  .exact h3.symm
  .rcases hc with rfl|hc
   .exact h5.symm
   .exact dY hc h8
theorem Yq{p:List ByteArray}(h:k7 p):∀x∈p,x≠dd:=sd h (am (by simp[dd,fj])) (am (by simp[dd,eX])) (am (by simp[dd,bM])) (am (by simp[dd,kG])) (am (by simp[dd,b9])) (am (by simp[dd,aW])) (am (by simp[dd,nW])) rfl
theorem Yp{p:List ByteArray}(h:k7 p):∀x∈p,x≠mt:=sd h (am (by simp[mt,fj])) (am (by simp[mt,eX])) (am (by simp[mt,bM])) (am (by simp[mt,kG])) (am (by simp[mt,b9])) (am (by simp[mt,aW])) (am (by simp[mt,nW])) rfl
theorem Yr{p:List ByteArray}(h:k7 p):∀x∈p,x≠rA:=sd h (am (by simp[rA,fj])) (am (by simp[rA,eX])) (am (by simp[rA,bM])) (am (by simp[rA,kG])) (am (by simp[rA,b9])) (am (by simp[rA,aW])) (am (by simp[rA,nW])) rfl
theorem Yo{p:List ByteArray}(h:k7 p):∀x∈p,x≠m7:=sd h (am (by simp[m7,fj])) (am (by simp[m7,eX])) (am (by simp[m7,bM])) (am (by simp[m7,kG])) (am (by simp[m7,b9])) (am (by simp[m7,aW])) (am (by simp[m7,nW])) rfl
theorem ud{p:List ByteArray}(h:k7 p):∃x t,p=x::t:=by cases h using k7.ind <;> exact⟨_,_,rfl⟩
theorem adS:aV rA mt=false:=bm (am (by simp[rA,mt]))
theorem T4:aV mt m7=false:=bm (am (by simp[m7,mt]))
theorem adR:aV rA m7=false:=bm (am (by simp[m7,rA]))
theorem Bw:aV dd m7=false:=bm (am (by simp[m7,dd]))
theorem J2{b:List ByteArray}{k:Nat}(h:fR b k){q:List ByteArray}(hq:fs m7 q=false):fs m7 (b++q)=false:=by
 induction h using fR.ind with
 |nil=>exact hq
 |sim hp _ =>
  obtain⟨x,t,rfl⟩:=ud hp;exact bm (Yo hp x (by simp))
 |whl=>exact adR
 |ife=>exact T4
 |ifl=>exact T4
theorem adQ:rA≠dd:=am (by simp[rA,dd])
theorem T1:mt≠dd:=am (by simp[mt,dd])
def nC(l:List ByteArray):Prop :=
 ∀R:List ByteArray->Prop,(∀{p:List ByteArray},vF p=true->R p)->(∀{p r:List ByteArray},vF p=true->R r->R (p++bG::r))->R l
theorem nC.one{p:List ByteArray}(hp:vF p=true):nC p:=λ_ h _=>h hp
theorem nC.more{p r:List ByteArray}(hp:vF p=true)(hr:nC r):nC (p++bG::r):=λR h1 h2=>h2 hp (hr R h1 h2)
theorem nC.ind{motive:(l:List ByteArray)->nC l->Prop}(one:∀{p:List ByteArray} (hp:vF p=true),motive p (nC.one hp))(more:∀{p r:List ByteArray} (hp:vF p=true) (hr:nC r),motive r hr->motive _ (nC.more hp hr)){l:List ByteArray}(h:nC l):motive l h:=by
 obtain⟨_,h2⟩:=h (λl=>∃h,motive l h) (λhp=>⟨_,one hp⟩) (λhp ⟨hr,ih⟩=>⟨_,more hp hr ih⟩);exact h2
theorem Oe{x k:ByteArray}(h:jH x=true)(hk:jH k=false):x≠k:=by
 rintro rfl;rw[h]at hk;cases hk
theorem jU{x k:ByteArray}(h:fN x=true)(h1:k≠b9)(h2:aI k=false)(h3:jH k=false):x≠k:=by
 simp only[fN,Bool.or_eq_true,aZ]at h;rcases h with(rfl|h)|h
 .exact h1.symm
 .exact dY h h2
 .exact Oe h h3
theorem zW{p:List ByteArray}(h:vF p=true){k:ByteArray}(h1:k≠oB)(h2:k≠Ce)(h3:k≠lw)(h4:k≠Tg)(h5:k≠kS)(h6:k≠bM)(h7:k≠jB)(h8:k≠IQ)(h9:k≠b9)(hl:aI k=false)(hu:jH k=false):∀x∈p,x≠k:=by
 intro x hx;match p,h with
 |[a],h =>
  have e:=aZ.1 (show aV a oB=true from h);simp only[mem_cons,not_mem_nil,or_false]at hx;subst hx;subst e;exact h1.symm
 |[a,b,c],h =>
  simp only[vF,Bool.and_eq_true,Bool.or_eq_true,aZ]at h;obtain⟨⟨ha,hc⟩,hb⟩:=h;simp only[mem_cons,not_mem_nil,or_false]at hx;rcases hx with rfl|rfl|rfl
  .exact jU ha h9 hl hu
  .rcases hb with(rfl|rfl)|rfl
   .exact h6.symm
   .exact h7.symm
   .exact h8.symm
  .exact jU hc h9 hl hu
 |[a,b,c,d,e,f],h =>
  simp only[vF,Bool.and_eq_true,aZ]at h;obtain⟨⟨⟨⟨rfl,rfl⟩,rfl⟩,rfl⟩,hc,he⟩:=h;simp only[mem_cons,not_mem_nil,or_false]at hx;rcases hx with rfl|rfl|rfl|rfl|rfl|rfl
  .exact h2.symm
  .exact h3.symm
  .exact jU hc h9 hl hu
  .exact h4.symm
  .exact jU he h9 hl hu
  .exact h5.symm
theorem vW{p:List ByteArray}(h:vF p=true):∀x∈p,x≠bG :=
 zW h (am (by simp[bG,oB])) (am (by simp[bG,Ce])) (am (by simp[bG,lw])) (am (by simp[bG,Tg])) (am (by simp[bG,kS])) (am (by simp[bG,bM])) (am (by simp[bG,jB])) (am (by simp[bG,IQ])) (am (by simp[bG,b9])) rfl rfl
theorem Es{p:List ByteArray}(h:vF p=true):∀x∈p,x≠cK :=
 zW h (am (by simp[cK,oB])) (am (by simp[cK,Ce])) (am (by simp[cK,lw])) (am (by simp[cK,Tg])) (am (by simp[cK,kS])) (am (by simp[cK,bM])) (am (by simp[cK,jB])) (am (by simp[cK,IQ])) (am (by simp[cK,b9])) rfl rfl
theorem aa2{f:List ByteArray}(h:nC f):∀x∈f,x≠cK:=by
 induction h using nC.ind with
 |one h=>exact Es h
 |more h _ ih =>
  intro x hx;simp only[mem_append,mem_cons]at hx;rcases hx with hx|rfl|hx
  .exact Es h x hx
  .exact am (by simp[bG,cK])
  .exact ih x hx
theorem G9(n:Nat):∀{r q:List ByteArray},IE n r=some q->r=q\/∃f,nC f/\r=bG::(f++q):=by
 induction n with
 |zero=>intro r q h;cases h;exact zq0 rfl
 |succ n ih =>
  intro r q h;simp only[IE]at h;by_cases h1:fs cY r=true
  .rw[if_pos h1]at h;obtain⟨t,h2,h3⟩:=Option.bind_eq_some_iff.1 h;obtain⟨p,hp,e⟩:=iS.1 h2;have e1:r=bG::r.tail:=AC h1;right;rcases ih h3 with rfl|⟨f,hf,rfl⟩
   .exact⟨p,nC.one hp,by rw[e1,e]⟩
   .exact⟨_,nC.more hp hf,by rw[e1,e];simp⟩
  .rw[if_neg h1]at h;cases h;exact zq0 rfl
theorem Ha{n:Nat}{r q:List ByteArray}(h:IF n r=some q):∃f,nC f/\r=f++q:=by
 obtain⟨t,h2,h3⟩:=Option.bind_eq_some_iff.1 h;obtain⟨p,hp,rfl⟩:=iS.1 h2;rcases G9 n h3 with rfl|⟨f,hf,rfl⟩
 .exact⟨p,nC.one hp,rfl⟩
 .exact⟨_,nC.more hp hf,by simp⟩
theorem xU{f:List ByteArray}(h:nC f):∀{n:Nat} {q:List ByteArray},f.length<=n->fs bG q=false->IF n (f++q)=some q:=by
 induction h using nC.ind with
 |one hp =>
  intro n q _ hq;unfold IF;rw[iS.2 ⟨_,hp,rfl⟩,Option.bind_some];cases n with
  |zero=>rfl
  |succ n=>show(if fs bG q=true then _ else some q)=_;rw[hq,if_neg (by simp)]
 |@more p r hp _ ih =>
  intro n q hn hq;simp only[length_append,length_cons]at hn;unfold IF;rw[append_assoc,iS.2 ⟨_,hp,rfl⟩,Option.bind_some];cases n with
  |zero=>omega
  |succ n =>
   show(if aV bG bG=true then (nz (r++q)).bind (IE n) else _)=_;rw[if_pos (aT _)];exact ih (by omega) hq
theorem Gk{p:List ByteArray}(h:∀x∈p,x≠bG):∀cur r,Pb cur (p++r)=Pb (cur++p) r:=by
 induction p with
 |nil=>intro cur r;rw[append_nil];rfl
 |cons x p ih =>
  intro cur r;show Pb cur (x::(p++r))=_;simp only[Pb];rw[bm (h x (by simp)),if_neg (by simp),ih (λy hy=>h y (by simp[hy])),append_assoc];rfl
def Pgm(ws:List ByteArray)(k:Nat):Prop:=∃f b,nC f/\fR b k/\ws=dq::(f++cK::(b++[dd]))
theorem Nr{ws:List ByteArray}{k:Nat}(h:pPr ws.length ws=some ([],k)):∃j,Pgm ws j/\k=j+1:=by
 unfold pPr at h;obtain⟨t,a1,a2,h1,h2,rfl⟩:=dH.1 h;obtain⟨u,b1,b2,h3,h4,rfl⟩:=dH.1 h1;obtain⟨v,c1,c2,h5,h6,rfl⟩:=dH.1 h3;obtain⟨h7,rfl⟩:=mB.1 h5;obtain⟨h8,rfl⟩:=mB.1 h6;cases h2
 have e7:ws=dq::v:=eR.1 h7;obtain⟨f,hf,e8⟩:=Ha h8;have hl:u.length<ws.length+1:=by rw[e7,e8];simp only[length_cons,length_append];omega
 obtain⟨b,hB,e9⟩:=J1 _ _ _ _ _ hl h4;exact⟨b2,⟨f,b,hf,hB,by rw[e7,e8,e9]⟩,by omega⟩
def dm(c:UInt8):ByteArray:=⟨#[c]⟩
theorem yG{x:ByteArray}(h:aI x=true):x=dm (zE x):=by
 obtain⟨⟨l⟩⟩:=x;match l,h with
 |[c],_=>rfl
theorem DX{x:ByteArray}(h:jH x=true):x=dm (zE x):=by
 obtain⟨⟨l⟩⟩:=x;match l,h with
 |[c],_=>rfl
theorem Qf(l:List UInt8)(c:UInt8):rb (l.map dm) (dm c)=plc l c:=by
 induction l with
 |nil=>rfl
 |cons a l ih =>
  show(if aV (dm a) (dm c)=true then 0 else rb (l.map dm) (dm c)+1)=if a=c then 0 else plc l c+1
  by_cases h:a=c
  .rw[if_pos h,if_pos (by rw[h];exact aT _)]
  .rw[if_neg h,if_neg,ih];intro e;have:=aZ.1 e;simp only[dm,ByteArray.mk.injEq,Array.mk.injEq,List.cons.injEq,and_true]at this;exact h this
theorem Ek(l:List UInt8)(c:UInt8):bW true (l.map dm) (dm c)=(put l c).map dm:=by
 have h1:=tV l c;unfold bW put amI;rw[Qf];simp only[length_map,Bool.true_and];by_cases h:plc l c=l.length
 .rw[if_pos h,if_pos (by rw[h];simp)];simp
 .rw[if_neg h,if_neg];rw[if_pos (by omega)];simp
def zu(ws:List ByteArray)(s:PS):Prop :=
 s.failed=false->aaX ws s.pos=false/\O9 ws s.pos=s.vars.map dm/\O8 ws s.pos=s.hid.map dm
def dD(ws:List ByteArray)(F:PS->PS):Prop:=∀s,zu ws s->zu ws (F s)
theorem oQ(ws:List ByteArray)(s:PS):zu ws s.fail:=λh=>(by cases h)
theorem Bs{ws:List ByteArray}{s:PS}(h:s.failed=false):pk ws s=ws[s.pos]?.getD em:=by
 unfold pk;rw[if_neg (by simp[h])];rfl
theorem Cv{ws:List ByteArray}{s:PS}{k:ByteArray}(h:bH ws k s=true):pk ws s=k:=aZ.1 h
theorem Uc{ws:List ByteArray}{n:Nat}(hl:aI (ws[n]?.getD em)=false)(hu:jH (ws[n]?.getD em)=false):O9 ws (n+1)=O9 ws n/\O8 ws (n+1)=O8 ws n:=by
 constructor
 .show bW (aI (ws[n]?.getD em)&&!aaX ws n) _ _=_;rw[hl];rfl
 .show bW (jH (ws[n]?.getD em)) _ _=_;rw[hu];rfl
theorem di{ws:List ByteArray}{s:PS}{k:ByteArray}(h:zu ws s)(ha:bH ws k s=true)(hl:aI k=false)(hu:jH k=false)(hd:k≠aW):zu ws s.adv:=by
 intro hf;have vp:s.failed=false:=hf;have hk:=(Bs (ws:=ws) vp).symm.trans (Cv ha);obtain⟨_,h2,h3⟩:=h vp;have hn:=Uc (ws:=ws) (n:=s.pos) (by rw[hk];exact hl) (by rw[hk];exact hu);refine⟨?_,hn.1.trans h2,hn.2.trans h3⟩;show aV (ws[s.pos]?.getD em) aW=false;rw[hk];exact bm hd
theorem fK{ws:List ByteArray}{k:ByteArray}(hl:aI k=false)(hu:jH k=false)(hd:k≠aW):dD ws (aF ws k):=by
 intro s h;unfold aF;by_cases ha:bH ws k s=true
 .rw[if_pos ha];exact di h ha hl hu hd
 .rw[if_neg ha];exact oQ _ _
theorem AV{ws:List ByteArray}{s:PS}(h:zu ws s)(ha:bH ws gL s=true):zu ws (aF ws kN s.adv):=by
 unfold aF;by_cases hb:bH ws kN s.adv=true
 .rw[if_pos hb];intro hf;have vp:s.failed=false:=hf;have lj:s.adv.failed=false:=hf;have hk:ws[s.pos]?.getD em=aW:=(Bs (ws:=ws) vp).symm.trans (Cv ha);have ll:ws[s.pos+1]?.getD em=nW:=(Bs (ws:=ws) lj).symm.trans (Cv hb);obtain⟨_,h2,h3⟩:=h vp;have hn:=Uc (ws:=ws) (n:=s.pos) (by rw[hk];rfl) (by rw[hk];rfl);refine⟨?_,?_,?_⟩
  .show aV (ws[s.pos+1]?.getD em) aW=false;rw[ll];exact bm (am (by simp[nW,aW]))
  .show bW (aI (ws[s.pos+1]?.getD em)&&!(aV (ws[s.pos]?.getD em) aW)) (O9 ws (s.pos+1)) _=_;rw[hk,aT,Bool.not_true,Bool.and_false];exact hn.1.trans h2
  .show bW (jH (ws[s.pos+1]?.getD em)) (O8 ws (s.pos+1)) _=_;rw[ll];exact hn.2.trans h3
 .rw[if_neg hb];exact oQ _ _
theorem oY{ws:List ByteArray}:dD ws (bz ws):=by
 intro s h;unfold bz;by_cases hl:aI (pk ws s)=true
 .rw[if_pos hl];intro hf;have vp:s.failed=false:=hf;obtain⟨h1,h2,h3⟩:=h vp;have hk:=Bs (ws:=ws) vp;rw[hk]at hl;have ho:=yG hl;refine⟨?_,?_,?_⟩
  .show aV (ws[s.pos]?.getD em) aW=false;exact bm (dY hl rfl)
  .show bW (aI (ws[s.pos]?.getD em)&&!aaX ws s.pos) (O9 ws s.pos) (ws[s.pos]?.getD em)=(put s.vars (zE (pk ws s))).map dm;rw[h1,hl,h2,hk];conv=>lhs;rw[ho]
   exact Ek _ _
  .show bW (jH (ws[s.pos]?.getD em)) (O8 ws s.pos) _=_;rw[yH _ hl];exact h3
 .rw[if_neg hl];exact oQ _ _
theorem lS{ws:List ByteArray}:dD ws (bU ws):=by
 intro s h;unfold bU;by_cases ha:bH ws jg s=true
 .rw[if_pos ha];exact di h ha rfl rfl (am (by simp[jg,aW]))
 .rw[if_neg ha];exact oY s h
theorem rT{ws:List ByteArray}:dD ws (eu ws):=by
 intro s h;unfold eu;by_cases hl:jH (pk ws s)=true
 .rw[if_pos hl];intro hf;have vp:s.failed=false:=hf;obtain⟨h1,h2,h3⟩:=h vp;have hk:=Bs (ws:=ws) vp;rw[hk]at hl;have ho:=DX hl;have tq:aI (ws[s.pos]?.getD em)=false:=by
   cases hx:aI (ws[s.pos]?.getD em) with
   |false=>rfl
   |true=>rw[yH _ hx]at hl;cases hl
  refine⟨?_,?_,?_⟩
  .show aV (ws[s.pos]?.getD em) aW=false;exact bm (Oe hl rfl)
  .show bW (aI (ws[s.pos]?.getD em)&&!aaX ws s.pos) (O9 ws s.pos) (ws[s.pos]?.getD em)=_;rw[tq];exact h2
  .show bW (jH (ws[s.pos]?.getD em)) (O8 ws s.pos) (ws[s.pos]?.getD em)=(put s.hid (zE (pk ws s))).map dm;rw[hl,h3,hk];conv=>lhs;rw[ho]
   exact Ek _ _
 .rw[if_neg hl];exact lS s h
theorem dX{ws:List ByteArray}{k:ByteArray}{A B:PS->PS}(hA:∀s,zu ws s->bH ws k s=true->zu ws (A s))(hB:dD ws B):dD ws (λs=>if bH ws k s then A s else B s):=by
 intro s h;dsimp only;by_cases ha:bH ws k s=true
 .rw[if_pos ha];exact hA s h ha
 .rw[if_neg ha];exact hB s h
theorem Um{ws:List ByteArray}:dD ws (aF ws fh):=fK rfl rfl (am (by simp[fh,aW]))
theorem Oz{ws:List ByteArray}:dD ws (aF ws gY):=fK rfl rfl (am (by simp[gY,aW]))
theorem YJ{ws:List ByteArray}:dD ws (aF ws lR):=fK rfl rfl (am (by simp[lR,aW]))
theorem xTo{ws:List ByteArray}:dD ws (aF ws T5):=fK rfl rfl (am (by simp[T5,aW]))
theorem xEq{ws:List ByteArray}:dD ws (aF ws fQ):=fK rfl rfl (am (by simp[fQ,aW]))
theorem adV{ws:List ByteArray}:dD ws (aF ws ig):=fK rfl rfl (am (by simp[ig,aW]))
theorem xLB{ws:List ByteArray}:dD ws (aF ws kY):=fK rfl rfl (am (by simp[kY,aW]))
theorem xRB{ws:List ByteArray}:dD ws (aF ws jG):=fK rfl rfl (am (by simp[jG,aW]))
theorem xIf{ws:List ByteArray}:dD ws (aF ws kX):=fK rfl rfl (am (by simp[kX,aW]))
theorem YK{ws:List ByteArray}:dD ws (aF ws bQ):=fK rfl rfl (am (by simp[bQ,aW]))
theorem adU{ws:List ByteArray}:dD ws (aF ws eF):=fK rfl rfl (am (by simp[eF,aW]))
theorem MF{ws:List ByteArray}:dD ws (eg ws) :=
 dX (λ_ h ha=>di h ha rfl rfl (am (by simp[fQ,aW]))) (dX (λ_ h ha=>di h ha rfl rfl (am (by simp[qR,aW]))) xTo)
theorem Rc{ws:List ByteArray}:dD ws (yF ws):=λ_ h=>Oz _ (rT _ (YJ _ (rT _ (Um _ h))))
theorem Fo{ws:List ByteArray}:dD ws (dQ ws) :=
 dX (λ_ h ha=>di h ha rfl rfl (am (by simp[nP,aW]))) (dX (λ_ h ha=>Rc _ (di h ha rfl rfl (am (by simp[Fk,aW])))) (λ_ h=>rT _ (MF _ (rT _ h))))
theorem ME{ws:List ByteArray}(n:Nat):dD ws (λs=>(iu ws n s).2):=by
 induction n with
 |zero=>exact λ_ h=>h
 |succ n ih =>
  intro s h;simp only[iu];by_cases ha:bH ws cY s=true
  .rw[if_pos ha];exact ih _ (Fo _ (di h ha rfl rfl (am (by simp[cY,aW]))))
  .rw[if_neg ha];exact h
theorem Fp{ws:List ByteArray}:dD ws (pP ws):=λs h=>ME (ws.length+1) _ (Fo s h)
theorem MD{ws:List ByteArray}:dD ws (v7 ws):=dX (λ_ h ha=>di h ha rfl rfl (am (by simp[qR,aW]))) xEq
theorem Ra{ws:List ByteArray}:dD ws (q9 ws):=dX (λ_ h ha=>di h ha rfl rfl (am (by simp[cY,aW]))) (λ_ h=>lS _ (MD _ (oY _ h)))
theorem Fq{ws:List ByteArray}:dD ws (fB ws):=λs h=>(show zu ws (Jq ws s) from Oz _ (Ra _ (Um _ h)))
theorem Q6{ws:List ByteArray}:dD ws (mR ws):=by
 refine dX (λ_ h ha=>di h ha rfl rfl (am (by simp[mV,aW]))) (λs h=>?_);by_cases ha:BW ws s=true
 .rw[if_pos ha];unfold BW at ha;simp only[Bool.and_eq_true]at ha;exact AV (lS s h) ha.2
 .rw[if_neg ha];exact lS s h
theorem Rh{ws:List ByteArray}:dD ws (gp ws):=by
 refine dX (λ_ h ha=>di h ha rfl rfl (am (by simp[f8,aW]))) (dX (λ_ h ha=>oY _ (di h ha rfl rfl (am (by simp[ie,aW])))) (λs h=>?_));by_cases ha:bH ws gL (bz ws s)=true
 .rw[if_pos ha];exact lS _ (xEq _ (AV (oY s h) ha))
 .rw[if_neg ha];exact Q6 _ (xEq _ (oY s h))
theorem Rg{ws:List ByteArray}:dD ws (qT ws):=λs h=>(show zu ws (aF ws ig (gp ws s)) from adV _ (Rh s h))
theorem Re{ws:List ByteArray}{blk:PS->PS}(hb:dD ws blk):dD ws (uV blk ws):=λs h=>(show zu ws (lV blk ws s) from hb _ (Fq _ (YK s h)))
theorem Q8{ws:List ByteArray}{blk:PS->PS}(hb:dD ws blk):dD ws (nH blk ws):=by
 intro s h;have h1:zu ws (ch blk ws s):=hb _ (Fq _ (xIf s h));unfold nH;by_cases ha:bH ws gM (ch blk ws s)=true
 .rw[if_pos ha];exact(show zu ws (blk (kf s.nodes.length (ch blk ws s))) from hb _ (show zu ws (ch blk ws s).adv from di h1 ha rfl rfl (am (by simp[gM,aW]))))
 .rw[if_neg ha];exact h1
theorem Q9{ws:List ByteArray}{blk:PS->PS}(hb:dD ws blk):dD ws (jF blk ws):=dX (λs h _=>Q8 hb s h) (dX (λs h _=>Re hb s h) Rg)
theorem Rb{ws:List ByteArray}{c:PS->PS}(hc:dD ws c)(n:Nat):dD ws (io c ws n):=by
 induction n with
 |zero=>exact λ_ h=>h
 |succ n ih =>
  intro s h;simp only[io];split
  .exact h
  .exact ih _ (hc s h)
theorem Q7{ws:List ByteArray}(f:Nat):dD ws (cC ws f):=by
 induction f with
 |zero=>exact λ_ h=>h
 |succ f ih=>exact λs h=>xRB _ (Rb (Q9 ih) _ _ (xLB s h))
theorem Rf{ws:List ByteArray}:dD ws (bL ws):=by
 intro s h;have h1:zu ws (Ci ws s):=(show zu ws (cC ws (ws.length+1) (pP ws (aF ws eF s))) from Q7 _ _ (Fp _ (adU s h)));unfold bL;split
 .exact h1
 .exact oQ _ _
theorem Fh(ws:List ByteArray):zu ws aJ:=λ_=>⟨rfl,rfl,rfl⟩
