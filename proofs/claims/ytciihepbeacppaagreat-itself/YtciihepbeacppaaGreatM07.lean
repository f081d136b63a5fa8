import Derived.Test.YtciihepbeacppaaGreatRG
import Derived.Laws.OwnMore
set_option maxRecDepth 100000
set_option maxHeartbeats 0
namespace Go.Proofs.YtciihepbeacppaaGreat
open Tryz Go.RowKit List World Below
set_option linter.unusedVariables false
def ajL(l:List ByteArray):Nat->Bool
 |0=>false
 |k+1=>bO (l[k]?.getD em) iE
def kX(c:Bool)(v:List ByteArray)(x:ByteArray):List ByteArray:=if c&&decide (amI v x<0) then v++[x] else v
def nmH(l:List ByteArray):Nat->List ByteArray
 |0=>[]
 |k+1=>kX (lz (l[k]?.getD em)) (nmH l k) (l[k]?.getD em)
theorem Jc(c:Bool)(v:List ByteArray)(x:ByteArray):(kX c v x).length<=v.length+1:=by unfold kX;split <;> simp
theorem qY(x:ByteArray)(h:aX x=true):lz x=false:=by
 obtain⟨c,rfl⟩:=js x (by
  by_cases hs:x.size=1
  .exact hs
  .rw[pK x hs]at h;cases h)
 rw[uu]at h;rw[IT];simp only[gq,jB]at *;simp at h ⊢;omega
def Rd(ws:List ByteArray)(s:PS)(r:List ByteArray):Prop:=s.failed=false/\ws.drop s.pos=r/\s.pos<=ws.length
def Res(ws:List ByteArray)(s:PS):Option (List ByteArray)->Prop
 |none=>s.failed=true
 |some r=>Rd ws s r
structure tF(ws:List ByteArray)(F:PS->PS)(f:List ByteArray->Option (List ByteArray)):Prop where
 ok:∀s r,Rd ws s r->Res ws (F s) (f r)
 bad:∀s,s.failed=true->(F s).failed=true
 nd:∀s,(F s).nodes=s.nodes
def yQ(k:ByteArray):List ByteArray->Bool
 |[]=>false
 |x::_=>bO x k
def E0(k:ByteArray):List ByteArray->Option (List ByteArray)
 |[]=>none
 |x::r=>if bO x k then some r else none
theorem Ii{ws:List ByteArray}{s:PS}{x:ByteArray}{r:List ByteArray}(h:Rd ws s (x::r)):pk ws s=x:=by
 unfold pk;rw[if_neg (by simp[h.1])];have:ws[s.pos]?=some x:=by rw[<-head?_drop,h.2.1];rfl
 rw[this];rfl
theorem E3{ws:List ByteArray}{s:PS}(h:Rd ws s []):pk ws s=⟨#[]⟩:=by
 apply E2;have:=congrArg List.length h.2.1;simp only[length_drop,length_nil]at this;omega
theorem iA{ws:List ByteArray}{s:PS}{x:ByteArray}{r:List ByteArray}(h:Rd ws s (x::r)):Rd ws s.adv r :=
 ⟨h.1,by show ws.drop (s.pos+1)=r;rw[<-drop_drop,h.2.1];rfl,by
  have:=congrArg List.length h.2.1;simp only[length_drop,length_cons]at this;show s.pos+1<=ws.length;omega⟩
theorem VY:(⟨#[]⟩:ByteArray).toList=[]:=ByteArray.toList_eq _
theorem gX{ws:List ByteArray}{s:PS}{k:ByteArray}{r:List ByteArray}(hk:k.toList≠[])(h:Rd ws s r):cL ws k s=yQ k r:=by
 cases r with
 |nil=>unfold cL;rw[E3 h,VY];cases Dn:k.toList with
  |nil=>exact absurd Dn hk
  |cons _ _=>rfl
 |cons x r=>unfold cL;rw[Ii h];rfl
theorem FN{ws:List ByteArray}{s:PS}{k:ByteArray}(hk:k.toList≠[])(h:s.failed=true):cL ws k s=false:=by
 unfold cL;rw[j7 h,VY];cases Dn:k.toList with
  |nil=>exact absurd Dn hk
  |cons _ _=>rfl
theorem tF.comp{ws:List ByteArray}{F G:PS->PS}{f g:List ByteArray->Option (List ByteArray)}(hF:tF ws F f)(hG:tF ws G g):tF ws (λs=>G (F s)) (λr=>(f r).bind g):=by
 refine⟨λs r h=>?_,λs h=>hG.bad _ (hF.bad _ h),λs=>(hG.nd _).trans (hF.nd s)⟩;have:=hF.ok s r h;cases hf:f r with
 |none=>rw[hf]at this;exact hG.bad _ this
 |some r'=>rw[hf]at this;exact hG.ok _ _ this
theorem tF.ite{ws:List ByteArray}{A B:PS->PS}{a b:List ByteArray->Option (List ByteArray)}{k:ByteArray}(hk:k.toList≠[])(hA:∀s x r,Rd ws s (x::r)->Res ws (A s) (a (x::r)))(hN:∀s,(A s).nodes=s.nodes)(hB:tF ws B b):tF ws (λs=>if cL ws k s then A s else B s) (λr=>if yQ k r then a r else b r):=by
 refine⟨λs r h=>?_,λs h=>?_,λs=>by split;exact hN s;exact hB.nd s⟩
 .rw[gX hk h];cases r with
  |nil=>simp only[yQ,Bool.false_eq_true,if_false];exact hB.ok _ _ h
  |cons x r =>
   split
   .exact hA _ _ _ h
   .exact hB.ok _ _ h
 .rw[FN hk h];exact hB.bad _ h
theorem rg{ws:List ByteArray}{k:ByteArray}(hk:k.toList≠[]):tF ws (bp ws k) (E0 k):=by
 refine⟨λs r h=>?_,λs h=>?_,λs=>by unfold bp;split <;> rfl⟩
 .unfold bp;rw[gX hk h];cases r with
  |nil=>simp[yQ,E0,Res,PS.fail]
  |cons x r =>
   show Res ws (if bO x k=true then s.adv else s.fail) (if bO x k=true then some r else none);by_cases hx:bO x k=true
   .rw[if_pos hx,if_pos hx];exact iA h
   .rw[if_neg hx,if_neg hx];rfl
 .unfold bp;rw[FN hk h];simp[PS.fail]
def pVa:List ByteArray->Option (List ByteArray)
 |[]=>none
 |x::r=>if aX x then some r else none
theorem Hm:aX ⟨#[]⟩=false:=rfl
theorem Qs:lz ⟨#[]⟩=false:=rfl
theorem aaN{ws:List ByteArray}:tF ws (cn ws) pVa:=by
 refine⟨λs r h=>?_,λs h=>?_,λs=>by unfold cn;split <;> rfl⟩
 .unfold cn;cases r with
  |nil=>rw[E3 h,Hm];simp[pVa,Res,PS.fail]
  |cons x r =>
   rw[Ii h];simp only[pVa];split
   .exact⟨h.1,(iA h).2⟩
   .simp[Res,PS.fail]
 .unfold cn;rw[j7 h,Hm];simp[PS.fail]
theorem OI:m7.toList≠[]:=by rw[ByteArray.toList_eq];simp[m7]
theorem WS:m6.toList≠[]:=by rw[ByteArray.toList_eq];simp[m6]
theorem WT:wo.toList≠[]:=by rw[ByteArray.toList_eq];simp[wo]
theorem agG:WU.toList≠[]:=by rw[ByteArray.toList_eq];simp[WU]
theorem G8:eX.toList≠[]:=by rw[ByteArray.toList_eq];simp[eX]
theorem ur:l8.toList≠[]:=by rw[ByteArray.toList_eq];simp[l8]
theorem Cg:gY.toList≠[]:=by rw[ByteArray.toList_eq];simp[gY]
theorem zh:oB.toList≠[]:=by rw[ByteArray.toList_eq];simp[oB]
theorem OH:G7.toList≠[]:=by rw[ByteArray.toList_eq];simp[G7]
theorem zj:dO.toList≠[]:=by rw[ByteArray.toList_eq];simp[dO]
def agV(r:List ByteArray):Option (List ByteArray):=if yQ m7 r then some r.tail else pVa r
theorem sX{ws:List ByteArray}:tF ws (cO ws) agV:=tF.ite OI (λ_ _ _ h=>iA h) (λ_=>rfl) aaN
def Kl:List ByteArray->Option (List ByteArray)
 |[]=>none
 |x::r=>if lz x then some r else agV (x::r)
theorem rh{ws:List ByteArray}:tF ws (ev ws) Kl:=by
 refine⟨λs r h=>?_,λs h=>?_,λs=>by unfold ev;split;rfl;exact sX.nd s⟩
 .unfold ev;cases r with
  |nil=>rw[E3 h,Qs];exact sX.ok _ _ h
  |cons x r =>
   rw[Ii h];simp only[Kl];cases hx:lz x with
   |true=>exact⟨h.1,(iA h).2⟩
   |false=>exact sX.ok _ _ h
 .unfold ev;rw[j7 h,Qs];exact sX.bad _ h
def Kj(r:List ByteArray):Option (List ByteArray):=if yQ m6 r then some r.tail else if yQ wo r then some r.tail else E0 WU r
theorem zH{ws:List ByteArray}:tF ws (eg ws) Kj:=tF.ite WS (λ_ _ _ h=>iA h) (λ_=>rfl) (tF.ite WT (λ_ _ _ h=>iA h) (λ_=>rfl) (rg agG))
def pLi(r:List ByteArray):Option (List ByteArray):=((((E0 eX r).bind Kl).bind (E0 l8)).bind Kl).bind (E0 gY)
theorem Pp{ws:List ByteArray}:tF ws (zq ws) pLi:=((((rg G8).comp rh).comp (rg ur)).comp rh).comp (rg Cg)
def nG(r:List ByteArray):Option (List ByteArray):=if yQ oB r then some r.tail else if yQ G7 r then pLi r.tail else ((Kl r).bind Kj).bind Kl
theorem mh{ws:List ByteArray}:tF ws (dH ws) nG :=
 tF.ite zh (λ_ _ _ h=>iA h) (λ_=>rfl) (tF.ite OH (λ_ _ _ h=>Pp.ok _ _ (iA h)) (λs=>Pp.nd s.adv) ((rh.comp zH).comp rh))
theorem Po{ws:List ByteArray}:tF ws (λs=>s) some:=⟨λ_ _ h=>h,λ_ h=>h,λ_=>rfl⟩
def Kh:Nat->List ByteArray->Option (List ByteArray)
 |0,r=>some r
 |n+1,r=>if yQ dO r then (nG r.tail).bind (Kh n) else some r
theorem Ut{ws:List ByteArray}(n:Nat):tF ws (λs=>(fW ws n s).2) (Kh n):=by
 induction n with
 |zero=>exact Po
 |succ n ih =>
  have e:(λs=>(fW ws (n+1) s).2)=(λs=>if cL ws dO s then (fW ws n (dH ws s.adv)).2 else s):=by
   funext s;simp only[fW];split <;> rfl
  rw[e];exact tF.ite zj (λ_ _ _ h=>(mh.comp ih).ok _ _ (iA h)) (λs=>(mh.comp ih).nd s.adv) Po
def Ki(n:Nat)(r:List ByteArray):Option (List ByteArray):=(nG r).bind (Kh n)
theorem zG{ws:List ByteArray}:tF ws (po ws) (Ki (ws.length+1)):=mh.comp (Ut (ws.length+1))
def n0(f:List ByteArray->Option (List ByteArray))(r:List ByteArray):Option (List ByteArray × Nat):=(f r).map (λq=>(q,0))
def n1(f:List ByteArray->Option (List ByteArray))(r:List ByteArray):Option (List ByteArray × Nat):=(f r).map (λq=>(q,1))
def one(r:List ByteArray):Option (List ByteArray × Nat):=some (r,1)
theorem Cz(x:ByteArray)(r:List ByteArray):Kl (x::r)=if dl x=true then some r else none:=by
 show(if lz x=true then some r else if bO x fy=true then some r else if aX x=true then some r else none)=if (bO x fy||aX x||lz x)=true then some r else none
 cases lz x <;> cases bO x fy <;> cases aX x <;> rfl
def aaW(x:ByteArray):Bool:=bO x bV||bO x dN||bO x kS
theorem Kk(x:ByteArray)(r:List ByteArray):Kj (x::r)=if aaW x=true then some r else none:=by
 show(if bO x bV=true then some r else if bO x dN=true then some r else if bO x kS=true then some r else none)=if (bO x bV||bO x dN||bO x kS)=true then some r else none
 cases bO x bV <;> cases bO x dN <;> cases bO x kS <;> rfl
theorem kQ(x:ByteArray)(r:List ByteArray):nG (x::r)=if bO x qE=true then some r else if bO x jU=true then pLi r else ((if dl x=true then some r else none).bind Kj).bind Kl:=by
 rw[<-Cz];rfl
theorem Pl(k x:ByteArray)(r:List ByteArray):E0 k (x::r)=if bO x k=true then some r else none:=rfl
theorem O9{x:ByteArray}(h:bO x qE=true):dl x=false:=by
 have hx:x.toList=[101,109,112]:=by simpa[bO,Mx] using h
 have hd:x.data.toList=[101,109,112]:=by rw[<-ByteArray.toList_eq];exact hx
 simp[dl,bO,aX,lz,hd,hx,show fy.toList=[110,105,108] from ByteArray.toList_eq _]
theorem Ug{x:ByteArray}(h:bO x jU=true):dl x=false:=by
 have hx:x.toList=[108,115]:=by simpa[bO,WZ] using h
 have hd:x.data.toList=[108,115]:=by rw[<-ByteArray.toList_eq];exact hx
 simp[dl,bO,aX,lz,hd,hx,show fy.toList=[110,105,108] from ByteArray.toList_eq _]
theorem iW{k:ByteArray}{r q:List ByteArray}:E0 k r=some q↔∃x,bO x k=true/\r=x::q:=by
 cases r with
 |nil=>simp[E0]
 |cons y r =>
  rw[Pl];by_cases h:bO y k=true
  .rw[if_pos h];exact⟨λe=>by cases e;exact⟨y,h,rfl⟩,λ⟨x,_,e⟩=>by cases e;rfl⟩
  .rw[if_neg h];exact⟨λe=>(by cases e),λ⟨x,hx,e⟩=>by cases e;exact absurd hx h⟩
theorem iX{r q:List ByteArray}:Kl r=some q↔∃x,dl x=true/\r=x::q:=by
 cases r with
 |nil=>simp[Kl]
 |cons y r =>
  rw[Cz];by_cases h:dl y=true
  .rw[if_pos h];exact⟨λe=>by cases e;exact⟨y,h,rfl⟩,λ⟨x,_,e⟩=>by cases e;rfl⟩
  .rw[if_neg h];exact⟨λe=>(by cases e),λ⟨x,hx,e⟩=>by cases e;exact absurd hx h⟩
theorem rf{r q:List ByteArray}:Kj r=some q↔∃x,aaW x=true/\r=x::q:=by
 cases r with
 |nil=>simp[Kj,yQ,E0]
 |cons y r =>
  rw[Kk];by_cases h:aaW y=true
  .rw[if_pos h];exact⟨λe=>by cases e;exact⟨y,h,rfl⟩,λ⟨x,_,e⟩=>by cases e;rfl⟩
  .rw[if_neg h];exact⟨λe=>(by cases e),λ⟨x,hx,e⟩=>by cases e;exact absurd hx h⟩
theorem Cy{r q:List ByteArray}:pLi r=some q↔∃b c d e f,bO b Xd=true/\dl c=true/\bO d Sj=true/\dl e=true/\bO f QU=true/\r=b::c::d::e::f::q:=by
 constructor
 .intro h;unfold pLi at h;obtain⟨r4,h,h5⟩:=Option.bind_eq_some_iff.1 h;obtain⟨r3,h,h4⟩:=Option.bind_eq_some_iff.1 h;obtain⟨r2,h,h3⟩:=Option.bind_eq_some_iff.1 h;obtain⟨r1,h1,h2⟩:=Option.bind_eq_some_iff.1 h;obtain⟨b,hb,rfl⟩:=iW.1 h1;obtain⟨c,hc,rfl⟩:=iX.1 h2;obtain⟨d,hd,rfl⟩:=iW.1 h3;obtain⟨e,he,rfl⟩:=iX.1 h4;obtain⟨f,hf,rfl⟩:=iW.1 h5;exact⟨b,c,d,e,f,hb,hc,hd,he,hf,rfl⟩
 .rintro⟨b,c,d,e,f,hb,hc,hd,he,hf,rfl⟩;show((((E0 Xd (b::c::d::e::f::q)).bind Kl).bind (E0 Sj)).bind Kl).bind (E0 QU)=some q;rw[iW.2 ⟨b,hb,rfl⟩,Option.bind_some,iX.2 ⟨c,hc,rfl⟩,Option.bind_some,iW.2 ⟨d,hd,rfl⟩,Option.bind_some,iX.2 ⟨e,he,rfl⟩,Option.bind_some,iW.2 ⟨f,hf,rfl⟩]
theorem iV{l q:List ByteArray}:nG l=some q↔∃p,sm p=true/\l=p++q:=by
 constructor
 .intro h;cases l with
  |nil=>simp[nG,yQ,Kl]at h
  |cons a r =>
   rw[kQ]at h;by_cases h1:bO a qE=true
   .rw[if_pos h1]at h;simp only[Option.some.injEq]at h;subst h;exact⟨[a],h1,rfl⟩
   .rw[if_neg h1]at h;by_cases h2:bO a jU=true
    .rw[if_pos h2]at h;obtain⟨b,c,d,e,f,hb,hc,hd,he,hf,rfl⟩:=Cy.1 h;exact⟨[a,b,c,d,e,f],by simp[sm,h2,hb,hc,hd,he,hf],rfl⟩
    .rw[if_neg h2]at h;obtain⟨r2,h,h5⟩:=Option.bind_eq_some_iff.1 h;obtain⟨r1,h3,h4⟩:=Option.bind_eq_some_iff.1 h;by_cases h6:dl a=true
     .rw[if_pos h6]at h3;simp only[Option.some.injEq]at h3;subst h3;obtain⟨b,hb,rfl⟩:=rf.1 h4;obtain⟨c,hc,rfl⟩:=iX.1 h5;exact⟨[a,b,c],by simp only[sm,h6,hc,Bool.true_and];exact hb,rfl⟩
     .rw[if_neg h6]at h3;cases h3
 .rintro⟨p,hp,rfl⟩;match p,hp with
  |[a],hp=>show nG (a::q)=some q;rw[kQ,if_pos (show bO a qE=true from hp)]
  |[a,b,c],hp =>
   simp only[sm,Bool.and_eq_true]at hp;show nG (a::b::c::q)=some q;have h1:¬ bO a qE=true:=λh=>by rw[O9 h]at hp;simp at hp
   have h2:¬ bO a jU=true:=λh=>by rw[Ug h]at hp;simp at hp
   rw[kQ,if_neg h1,if_neg h2,if_pos hp.1.1,Option.bind_some,rf.2 ⟨b,hp.2,rfl⟩,Option.bind_some,iX.2 ⟨c,hp.1.2,rfl⟩]
  |[a,b,c,d,e,f],hp =>
   simp only[sm,Bool.and_eq_true]at hp;obtain⟨⟨⟨⟨ha,hb⟩,hd⟩,hf⟩,hc,he⟩:=hp;show nG (a::b::c::d::e::f::q)=some q;have h1:¬ bO a qE=true:=λh=>by
    have e1:a.toList=[101,109,112]:=(by simpa[bO,Mx] using h);have e2:a.toList=[108,115]:=(by simpa[bO,WZ] using ha);rw[e1]at e2;simp at e2
   rw[kQ,if_neg h1,if_pos ha];exact Cy.2 ⟨b,c,d,e,f,hb,hc,hd,he,hf,rfl⟩
structure Pr where
 k:Nat
 l:Nat
 r:Nat
def au:Pr:=⟨0,0,0⟩
structure CF where
 cl:List Nat
 ap:List Pr
 ow:List Pr
def nj(k i:Nat):Nat:=if k=1 then 1+i else if k=2 then 5+i else 0
def gQ(c:List Nat)(a:bC):List Nat:=if a.k=1 then c.map (λx=>if x=c.getD (nj a.rk a.ri) 0 then c.getD (nj a.lk a.li) 0 else x) else c
def jX(al:List bC):List Nat:=al.foldl gQ (range 13)
def fL(c:List Nat)(a:bC):Pr:=⟨a.k,c.getD (nj a.lk a.li) 0,c.getD (nj a.rk a.ri) 0⟩
def aG(al:List bC):CF:=⟨(jX al).take 5,(al.filter (λa=>a.k==2)).map (fL (jX al)),(al.filter (λa=>a.k==3||a.k==4)).map (fL (jX al))⟩
def cR:List Pr->Nat->Option Nat
 |[],_=>none
 |p::r,c=>if p.l=c then some 0 else (cR r c).map (·+1)
def nX:List Nat->List Pr->Bool
 |_,[]=>false
 |seen,p::r=>if p.l∈seen then true else nX (p.l::seen) r
def dT(f:CF):Bool:=f.ap.any (λp=>p.l==p.r)||nX [f.cl.getD 0 0] f.ow
def qA(f:CF)(a b:Nat):Bool:=((cR f.ow a).isSome&&((cR f.ow b).isSome||b==f.cl.getD 0 0))||((cR f.ow b).isSome&&a==f.cl.getD 0 0)
def dS(f:CF)(a b:Nat):Bool:=if a=b then false else f.ap.any (λp=>(p.l==a&&p.r==b)||(p.l==b&&p.r==a))||qA f a b
structure SS where
 bd:List (Option Nat)
 ot:List (Option Nat)
 un:Nat
 pl:List Bool
 st:Int
def SS.b(s:SS)(c:Nat):Option Nat:=s.bd.getD c none
def DI(V T:CF)(s:SS):Bool:=T.ap.all (λp=>p.l != p.r&&(match s.b p.l,s.b p.r with|some a,some b=>dS V a b|_,_=>true))
def KM(T:CF)(s:SS):List Nat->Option Nat->Option Nat
 |[],o=>o
 |k::r,o=>if s.pl.getD k false=true then KM T s r o else if (s.b (T.ow.getD k au).l).isSome=true then some k else KM T s r (if o.isSome=true then o else some k)
def VW(T:CF)(s:SS):Option Nat:=KM T s (range s.pl.length) none
def CA(W:SS->Nat->Nat->Nat->Bool × SS)(k left count:Nat):List Pr->SS->Bool × SS
 |[],s=>(false,{ s with bd:=s.bd.set left none })
 |p::r,s=>match W { s with bd:=s.bd.set left (some p.l) } k p.l count with
  |(true,s')=>(true,s')
  |(false,s')=>CA W k left count r s'
def pP(W:SS->Nat->Nat->Nat->Bool × SS)(V T:CF)(s:SS)(count:Nat):Bool × SS :=
 if T.ow.length=count then (decide (s.un=0)&&DI V T s,s)
 else if s.un<T.ow.length-count then (false,s)
 else match VW T s with
  |none=>(false,s)
  |some k=>match s.b (T.ow.getD k au).l with
   |some at_=>W s k at_ count
   |none=>CA W k (T.ow.getD k au).l count V.ow s
def yB(P:SS->Nat->Bool × SS)(T:CF)(s:SS)(k at_ count:Nat):Bool × SS :=
 if s.b (T.ow.getD k au).r≠none/\s.b (T.ow.getD k au).r≠some at_ then (false,s)
 else match P { s with bd:=s.bd.set (T.ow.getD k au).r (some at_),pl:=s.pl.set k true } (count+1) with
  |(true,s')=>(true,s')
  |(false,s')=>(false,{ s' with pl:=s'.pl.set k false,bd:=s'.bd.set (T.ow.getD k au).r (s.b (T.ow.getD k au).r) })
def wk(V T:CF):Nat->SS->Nat->Nat->Nat->Bool × SS
 |0,s,_,_,_=>(false,s)
 |m+1,s,k,at_,count =>
  if wrap64 (s.st-1)<0 then (false,{ s with st:=wrap64 (s.st-1) })
  else match cR V.ow at_ with
   |none=>(false,{ s with st:=wrap64 (s.st-1) })
   |some i =>
    if s.ot.getD i none≠none then (false,{ s with st:=wrap64 (s.st-1) })
    else if (T.ow.getD k au).k≠4/\(V.ow.getD i au).k=4 then (false,{ s with st:=wrap64 (s.st-1) })
    else match yB (pP (wk V T m) V T) T { s with st:=wrap64 (s.st-1),ot:=s.ot.set i (some k),un:=s.un-1 } k (V.ow.getD i au).r count with
     |(true,s')=>(true,s')
     |(false,s2)=>match (if (T.ow.getD k au).k=4 then wk V T m s2 k (V.ow.getD i au).r count else (false,s2)) with
      |(true,s')=>(true,s')
      |(false,s3)=>(false,{ s3 with ot:=s3.ot.set i none,un:=s3.un+1 })
def Uz(p:Pr):List Value:=[.int .i64 p.k,.int .i64 p.l,.int .i64 p.r]
def af(l:List Pr):List Value:=l.flatMap Uz
def dp:Option Nat->Int
 |none=>-1
 |some n=>n
def a6(l:List (Option Nat)):List Value:=l.map (λo=>Value.int .i64 (dp o))
theorem cU(a b:List Pr):af (a++b)=af a++af b:=by simp[af]
theorem PA{l:List Pr}{k:Nat}(h:k<l.length):(af l)[k*3]?=some (.int .i64 l[k].k)/\(af l)[k*3+1]?=some (.int .i64 l[k].l)/\(af l)[k*3+2]?=some (.int .i64 l[k].r):=by
 induction l generalizing k with
 |nil=>simp at h
 |cons x l ih =>
  have hx:af (x::l)=[Value.int .i64 x.k,.int .i64 x.l,.int .i64 x.r]++af l:=rfl;cases k with
  |zero=>rw[hx];simp
  |succ k =>
   have:=ih (k:=k) (by simpa using h);rw[hx,show(k+1)*3=k*3+3 by omega];simp only[getElem_cons_succ];refine⟨?_,?_,?_⟩
   .rw[getElem?_append_right (by simp)];simpa using this.1
   .rw[getElem?_append_right (by simp)];simpa[show k*3+3+1-3=k*3+1 by omega] using this.2.1
   .rw[getElem?_append_right (by simp)];simpa[show k*3+3+2-3=k*3+2 by omega] using this.2.2
theorem cP{w:World}{B:Nat}{v:Value}{l:List Pr}(h:w.ownsRow B 182 3 v l.length (af l)):
  ∃ao cap,v=.slice ao l.length cap/\cap<=maxLen/\l.length<=cap/\(l≠[]->∃g,ao=some ⟨g,0,none⟩/\∀j,(h:j<l.length)->w.cell? ⟨g,j*3,none⟩=some (.int .i64 l[j].k)/\w.cell? ⟨g,j*3+1,none⟩=some (.int .i64 l[j].l)/\w.cell? ⟨g,j*3+2,none⟩=some (.int .i64 l[j].r)):=by
 have hw:=h;rcases h.2 with⟨rfl,h0⟩|⟨g,cap,cur,rfl,_,_,hn,hm,_,_⟩
 .have:l=[]:=eq_nil_of_length_eq_zero h0;subst this;exact⟨_,_,rfl,by simp,by simp,λh=>absurd rfl h⟩
 .refine⟨_,_,rfl,hm,hn,λ_=>⟨g,rfl,λj hj=>?_⟩⟩;have hg:=PA hj;exact⟨(hw.cellAt _ (by omega)).trans hg.1,(hw.cellAt _ (by omega)).trans hg.2.1,(hw.cellAt _ (by omega)).trans hg.2.2⟩
def fH(f:CF)(i:Nat):Value:=.int .i64 ((f.cl.getD i 0:Nat):Int)
def ij(f:CF)(av ov:Value):List Value:=[fH f 0,fH f 1,fH f 2,fH f 3,fH f 4,av,ov]
def Ob(w:World)(T n A:Nat)(xs:List Value):Prop:=w.ownsRow 0 T n (.slice (some ⟨A,0,none⟩) 1 1) 1 xs
structure dF(w:World)(A:Nat)(f:CF)(av ov:Value):Prop where
 ob:Ob w 179 7 A (ij f av ov)
 ap:w.ownsRow 0 182 3 av f.ap.length (af f.ap)
 ow:w.ownsRow 0 182 3 ov f.ow.length (af f.ow)
def aD(A:Nat)(av ov:Value):List Nat:=A::(av.ownBlock.toList++ov.ownBlock.toList)
theorem Ob.of_eq{w w':World}{T n A:Nat}{xs:List Value}(h:Ob w T n A xs)(he:w'.heap[A]?=w.heap[A]?):Ob w' T n A xs :=
 ae h (λk hk=>by cases hk;exact he)
theorem dF.of_eq{w w':World}{A:Nat}{f:CF}{av ov:Value}(h:dF w A f av ov)(he:∀k∈aD A av ov,w'.heap[k]?=w.heap[k]?):dF w' A f av ov :=
 ⟨h.ob.of_eq (he A (by simp[aD])),ae h.ap (λk hk=>he k (by simp[aD,hk])),ae h.ow (λk hk=>he k (by simp[aD,hk]))⟩
theorem dF.lt{w:World}{A:Nat}{f:CF}{av ov:Value}(h:dF w A f av ov):∀k∈aD A av ov,k<w.heap.size:=by
 intro k hk;simp only[aD,mem_cons,mem_append,Option.mem_toList]at hk;rcases hk with rfl|hk|hk
 .exact(ownsRow.lt h.ob _ rfl).2
 .exact(h.ap.lt k hk).2
 .exact(h.ow.lt k hk).2
theorem dF.drewN{w:World}{A:Nat}{f:CF}{av ov:Value}(h:dF w A f av ov)(n:Nat):dF (w.drewN n) A f av ov:=h.of_eq (λ_ _=>by simp)
theorem dF.alloc{w:World}{A:Nat}{f:CF}{av ov:Value}(h:dF w A f av ov)(o:Obj):dF (w.alloc o) A f av ov:=h.of_eq (λk hk=>heap_alloc _ _ _ (h.lt k hk))
theorem dF.cls{w:World}{A:Nat}{f:CF}{av ov:Value}(h:dF w A f av ov){i:Nat}(hi:i<5):w.cell? ⟨A,i,none⟩=some (fH f i):=by
 have:=ownsRow.cellAt h.ob i (by omega);rw[this];have hk:i=0\/i=1\/i=2\/i=3\/i=4:=by omega
 rcases hk with rfl|rfl|rfl|rfl|rfl <;> rfl
theorem dF.c5{w:World}{A:Nat}{f:CF}{av ov:Value}(h:dF w A f av ov):w.cell? ⟨A,5,none⟩=some av:=ownsRow.cellAt h.ob 5 (by omega)
theorem dF.c6{w:World}{A:Nat}{f:CF}{av ov:Value}(h:dF w A f av ov):w.cell? ⟨A,6,none⟩=some ov:=ownsRow.cellAt h.ob 6 (by omega)
theorem R4{l:List Pr}{c k:Nat}(hk:k<l.length)(hn:∀j,(hj:j<l.length)->j<k->l[j].l≠c)(h:l[k].l=c):cR l c=some k:=by
 induction l generalizing k with
 |nil=>simp at hk
 |cons x r ih =>
  cases k with
  |zero=>simp only[getElem_cons_zero]at h;simp[cR,h]
  |succ k =>
   have h0:x.l≠c:=hn 0 (by simp) (by omega);simp only[cR,if_neg h0];rw[ih (k:=k) (by simpa using hk) (λj hj GM=>hn (j+1) (by simpa using hj) (by omega)) (by simpa using h)];rfl
theorem LW{l:List Pr}{c:Nat}(hn:∀j,(hj:j<l.length)->l[j].l≠c):cR l c=none:=by
 induction l with
 |nil=>rfl
 |cons x r ih =>
  have h0:x.l≠c:=hn 0 (by simp);simp only[cR,if_neg h0];rw[ih (λj hj=>hn (j+1) (by simpa using hj))];rfl
theorem bi{a b:Nat}:((a:Int)==(b:Int))=decide (a=b):=by
 rw[Bool.eq_iff_iff,beq_iff_eq,decide_eq_true_eq];omega
theorem bU{w:World}{A:Nat}{f:CF}{av ov:Value}(c:Nat)(h:dF w A f av ov):
  Calls prog 208 #[.pointer (some ⟨A,0,none⟩),.int .i64 c] w λe w'=>e=.returned (.int .i64 (dp (cR f.ow c)))/\w'=w:=by
 obtain⟨ao,cap,d7,hm,KX,hc⟩:=cP h.ow;have h6:=h.c6;rw[d7]at h6;have HC:=ab hc;clear hc h d7;unfold maxLen at hm;go_enter func208,ntmps208;go_wp2_with fail
 go_loop [5] (λi=>∃k:Nat,k<=f.ow.length/\i=.int .i64 k/\Hid (∀j,(hj:j<f.ow.length)->j<k->f.ow[j].l≠c)) (λi=>f.ow.length-(intOf i).toNat)
 case atStart=>exact⟨0,zq5 _,rfl,λ_ _ h=>absurd h (by omega)⟩
 case round =>
  obtain⟨k,hk,rfl,dh⟩:=hrel;by_cases aq:k<f.ow.length
  .obtain⟨g,qo,aw⟩:=uh HC (by intro h;rw[h]at aq;simp at aq);have vz:=(aw k aq).2.1;clear aw;rw[qo]at h6;cases he:((f.ow[k].l:Int)==(c:Int)) with
   |true =>
    go_wp2_with fail
    go_ret;exact⟨bm (by rw[R4 aq dh.out (by rw[bi]at he;simpa using he)];rfl),rfl⟩
   |false =>
    go_wp2_with fail
    go_round
    case rel =>
     refine⟨k+1,by omega,by go_num,λj hj GM=>?_⟩;by_cases Zp:j=k
     .subst Zp;intro e;rw[bi]at he;simp[e]at he
     .exact dh.out j hj (by omega)
    case measure=>simp[intOf];omega
  .have hd:decide ((k:Int)<(f.ow.length:Int))=false:=(by simp;omega);go_wp2_with fail
   go_ret;exact⟨bm (by rw[LW (λj hj=>dh.out j hj (by omega))];rfl),rfl⟩
theorem rd(o:Option Nat):decide ((0:Int)<=dp o)=o.isSome:=by cases o <;> simp[dp]
theorem wW{w:World}{A:Nat}{f:CF}{av ov:Value}(a b:Nat)(h:dF w A f av ov):
  Calls prog 222 #[.pointer (some ⟨A,0,none⟩),.int .i64 a,.int .i64 b] w λe w'=>e=.returned (.bool (qA f a b))/\w'=w:=by
 have HA:=ab (bU a h);have HB:=ab (bU b h);have h0:=h.cls (i:=0) (by omega);unfold fH at h0;obtain⟨c0,Dl⟩:∃c0,c0=f.cl.getD 0 0:=⟨_,rfl⟩;rw[<-Dl]at h0;have HC:=ab Dl;clear h Dl;go_enter func222,ntmps222;go_wp2_with fail
 refine(uh HA).mono ?_;rintro e w1 ⟨rfl,rfl⟩;have JP:=rd (cR f.ow a);cases h1:(cR f.ow a).isSome <;> rw[h1]at JP
 all_goals
  go_wp2_with fail
  refine(uh HB).mono ?_;rintro e w1 ⟨rfl,rfl⟩;have NL:=rd (cR f.ow b);cases h2:(cR f.ow b).isSome <;> rw[h2]at NL
 .go_wp2_with fail
  go_ret;exact⟨by unfold qA;rw[h1,h2];rfl,rfl⟩
 .cases h3:((a:Int)==(c0:Int)) <;>
  .go_wp2_with fail
   go_ret;exact⟨by unfold qA;rw[h1,h2,<-uh HC];rw[bi]at h3;simp at h3;simp[h3],rfl⟩
 .cases h3:((b:Int)==(c0:Int)) <;>
  .go_wp2_with fail
   go_ret;exact⟨by unfold qA;rw[h1,h2,<-uh HC];rw[bi]at h3;simp at h3;simp[h3],rfl⟩
 .go_wp2_with fail
  go_ret;exact⟨by unfold qA;rw[h1,h2];rfl,rfl⟩
def Bg(a b:Nat)(p:Pr):Bool:=(p.l==a&&p.r==b)||(p.l==b&&p.r==a)
theorem Mt{f:CF}{a b k:Nat}(aJ:a≠b)(hk:k<f.ap.length)(h:Bg a b f.ap[k]=true):dS f a b=true:=by
 unfold dS;rw[if_neg aJ];have:f.ap.any (Bg a b)=true:=any_eq_true.2 ⟨_,getElem_mem hk,h⟩;show(f.ap.any (Bg a b)||qA f a b)=true;rw[this];rfl
theorem Mu{f:CF}{a b:Nat}(aJ:a≠b)(h:∀j,(hj:j<f.ap.length)->Bg a b f.ap[j]=false):dS f a b=qA f a b:=by
 unfold dS;rw[if_neg aJ];have:f.ap.any (Bg a b)=false:=by
  rw[any_eq_false];intro p hp;obtain⟨j,hj,rfl⟩:=mem_iff_getElem.1 hp;rw[h j hj];simp
 show(f.ap.any (Bg a b)||qA f a b)=_;rw[this];rfl
theorem kF{w:World}{A:Nat}{f:CF}{av ov:Value}(a b:Nat)(h:dF w A f av ov):
  Calls prog 245 #[.pointer (some ⟨A,0,none⟩),.int .i64 a,.int .i64 b] w λe w'=>e=.returned (.bool (dS f a b))/\Below w.heap.size w w':=by
 by_cases og:a=b
 .subst og;have he:((a:Int)==(a:Int))=true:=by simp
  go_enter func245,ntmps245;go_wp2_with fail
  go_ret;exact⟨by unfold dS;simp,Below.refl _ _⟩
 .have aJ:((a:Int)==(b:Int))=false:=by rw[bi];simpa using og
  obtain⟨ao,cap,jO,hm,KX,hc⟩:=cP h.ap;have h5:=h.c5;rw[jO]at h5;have HC:=ab hc;have HF:=ab h;clear hc jO h;unfold maxLen at hm;go_enter func245,ntmps245;go_wp2_with fail
  go_loopw [17] (λi wr=>∃k:Nat,k<=f.ap.length/\i=.int .i64 k/\Hid (∀j,(hj:j<f.ap.length)->j<k->Bg a b f.ap[j]=false)/\Below w.heap.size w wr) (λi _=>f.ap.length-(intOf i).toNat)
  case atStart=>exact⟨0,zq5 _,rfl,λ_ _ h=>absurd h (by omega),Below.refl _ _⟩
  case round =>
   obtain⟨k,hk,rfl,dh,bS⟩:=hrel;by_cases aq:k<f.ap.length
   .obtain⟨g,qo,aw⟩:=uh HC (by intro h;rw[h]at aq;simp at aq);subst qo;obtain⟨Dp,vI,vJ⟩:=aw k aq;have c0:=(bS.cell (block_lt_of_cell? w _ Dp)).trans Dp;have c1:=(bS.cell (block_lt_of_cell? w _ vI)).trans vI;have c2:=(bS.cell (block_lt_of_cell? w _ vJ)).trans vJ;clear aw Dp vI vJ;have HB:=ab bS;obtain⟨p,hp⟩:∃p,p=f.ap[k]:=⟨_,rfl⟩;rw[<-hp]at c0 c1 c2;have HP:=ab hp;clear bS hp;have HR:Hid (Bg a b p=true->dS f a b=true):=ab (λh=>Mt og aq (by rw[<-uh HP];exact h));have HN:Hid (Bg a b p=false->∀j,(hj:j<f.ap.length)->j<k+1->Bg a b f.ap[j]=false):=ab (λh j hj GM=>by
     by_cases e:j=k
     .subst e;rw[<-uh HP];exact h
     .exact dh.out j hj (by omega))
    have round:Bg a b p=false->(∃k_1:Nat,k_1<=f.ap.length/\Value.int IntKind.i64 ((k:Int)+1)=Value.int IntKind.i64 k_1/\Hid (∀(j:Nat) (hj:j<f.ap.length),j<k_1->Bg a b f.ap[j]=false)/\Below w.heap.size w (wr.alloc (Obj.cells #[Value.int IntKind.i64 p.k,Value.int IntKind.i64 p.l,Value.int IntKind.i64 p.r] 182)))/\f.ap.length-(intOf (Value.int IntKind.i64 ((k:Int)+1))).toNat<f.ap.length-(intOf (Value.int IntKind.i64 (k:Int))).toNat:=λh =>
     ⟨⟨k+1,by omega,by go_num,ab (uh HN h),(uh HB).alloc (uh HB).size _⟩,by simp[intOf];omega⟩
    have HRo:=ab round;clear round;cases h1:((p.l:Int)==(a:Int)) with
    |true =>
     have hla:Hid (p.l=a):=ab (by rw[bi]at h1;simpa using h1);cases h2:((p.r:Int)==(b:Int)) with
     |true =>
      have ED:Hid (p.r=b):=ab (by rw[bi]at h2;simpa using h2);go_wp2_with fail
      go_ret;exact⟨by rw[uh HR (by simp[Bg,uh hla,uh ED])];rfl,(uh HB).alloc (uh HB).size _⟩
     |false =>
      have h3:((p.l:Int)==(b:Int))=false:=(by rw[uh hla];exact aJ);have ED:Hid (p.r≠b):=ab (by rw[bi]at h2;simpa using h2);go_wp2_with fail
      exact uh HRo (by simp[Bg,uh hla,uh ED,og])
    |false =>
     have hla:Hid (p.l≠a):=ab (by rw[bi]at h1;simpa using h1);cases h3:((p.l:Int)==(b:Int)) with
     |true =>
      have GP:Hid (p.l=b):=ab (by rw[bi]at h3;simpa using h3);cases h4:((p.r:Int)==(a:Int)) with
      |true =>
       have hra:Hid (p.r=a):=ab (by rw[bi]at h4;simpa using h4);go_wp2_with fail
       go_ret;exact⟨by rw[uh HR (by simp[Bg,uh GP,uh hra])];rfl,(uh HB).alloc (uh HB).size _⟩
      |false =>
       have hra:Hid (p.r≠a):=ab (by rw[bi]at h4;simpa using h4);go_wp2_with fail
       exact uh HRo (by simp[Bg,uh hla,uh hra])
     |false =>
      have GP:Hid (p.l≠b):=ab (by rw[bi]at h3;simpa using h3);go_wp2_with fail
      exact uh HRo (by simp[Bg,uh hla,uh GP])
   .have hd:decide ((k:Int)<(f.ap.length:Int))=false:=(by simp;omega);go_wp2_with fail
    refine(wW a b ((uh HF).of_eq (λk hk=>bS.block k ((uh HF).lt k hk)))).mono ?_;rintro e w1 ⟨rfl,rfl⟩;go_wp2_with fail
    go_ret;exact⟨by rw[Mu og (λj hj=>dh.out j hj (by omega))];rfl,bS⟩
def QT(V:CF):List Nat->Nat->Nat->Prop
 |[],_,_=>False
 |[i],a,e=>(V.ow.getD i au).l=a/\(V.ow.getD i au).r=e
 |i::j::r,a,e=>(V.ow.getD i au).l=a/\QT V (j::r) (V.ow.getD i au).r e
def ie(V T:CF)(b:Nat->Option Nat):List Nat->List Nat->Prop
 |[],fr=>fr=[]
 |k::ks,fr=>∃L rest,fr.Perm (L++rest)/\(∃a e,b (T.ow.getD k au).l=some a/\b (T.ow.getD k au).r=some e/\QT V L a e)/\((T.ow.getD k au).k≠4->∃i,L=[i]/\(V.ow.getD i au).k≠4)/\ie V T b ks rest
theorem ie.swap{V T:CF}{b:Nat->Option Nat}{j k:Nat}{ks fr:List Nat}(h:ie V T b (j::k::ks) fr):ie V T b (k::j::ks) fr:=by
 obtain⟨L,rest,h1,h2,h3,L2,rest2,h4,h5,h6,h7⟩:=h;refine⟨L2,L++rest2,?_,h5,h6,L,rest2,List.Perm.refl _,h2,h3,h7⟩;refine h1.trans ((List.Perm.append_left L h4).trans ?_);rw[<-append_assoc,<-append_assoc];exact List.Perm.append_right rest2 perm_append_comm
theorem ie.cons{V T:CF}{b:Nat->Option Nat}{k:Nat}{ks ks':List Nat}(h:∀fr,ie V T b ks fr->ie V T b ks' fr){fr:List Nat}(hd:ie V T b (k::ks) fr):ie V T b (k::ks') fr:=by
 obtain⟨L,rest,h1,h2,h3,h4⟩:=hd;exact⟨L,rest,h1,h2,h3,h _ h4⟩
theorem ie.permK{V T:CF}{b:Nat->Option Nat}{ks ks':List Nat}(h:ks.Perm ks'):∀{fr:List Nat},ie V T b ks fr->ie V T b ks' fr:=by
 induction h with
 |nil=>intro fr h;exact h
 |cons k _ ih=>intro fr hd;exact ie.cons (λ_ h=>ih h) hd
 |swap j k r=>intro fr hd;exact ie.swap hd
 |trans _ _ h1 h2=>intro fr hd;exact h2 (h1 hd)
def qn(s:SS):List Nat:=(range s.ot.length).filter (λi=>(s.ot.getD i none).isNone)
def uP(s:SS):List Nat:=(range s.pl.length).filter (λk=>!s.pl.getD k false)
structure Wf(V T:CF)(s:SS):Prop where
 lo:s.ot.length=V.ow.length
 lp:s.pl.length=T.ow.length
 lb:s.bd.length=24
 un:s.un=(qn s).length
theorem aU{α:Type}(l:List α)(i j:Nat)(x d:α)(h:i<l.length):(l.set i x).getD j d=if i=j then x else l.getD j d:=by
 simp only[getD_eq_getElem?_getD,getElem?_set];by_cases e:i=j
 .subst e;simp[h]
 .simp[e]
theorem j9{α:Type}(l:List α)(i:Nat)(d:α):l.set i (l.getD i d)=l:=by
 apply ext_getElem?;intro n;by_cases hn:i=n
 .subst hn;by_cases h:i<l.length
  .simp[h]
  .simp[h]
 .simp[hn]
theorem ji{p q:Nat->Bool}{l:List Nat}{i:Nat}(hl:l.Nodup)(hi:i∈l)(hp:p i=true)(hq:q i=false)(h:∀j,j≠i->q j=p j):(l.filter p).Perm (i::l.filter q):=by
 induction l with
 |nil=>cases hi
 |cons a l ih =>
  have hn:=nodup_cons.1 hl;by_cases e:a=i
  .subst e;have:l.filter q=l.filter p:=filter_congr (λj hj=>h j (λe=>hn.1 (e ▸ hj)));simp[hp,hq,this]
  .have hm:i∈l:=by
    rcases mem_cons.1 hi with h|h
    .exact absurd h.symm e
    .exact h
   have h2:=h a e;cases KY:p a with
   |true =>
    rw[filter_cons_of_pos KY,filter_cons_of_pos (by rw[h2,KY])];exact(List.Perm.cons a (ih hn.2 hm)).trans (List.Perm.swap i a _)
   |false =>
    rw[filter_cons_of_neg (by simp[KY]),filter_cons_of_neg (by simp[h2,KY])];exact ih hn.2 hm
theorem By{s:SS}{i k:Nat}(hi:i<s.ot.length)(hn:s.ot.getD i none=none){s':SS}(h:s'.ot=s.ot.set i (some k)):(qn s).Perm (i::qn s'):=by
 unfold qn;rw[h,length_set];refine ji nodup_range (mem_range.2 hi) (by rw[hn];rfl) (by rw[aU _ _ _ _ _ hi];simp) (λj hj=>?_);rw[aU _ _ _ _ _ hi,if_neg (λe=>hj e.symm)]
theorem IQ{s:SS}{k:Nat}(hk:k∈uP s){s':SS}(h:s'.pl=s.pl.set k true):(uP s).Perm (k::uP s'):=by
 have h1:=mem_filter.1 hk;have hi:=mem_range.1 h1.1;unfold uP;rw[h,length_set];refine ji nodup_range h1.1 h1.2 (by rw[aU _ _ _ _ _ hi];simp) (λj hj=>?_);rw[aU _ _ _ _ _ hi,if_neg (λe=>hj e.symm)]
def Ext(s s':SS):Prop:=∀c a,s.b c=some a->s'.b c=some a
theorem gF{l:List Pr}{c i:Nat}(h:cR l c=some i):i<l.length/\(l.getD i au).l=c:=by
 induction l generalizing i with
 |nil=>cases h
 |cons p r ih =>
  simp only[cR]at h;split at h
  .cases h;exact⟨by simp,by simpa⟩
  .obtain⟨j,hj,rfl⟩:=Option.map_eq_some_iff.1 h;have:=ih hj;exact⟨by simp;omega,by simpa using this.2⟩
theorem L6{T:CF}{s:SS}:∀{l:List Nat} {o:Option Nat} {k:Nat},KM T s l o=some k->(k∈l/\s.pl.getD k false=false)\/o=some k:=by
 intro l;induction l with
 |nil=>intro o k h;exact zq1 h
 |cons a l ih =>
  intro o k h;simp only[KM]at h;split at h
  .rcases ih h with h1|h1
   .exact zq0 ⟨by simp[h1.1],h1.2⟩
   .exact zq1 h1
  .rename_i hp;split at h
   .cases h;exact zq0 ⟨by simp,by simpa using hp⟩
   .rcases ih h with h1|h1
    .exact zq0 ⟨by simp[h1.1],h1.2⟩
    .split at h1
     .exact zq1 h1
     .cases h1;exact zq0 ⟨by simp,by simpa using hp⟩
theorem Ba{T:CF}{s:SS}{k:Nat}(h:VW T s=some k):k∈uP s:=by
 rcases L6 h with h1|h1
 .exact mem_filter.2 ⟨h1.1,by rw[h1.2];rfl⟩
 .cases h1
def Rm(T:CF):Prop:=∀p∈T.ow,p.l<24/\p.r<24
theorem Rm.at{T:CF}(h:Rm T)(k:Nat):(T.ow.getD k au).l<24/\(T.ow.getD k au).r<24:=by
 by_cases hk:k<T.ow.length
 .have:T.ow.getD k au=T.ow[k]:=by simp[hk]
  rw[this];exact h _ (getElem_mem hk)
 .simp[getD_eq_getElem?_getD,getElem?_eq_none (Nat.le_of_not_lt hk),au]
def X2(V T:CF)(W:SS->Nat->Nat->Nat->Bool × SS):Prop :=
 ∀s k at_ count,Wf V T s->k∈uP s->(uP s).length+count=T.ow.length->∀b s',W s k at_ count=(b,s') ->
  (b=false->s'={ s with st:=s'.st }) /\
  (b=true->Ext s s'/\DI V T s'=true/\s'.bd.length=24/\∃L rest,(qn s).Perm (L++rest)/\(∃e,s'.b (T.ow.getD k au).r=some e/\QT V L at_ e)/\((T.ow.getD k au).k≠4->∃i,L=[i]/\(V.ow.getD i au).k≠4)/\ie V T s'.b ((uP s).erase k) rest)
def XW(V T:CF)(P:SS->Nat->Bool × SS):Prop :=
 ∀s count,Wf V T s->(uP s).length+count=T.ow.length->∀b s',P s count=(b,s') ->
  (b=false->s'={ s with st:=s'.st }) /\
  (b=true->Ext s s'/\DI V T s'=true/\s'.bd.length=24/\ie V T s'.b (uP s) (qn s))
theorem tQ{V T:CF}{b:Nat->Option Nat}{U fr L rest:List Nat}{k a:Nat}(hk:k∈U)(h1:fr.Perm (L++rest))(ha:b (T.ow.getD k au).l=some a)(h2:∃e,b (T.ow.getD k au).r=some e/\QT V L a e)(h3:(T.ow.getD k au).k≠4->∃i,L=[i]/\(V.ow.getD i au).k≠4)(h4:ie V T b (U.erase k) rest):ie V T b U fr:=by
 refine ie.permK (perm_cons_erase hk).symm ⟨L,rest,h1,?_,h3,h4⟩;obtain⟨e,he,hc⟩:=h2;exact⟨a,e,ha,he,hc⟩
theorem aaO{V T:CF}{W:SS->Nat->Nat->Nat->Bool × SS}(hW:X2 V T W){k left count:Nat}(hl:left<24)(lX:left=(T.ow.getD k au).l):∀(l:List Pr) (s:SS),Wf V T s->k∈uP s->(uP s).length+count=T.ow.length->∀b s',CA W k left count l s=(b,s') ->
  (b=false->s'={ s with st:=s'.st,bd:=s.bd.set left none }) /\
  (b=true->(∀c a,c≠left->s.b c=some a->s'.b c=some a)/\DI V T s'=true/\s'.bd.length=24/\ie V T s'.b (uP s) (qn s)):=by
 intro l;induction l with
 |nil =>
  intro s hw hk hc b s' h;simp only[CA]at h;cases h
  exact⟨λ_=>rfl,λh=>by cases h⟩
 |cons p r ih =>
  intro s hw hk hc b s' h;simp only[CA]at h;have rL:Wf V T { s with bd:=s.bd.set left (some p.l) }:=⟨hw.lo,hw.lp,by simpa using hw.lb,hw.un⟩;cases hr:W { s with bd:=s.bd.set left (some p.l) } k p.l count with
  |mk b2 s2 =>
   rw[hr]at h;have hx:=hW _ _ _ _ rL hk hc _ _ hr;cases b2 with
   |true =>
    cases h
    refine⟨λh=>(by cases h),λ_=>?_⟩;obtain⟨he,fT,Eh,L,rest,h1,h2,h3,h4⟩:=hx.2 rfl;have cf:∀c,({ s with bd:=s.bd.set left (some p.l) }:SS).b c=if left=c then some p.l else s.b c:=λc=>aU _ _ _ _ _ (by rw[hw.lb];exact hl)
    refine⟨λc a du ha=>he c a (by rw[cf,if_neg (λe=>du e.symm)];exact ha),fT,Eh,?_⟩;exact tQ hk h1 (by rw[<-lX];exact he left p.l (by rw[cf,if_pos rfl])) h2 h3 h4
   |false =>
    have h5:=hx.1 rfl;have e2:(uP s2)=uP s:=(by rw[h5];rfl);have e3:(qn s2)=qn s:=(by rw[h5];rfl);have GT:Wf V T s2:=(by rw[h5];exact⟨hw.lo,hw.lp,by simpa using hw.lb,hw.un⟩);have hy:=ih s2 GT (by rw[e2];exact hk) (by rw[e2];exact hc) _ _ h;refine⟨λhb=>?_,λhb=>?_⟩
    .have h6:=hy.1 hb;rw[h6,h5];simp
    .obtain⟨g1,g2,g3,g4⟩:=hy.2 hb;rw[e2,e3]at g4;refine⟨λc a du ha=>g1 c a du ?_,g2,g3,g4⟩;rw[h5];show(s.bd.set left (some p.l)).getD c none=some a;rw[aU _ _ _ _ _ (by rw[hw.lb];exact hl),if_neg (λe=>du e.symm)];exact ha
theorem uH{V T:CF}(hT:Rm T){W:SS->Nat->Nat->Nat->Bool × SS}(hW:X2 V T W):XW V T (pP W V T):=by
 intro s count hw hc b s' h;unfold pP at h;by_cases h0:T.ow.length=count
 .rw[if_pos h0]at h;cases h
  refine⟨λ_=>rfl,λhb=>?_⟩;simp only[Bool.and_eq_true,decide_eq_true_eq]at hb;have hu:uP s=[]:=eq_nil_of_length_eq_zero (by omega);have hf:qn s=[]:=eq_nil_of_length_eq_zero (by rw[<-hw.un];exact hb.1);exact⟨λ_ _ h=>h,hb.2,hw.lb,by rw[hu,hf];rfl⟩
 .rw[if_neg h0]at h;by_cases h1:s.un<T.ow.length-count
  .rw[if_pos h1]at h;cases h;exact⟨λ_=>rfl,λhb=>by cases hb⟩
  .rw[if_neg h1]at h;cases r8:VW T s with
   |none=>rw[r8]at h;cases h;exact⟨λ_=>rfl,λhb=>by cases hb⟩
   |some k =>
    rw[r8]at h;dsimp only at h;have hk:=Ba r8;cases hb:s.b (T.ow.getD k au).l with
    |some a =>
     rw[hb]at h;have hx:=hW _ _ _ _ hw hk hc _ _ h;refine⟨hx.1,λvy=>?_⟩;obtain⟨he,fT,Eh,L,rest,g1,g2,g3,g4⟩:=hx.2 vy;exact⟨he,fT,Eh,tQ hk g1 (he _ _ hb) g2 g3 g4⟩
    |none =>
     rw[hb]at h;have hx:=aaO hW (hT.at k).1 rfl _ _ hw hk hc _ _ h;refine⟨λZa=>?_,λvy=>?_⟩
     .have h6:=hx.1 Za;rw[h6];have:s.bd.set (T.ow.getD k au).l none=s.bd:=by
       have:=j9 s.bd (T.ow.getD k au).l none;rw[show s.bd.getD (T.ow.getD k au).l none=none from hb]at this;exact this
      rw[this]
     .obtain⟨g1,g2,g3,g4⟩:=hx.2 vy;refine⟨λc a ha=>g1 c a (λe=>?_) ha,g2,g3,g4⟩;rw[e,hb]at ha;cases ha
theorem MA{V T:CF}(hT:Rm T){P:SS->Nat->Bool × SS}(hP:XW V T P){s:SS}{k at_ count:Nat}(hw:Wf V T s)(hk:k∈uP s)(hc:(uP s).length+count=T.ow.length){b:Bool}{s':SS}(h:yB P T s k at_ count=(b,s')):
  (b=false->s'={ s with st:=s'.st })/\(b=true->Ext s s'/\DI V T s'=true/\s'.bd.length=24/\s'.b (T.ow.getD k au).r=some at_/\ie V T s'.b ((uP s).erase k) (qn s)):=by
 unfold yB at h;by_cases h0:s.b (T.ow.getD k au).r≠none/\s.b (T.ow.getD k au).r≠some at_
 .rw[if_pos h0]at h;cases h;exact⟨λ_=>rfl,λhb=>by cases hb⟩
 .rw[if_neg h0]at h;have rL:Wf V T { s with bd:=s.bd.set (T.ow.getD k au).r (some at_),pl:=s.pl.set k true }:=⟨hw.lo,by simpa using hw.lp,by simpa using hw.lb,hw.un⟩;have xH:=IQ (s:=s) hk (s':={ s with bd:=s.bd.set (T.ow.getD k au).r (some at_),pl:=s.pl.set k true }) rfl;have lX:=xH.length_eq;rw[length_cons]at lX;have cf:∀c,({ s with bd:=s.bd.set (T.ow.getD k au).r (some at_),pl:=s.pl.set k true }:SS).b c=if (T.ow.getD k au).r=c then some at_ else s.b c:=λc=>aU _ _ _ _ _ (by rw[hw.lb];exact(hT.at k).2)
  cases hr:P { s with bd:=s.bd.set (T.ow.getD k au).r (some at_),pl:=s.pl.set k true } (count+1) with
  |mk b2 s2 =>
   rw[hr]at h;have hx:=hP _ _ rL (by omega) _ _ hr;cases b2 with
   |true =>
    cases h
    refine⟨λh=>(by cases h),λ_=>?_⟩;obtain⟨he,fT,Eh,hd⟩:=hx.2 rfl;refine⟨λc a ha=>he c a ?_,fT,Eh,he _ _ (by rw[cf,if_pos rfl]),ie.permK ?_ hd⟩
    .rw[cf];by_cases e:(T.ow.getD k au).r=c
     .rw[if_pos e];subst e;by_cases e2:a=at_
      .rw[e2]
      .exact absurd ⟨by rw[ha];simp,by rw[ha];simpa using e2⟩ h0
     .rw[if_neg e];exact ha
    .exact(perm_cons k).1 (xH.symm.trans (perm_cons_erase hk))
   |false =>
    cases h
    refine⟨λ_=>?_,λh=>by cases h⟩;have h5:=hx.1 rfl;rw[h5];have e1:(s.bd.set (T.ow.getD k au).r (some at_)).set (T.ow.getD k au).r (s.b (T.ow.getD k au).r)=s.bd:=by
     rw[set_set];exact j9 _ _ _
    have e2:(s.pl.set k true).set k false=s.pl:=by
     rw[set_set];have:=j9 s.pl k false;rwa [show s.pl.getD k false=false by simpa using (mem_filter.1 hk).2]at this
    simp only[e1,e2]
theorem L7{V:CF}{i:Nat}{L:List Nat}{e:Nat}(h:QT V L (V.ow.getD i au).r e):QT V (i::L) (V.ow.getD i au).l e:=by
 cases L with
 |nil=>exact h.elim
 |cons j r=>exact⟨rfl,h⟩
theorem yg{V T:CF}(hT:Rm T):∀m,X2 V T (wk V T m):=by
 intro m;induction m with
 |zero =>
  intro s k at_ count hw hk hc b s' h;simp only[wk]at h;cases h
  exact⟨λ_=>rfl,λhb=>by cases hb⟩
 |succ m ih =>
  intro s k at_ count hw hk hc b s' h;simp only[wk]at h;by_cases h0:wrap64 (s.st-1)<0
  .rw[if_pos h0]at h;cases h;exact⟨λ_=>rfl,λhb=>by cases hb⟩
  .rw[if_neg h0]at h;cases oh:cR V.ow at_ with
   |none=>rw[oh]at h;cases h;exact⟨λ_=>rfl,λhb=>by cases hb⟩
   |some i =>
    rw[oh]at h;dsimp only at h;obtain⟨hi,xB⟩:=gF oh;by_cases h1:s.ot.getD i none≠none
    .rw[if_pos h1]at h;cases h;exact⟨λ_=>rfl,λhb=>by cases hb⟩
    .rw[if_neg h1]at h;have hn:s.ot.getD i none=none:=Classical.byContradiction h1;by_cases h2:(T.ow.getD k au).k≠4/\(V.ow.getD i au).k=4
     .rw[if_pos h2]at h;cases h;exact⟨λ_=>rfl,λhb=>by cases hb⟩
     .rw[if_neg h2]at h;have Wv:i<s.ot.length:=(by rw[hw.lo];exact hi);obtain⟨s1,cY⟩:∃s1:SS,s1={ s with st:=wrap64 (s.st-1),ot:=s.ot.set i (some k),un:=s.un-1 }:=⟨_,rfl⟩;rw[<-cY]at h;have ir:(qn s).Perm (i::qn s1):=By Wv hn (by rw[cY]);have jE:=ir.length_eq;rw[length_cons]at jE;have xI:Wf V T s1:=by
       refine⟨by rw[cY];simpa using hw.lo,by rw[cY];exact hw.lp,by rw[cY];exact hw.lb,?_⟩;have h3:s1.un=s.un-1:=(by rw[cY]);have h4:=hw.un;omega
      have hu1:uP s1=uP s:=(by rw[cY];rfl);have afH:(T.ow.getD k au).k≠4->(V.ow.getD i au).k≠4:=λa b=>h2 ⟨a,b⟩;cases hr:yB (pP (wk V T m) V T) T s1 k (V.ow.getD i au).r count with
      |mk b2 s2 =>
       rw[hr]at h;have hx:=MA hT (uH hT ih) xI (by rw[hu1];exact hk) (by rw[hu1];exact hc) hr;cases b2 with
       |true =>
        cases h
        refine⟨λh=>(by cases h),λ_=>?_⟩;obtain⟨he,fT,Eh,hbr,hd⟩:=hx.2 rfl;rw[hu1]at hd;refine⟨λc a ha=>he c a (by rw[cY];exact ha),fT,Eh,[i],qn s1,ir,⟨_,hbr,xB,rfl⟩,λue=>⟨i,rfl,afH ue⟩,hd⟩
       |false =>
        dsimp only at h;have h5:=hx.1 rfl;have hu2:uP s2=uP s:=(by rw[h5];exact hu1);have jK:qn s2=qn s1:=(by rw[h5];rfl);have rL:Wf V T s2:=(by rw[h5];exact⟨xI.lo,xI.lp,xI.lb,xI.un⟩);have Wk:∀s3:SS,s3={ s1 with st:=s3.st }->({ s3 with ot:=s3.ot.set i none,un:=s3.un+1 }:SS)={ s with st:=s3.st }:=by
         intro s3 h3;rw[h3,cY];have e1:(s.ot.set i (some k)).set i none=s.ot:=by
          rw[set_set];have:=j9 s.ot i none;rwa [hn]at this
         have e2:s.un-1+1=s.un:=(by have:=hw.un;omega);simp only[e1,e2]
        by_cases ue:(T.ow.getD k au).k=4
        .rw[if_pos ue]at h;cases hr3:wk V T m s2 k (V.ow.getD i au).r count with
         |mk b3 s3 =>
          rw[hr3]at h;have hy:=ih _ _ _ _ rL (by rw[hu2];exact hk) (by rw[hu2];exact hc) _ _ hr3;cases b3 with
          |true =>
           cases h
           refine⟨λh=>(by cases h),λ_=>?_⟩;obtain⟨he,fT,Eh,L,rest,g1,⟨e,g2,g2'⟩,_,g4⟩:=hy.2 rfl;rw[hu2]at g4;rw[jK]at g1;refine⟨λc a ha=>he c a (by rw[h5,cY];exact ha),fT,Eh,i::L,rest,ir.trans (List.Perm.cons i g1),⟨e,g2,by rw[<-xB];exact L7 g2'⟩,λZ1=>absurd ue Z1,g4⟩
          |false =>
           cases h
           refine⟨λ_=>?_,λh=>by cases h⟩;have h6:=hy.1 rfl;have h7:s3={ s1 with st:=s3.st }:=(by rw[h6,h5]);exact Wk s3 h7
        .rw[if_neg ue]at h;cases h
         exact⟨λ_=>Wk s2 h5,λh=>by cases h⟩
def Xf(A:Nat):Value:=.pointer (some ⟨A,0,none⟩)
def f8(F0 T0:Nat)(an:List (Option Nat)):List Value:=[Xf F0,Xf T0]++a6 an
def Ip(V0:Nat)(s:SS)(ov pv:Value):List Value:=[Xf V0,ov,.int .i64 (s.un:Int),pv,.int .i64 s.st]
def mi(F0 T0 V0:Nat)(an:List (Option Nat))(s:SS)(ov pv:Value):List Value:=f8 F0 T0 an++(a6 s.bd++Ip V0 s ov pv)
def Ee(Q:Nat)(ov pv:Value):List Nat:=Q::(ov.ownBlock.toList++pv.ownBlock.toList)
structure oO where
 q:Nat
 f:Nat
 t:Nat
 v:Nat
 an:List (Option Nat)
 tav:Value
 tov:Value
 vav:Value
 vov:Value
 ov:Value
 pv:Value
def oO.fp(y:oO):List Nat:=Ee y.q y.ov y.pv
structure Sw(w:World)(y:oO)(T V:CF)(s:SS):Prop where
 ob:Ob w 202 55 y.q (mi y.f y.t y.v y.an s y.ov y.pv)
 la:y.an.length=24
 lb:s.bd.length=24
 ow:w.ownsRow 0 3 1 y.ov s.ot.length (a6 s.ot)
 pl:w.ownsRow 0 4 1 y.pv s.pl.length (s.pl.map Value.bool)
 nd:y.fp.Nodup
 ft:dF w y.t T y.tav y.tov
 fv:dF w y.v V y.vav y.vov
 dt:∀k∈aD y.t y.tav y.tov,k ∉ y.fp
 dv:∀k∈aD y.v y.vav y.vov,k ∉ y.fp
section
variable {w w':World} {y:oO} {T V:CF} {s s':SS}
theorem aK(l:List (Option Nat)):(a6 l).length=l.length:=by simp[a6]
theorem eZ(h:Sw w y T V s):(f8 y.f y.t y.an).length=26:=by simp[f8,aK,h.la]
theorem Sw.qlt(h:Sw w y T V s):∀k∈y.fp,k<w.heap.size:=by
 intro k hk;simp only[oO.fp,Ee,mem_cons,mem_append,Option.mem_toList]at hk;rcases hk with rfl|hk|hk
 .exact(ownsRow.lt h.ob _ rfl).2
 .exact(h.ow.lt k hk).2
 .exact(h.pl.lt k hk).2
theorem Sw.frz(h:Sw w y T V s)(j:Nat):w.frozen? ⟨y.q,j,none⟩=false:=ownsRow.frozenAt h.ob j
theorem Sw.c1(h:Sw w y T V s):w.cell? ⟨y.q,1,none⟩=some (.pointer (some ⟨y.t,0,none⟩)):=by rw[ownsRow.cellAt h.ob 1 (by omega)];rfl
theorem Sw.tail(h:Sw w y T V s){j:Nat}(hj:j<5):w.cell? ⟨y.q,50+j,none⟩=(Ip y.v s y.ov y.pv)[j]?:=by
 rw[ownsRow.cellAt h.ob (50+j) (by omega)];unfold mi;rw[getElem?_append_right (by rw[eZ h];omega),eZ h,getElem?_append_right (by rw[aK,h.lb];omega),aK,h.lb];rw[show 50+j-26-24=j by omega]
theorem Sw.cv(h:Sw w y T V s):w.cell? ⟨y.q,50,none⟩=some (.pointer (some ⟨y.v,0,none⟩)):=h.tail (j:=0) (by omega)
theorem Sw.co(h:Sw w y T V s):w.cell? ⟨y.q,51,none⟩=some y.ov:=h.tail (j:=1) (by omega)
theorem Sw.cu(h:Sw w y T V s):w.cell? ⟨y.q,52,none⟩=some (.int .i64 (s.un:Int)):=h.tail (j:=2) (by omega)
theorem Sw.cp(h:Sw w y T V s):w.cell? ⟨y.q,53,none⟩=some y.pv:=h.tail (j:=3) (by omega)
theorem Sw.cs(h:Sw w y T V s):w.cell? ⟨y.q,54,none⟩=some (.int .i64 s.st):=h.tail (j:=4) (by omega)
theorem Sw.cb(h:Sw w y T V s){r:Nat}(hr:r<24):w.cell? ⟨y.q,26+r,none⟩=some (.int .i64 (dp (s.b r))):=by
 rw[ownsRow.cellAt h.ob (26+r) (by omega)];unfold mi;rw[getElem?_append_right (by rw[eZ h];omega),eZ h,getElem?_append_left (by rw[aK,h.lb];omega)];rw[show 26+r-26=r by omega];have hl:r<s.bd.length:=by rw[h.lb];exact hr
 simp[a6,SS.b,hl]
theorem Sw.setQ(h:Sw w y T V s){j:Nat}{u:Value}(hq:(mi y.f y.t y.v y.an s y.ov y.pv).set j u=mi y.f y.t y.v y.an s' y.ov y.pv)(h1:s'.bd.length=24)(h2:s'.ot=s.ot)(h3:s'.pl=s.pl):Sw (w.setCell ⟨y.q,j,none⟩ u) y T V s':=by
 have lI:=(ownsRow.stored h.ob j u).1;rw[hq]at lI;have hn:=h.nd;simp only[oO.fp,Ee,nodup_cons,mem_append,Option.mem_toList,not_or]at hn;have gL:∀k,k≠y.q->(w.setCell ⟨y.q,j,none⟩ u).heap[k]?=w.heap[k]?:=λk hk=>heap_setCell _ _ _ _ (λe=>hk e);refine⟨lI,h.la,h1,?_,?_,h.nd,?_,?_,h.dt,h.dv⟩
 .rw[h2];exact ae h.ow (λk hk=>gL k (by rintro rfl;exact hn.1.1 hk))
 .rw[h3];exact ae h.pl (λk hk=>gL k (by rintro rfl;exact hn.1.2 hk))
 .exact h.ft.of_eq (λk hk=>gL k (by rintro rfl;exact h.dt _ hk (by simp[oO.fp,Ee])))
 .exact h.fv.of_eq (λk hk=>gL k (by rintro rfl;exact h.dv _ hk (by simp[oO.fp,Ee])))
theorem Sw.setB(h:Sw w y T V s){r:Nat}(hr:r<24)(o:Option Nat):Sw (w.setCell ⟨y.q,26+r,none⟩ (.int .i64 (dp o))) y T V { s with bd:=s.bd.set r o }:=by
 refine h.setQ ?_ (by simpa using h.lb) rfl rfl;unfold mi;rw[set_append_right (26+r) _ (by rw[eZ h];omega),eZ h,show 26+r-26=r by omega,set_append_left r _ (by rw[aK,h.lb];exact hr)];congr 2;simp[a6,map_set]
theorem Sw.setT(h:Sw w y T V s){j:Nat}{u:Value}(h1:(Ip y.v s y.ov y.pv).set j u=Ip y.v s' y.ov y.pv)(hb:s'.bd=s.bd)(h2:s'.ot=s.ot)(h3:s'.pl=s.pl):Sw (w.setCell ⟨y.q,50+j,none⟩ u) y T V s':=by
 refine h.setQ ?_ (by rw[hb];exact h.lb) h2 h3;unfold mi;rw[set_append_right (50+j) _ (by rw[eZ h];omega),eZ h,set_append_right (50+j-26) _ (by rw[aK,h.lb];omega),aK,h.lb,show 50+j-26-24=j by omega,h1,hb]
theorem Sw.setUn(h:Sw w y T V s)(n:Nat):Sw (w.setCell ⟨y.q,52,none⟩ (.int .i64 (n:Int))) y T V { s with un:=n }:=h.setT (j:=2) rfl rfl rfl rfl
theorem Sw.setSt(h:Sw w y T V s)(n:Int):Sw (w.setCell ⟨y.q,54,none⟩ (.int .i64 n)) y T V { s with st:=n }:=h.setT (j:=4) rfl rfl rfl rfl
theorem Sw.own(h:Sw w y T V s)(hn:s.ot≠[]):∃O cap,y.ov=.slice (some ⟨O,0,none⟩) s.ot.length cap/\s.ot.length<=cap/\cap<=maxLen/\(∀i,i<s.ot.length->w.cell? ⟨O,i,none⟩=some (.int .i64 (dp (s.ot.getD i none))))/\(∀j,w.frozen? ⟨O,j,none⟩=false):=by
 have ho:=h.ow;rcases h.ow.2 with⟨_,h0⟩|⟨O,cap,cur,hv,_,_,KX,hm,_⟩
 .exact absurd (eq_nil_of_length_eq_zero h0) hn
 .rw[hv]at ho;refine⟨O,cap,hv,KX,hm,λi hi=>?_,λj=>ho.frozenAt j⟩;rw[ho.cellAt i (by omega)];simp[a6,hi]
theorem Sw.plc(h:Sw w y T V s)(hn:s.pl≠[]):∃L cap,y.pv=.slice (some ⟨L,0,none⟩) s.pl.length cap/\s.pl.length<=cap/\cap<=maxLen/\(∀i,i<s.pl.length->w.cell? ⟨L,i,none⟩=some (.bool (s.pl.getD i false)))/\(∀j,w.frozen? ⟨L,j,none⟩=false):=by
 have ho:=h.pl;rcases h.pl.2 with⟨_,h0⟩|⟨O,cap,cur,hv,_,_,KX,hm,_⟩
 .exact absurd (eq_nil_of_length_eq_zero h0) hn
 .rw[hv]at ho;refine⟨O,cap,hv,KX,hm,λi hi=>?_,λj=>ho.frozenAt j⟩;rw[ho.cellAt i (by omega)];simp[hi]
theorem Sw.setO(h:Sw w y T V s){O cap:Nat}(hv:y.ov=.slice (some ⟨O,0,none⟩) s.ot.length cap)(i:Nat)(o:Option Nat):Sw (w.setCell ⟨O,i,none⟩ (.int .i64 (dp o))) y T V { s with ot:=s.ot.set i o }:=by
 have ho:=h.ow;rw[hv]at ho;have aE:=(ho.stored i (.int .i64 (dp o))).1;have hm:O∈y.fp:=by simp[oO.fp,Ee,hv,Value.ownBlock]
 have hn:=h.nd;simp only[oO.fp,Ee,nodup_cons,mem_append,Option.mem_toList,not_or,nodup_append]at hn;have lI:y.ov.ownBlock=some O:=by rw[hv];rfl
 have gL:∀k,k≠O->(w.setCell ⟨O,i,none⟩ (.int .i64 (dp o))).heap[k]?=w.heap[k]?:=λk hk=>heap_setCell _ _ _ _ (λe=>hk e);refine⟨h.ob.of_eq (gL _ (λe=>hn.1.1 (by rw[lI,e]))),h.la,h.lb,?_,?_,h.nd,?_,?_,h.dt,h.dv⟩
 .rw[hv];have e:(a6 s.ot).set i (.int .i64 (dp o))=a6 (s.ot.set i o):=by simp[a6,map_set]
  rw[e]at aE;simpa using aE
 .exact ae h.pl (λk hk=>gL k (by rintro rfl;exact hn.2.2.2 _ lI _ hk rfl))
 .exact h.ft.of_eq (λk hk=>gL k (by rintro rfl;exact h.dt _ hk hm))
 .exact h.fv.of_eq (λk hk=>gL k (by rintro rfl;exact h.dv _ hk hm))
theorem Sw.setP(h:Sw w y T V s){O cap:Nat}(hv:y.pv=.slice (some ⟨O,0,none⟩) s.pl.length cap)(i:Nat)(o:Bool):Sw (w.setCell ⟨O,i,none⟩ (.bool o)) y T V { s with pl:=s.pl.set i o }:=by
 have ho:=h.pl;rw[hv]at ho;have aE:=(ho.stored i (.bool o)).1;have hm:O∈y.fp:=by simp[oO.fp,Ee,hv,Value.ownBlock]
 have hn:=h.nd;simp only[oO.fp,Ee,nodup_cons,mem_append,Option.mem_toList,not_or,nodup_append]at hn;have lI:y.pv.ownBlock=some O:=by rw[hv];rfl
 have gL:∀k,k≠O->(w.setCell ⟨O,i,none⟩ (.bool o)).heap[k]?=w.heap[k]?:=λk hk=>heap_setCell _ _ _ _ (λe=>hk e);refine⟨h.ob.of_eq (gL _ (λe=>hn.1.2 (by rw[lI,e]))),h.la,h.lb,?_,?_,h.nd,?_,?_,h.dt,h.dv⟩
 .exact ae h.ow (λk hk=>gL k (by rintro rfl;exact hn.2.2.2 _ hk _ lI rfl))
 .rw[hv];have e:(s.pl.map Value.bool).set i (.bool o)=(s.pl.set i o).map Value.bool:=by simp[map_set]
  rw[e]at aE;simpa using aE
 .exact h.ft.of_eq (λk hk=>gL k (by rintro rfl;exact h.dt _ hk hm))
 .exact h.fv.of_eq (λk hk=>gL k (by rintro rfl;exact h.dv _ hk hm))
theorem Sw.of_eq(h:Sw w y T V s)(he:∀k,k<w.heap.size->w'.heap[k]?=w.heap[k]?):Sw w' y T V s :=
 ⟨h.ob.of_eq (he _ (ownsRow.lt h.ob _ rfl).2),h.la,h.lb,ae h.ow (λk hk=>he k (h.ow.lt k hk).2),ae h.pl (λk hk=>he k (h.pl.lt k hk).2),h.nd,
  h.ft.of_eq (λk hk=>he k (h.ft.lt k hk)),h.fv.of_eq (λk hk=>he k (h.fv.lt k hk)),h.dt,h.dv⟩
theorem Sw.below(h:Sw w y T V s)(hb:Below w.heap.size w w'):Sw w' y T V s:=h.of_eq (λk hk=>hb.block k hk)
theorem Sw.memQ(y:oO):y.q∈y.fp:=by simp[oO.fp,Ee]
theorem Sw.memO{O n cap:Nat}(hv:y.ov=.slice (some ⟨O,0,none⟩) n cap):O∈y.fp:=by simp[oO.fp,Ee,hv,Value.ownBlock]
theorem Sw.memP{O n cap:Nat}(hv:y.pv=.slice (some ⟨O,0,none⟩) n cap):O∈y.fp:=by simp[oO.fp,Ee,hv,Value.ownBlock]
end
