import Derived.Test.YtciihepbeacppaaGreatEF
import Derived.Test.YtciihepbeacppaaGreatM28
namespace Go.Proofs.YtciihepbeacppaaGreat
open Go.RowKit List
set_option linter.unusedVariables false
def zP(vs:List UInt8)(x:ByteArray)(i:Nat):Prop:=aK x=true/\vs[i]?=some (Cm x)
def ST(vs:List UInt8)(y:ByteArray)(k i:Nat):Prop:=(y=cC/\k=0)\/(k=1/\zP vs y i)
theorem zP.up{vs vs':List UInt8}{x:ByteArray}{i:Nat}(h:zP vs x i)(hp:vs <+: vs'):zP vs' x i:=by
 obtain⟨r,rfl⟩:=hp;refine⟨h.1,?_⟩;rw[getElem?_append_left (List.getElem?_eq_some_iff.1 h.2).1];exact h.2
theorem ST.up{vs vs':List UInt8}{x:ByteArray}{k i:Nat}(h:ST vs x k i)(hp:vs <+: vs'):ST vs' x k i:=by
 rcases h with h|h
 .exact zq0 h
 .exact zq1 ⟨h.1,h.2.up hp⟩
def TI(vs:List UInt8)(nd:Nd)(i:pE):Prop :=
 i.op=rx/\((i.cond=bJ/\nd.op=7)\/(i.cond=bS/\nd.op=8/\zP vs i.x nd.v/\ST vs i.y nd.ak nd.ai)\/(i.cond=kU/\nd.op=9/\zP vs i.x nd.v/\ST vs i.y nd.ak nd.ai))
def SI(vs:List UInt8)(nd:Nd)(i:pE):Prop :=
 (i.op=cC/\nd.op=1/\zP vs i.x nd.v/\nd.ak=0) \/
 (i.op=yU/\nd.op=1/\zP vs i.x nd.v/\nd.ak=1/\zP vs i.y nd.ai) \/
 (i.op=lB/\nd.op=4/\zP vs i.x nd.v) \/
 (i.op=zt/\nd.op=2/\zP vs i.x nd.v/\nd.ak=1/\zP vs i.y nd.ai) \/
 (i.op=sK/\nd.op=3/\zP vs i.x nd.v/\ST vs i.y nd.ak nd.ai) \/
 (i.op=fL/\nd.op=5/\zP vs i.x nd.v) \/
 (i.op=aD/\nd.op=6)
def NI(vs:List UInt8)(j:Nat)(nd:Nd)(i:pE):Prop :=
 (SI vs nd i/\nd.nx=j+1)\/(TI vs nd i/\nd.nx=j+1/\nd.ot=i.to)\/(i.op=Zy/\nd.op=10/\nd.nx=i.to)
def Er(vs:List UInt8):Nat->List Nd->List pE->Prop
 |_,[],[]=>True
 |n,a::N,b::C=>NI vs n a b/\Er vs (n+1) N C
 |_,_,_=>False
theorem Er.len{vs:List UInt8}:∀{n:Nat} {N:List Nd} {C:List pE},Er vs n N C->N.length=C.length
 |_,[],[],_=>rfl
 |_,_::_,_::_,h=>by simp[h.2.len]
 |_,[],_::_,h=>by cases h
 |_,_::_,[],h=>by cases h
theorem Er.app{vs:List UInt8}{N':List Nd}{C':List pE}:∀{n:Nat} {N:List Nd} {C:List pE},Er vs n N C->Er vs (n+N.length) N' C'->Er vs n (N++N') (C++C')
 |_,[],[],_,h=>h
 |n,_::N,_::_,h,h'=>⟨h.1,h.2.app (by rw[length_cons,show n+(N.length+1)=n+1+N.length by omega]at h';exact h')⟩
 |_,[],_::_,h,_=>by cases h
 |_,_::_,[],h,_=>by cases h
theorem Er.get{vs:List UInt8}:∀{n:Nat} {N:List Nd} {C:List pE},Er vs n N C->∀j nd i,N[j]?=some nd->C[j]?=some i->NI vs (n+j) nd i
 |_,[],[],_,_,_,_,h1,_=>by simp at h1
 |n,_::_,_::_,h,0,_,_,h1,h2=>by
  simp only[getElem?_cons_zero,Option.some.injEq]at h1 h2;subst h1;subst h2;exact h.1
 |n,_::_,_::_,h,j+1,_,_,h1,h2=>by
  simp only[getElem?_cons_succ]at h1 h2;have:=h.2.get j _ _ h1 h2;rw[show n+1+j=n+(j+1) by omega]at this;exact this
 |_,[],_::_,h,_,_,_,_,_=>by cases h
 |_,_::_,[],h,_,_,_,_,_=>by cases h
theorem zw{α:Type}(f:α->α)(t:α)(R:List α):∀A:List α,(A++t::R).modify A.length f=A++f t::R
 |[]=>rfl
 |a::A=>by simp[modify_succ_cons,zw f t R A]
theorem wD{α:Type}(f:α->α)(t:α)(R A:List α){n:Nat}(h:n=A.length):(A++t::R).modify n f=A++f t::R:=by subst h;exact zw f t R A
structure zQ(ws:List ByteArray)(s s':PS)(r:List ByteArray):Prop where
 rd:Rd ws s' r
 nd:s'.nodes=s.nodes
 vs:s.vars <+: s'.vars
theorem zQ.trans{ws:List ByteArray}{s s' s'':PS}{r r':List ByteArray}(h:zQ ws s s' r)(k:zQ ws s' s'' r'):zQ ws s s'' r':=⟨k.rd,k.nd.trans h.nd,h.vs.trans k.vs⟩
theorem jf{ws:List ByteArray}{s:PS}{x:ByteArray}{r:List ByteArray}(h:Rd ws s (x::r)):zQ ws s s.adv r:=⟨c9 h,rfl,prefix_refl _⟩
theorem cy{ws:List ByteArray}{s:PS}{k x:ByteArray}{r:List ByteArray}(hk:k.toList≠[])(h:Rd ws s (x::r)):bK ws k s=aX x k:=dA hk h
theorem ej{ws:List ByteArray}{s:PS}{k:ByteArray}{r:List ByteArray}(hk:k.toList≠[])(h:Rd ws s (k::r)):zQ ws s (aF ws k s) r:=by
 unfold aF;rw[cy hk h,aT,if_pos rfl];exact jf h
theorem QS(l:List UInt8)(c:UInt8):l <+: put l c:=by
 unfold put;split
 .exact prefix_append _ _
 .exact prefix_refl _
theorem QI(l:List UInt8)(c:UInt8)(h:plc l c≠l.length):l[plc l c]?=some c:=by
 induction l with
 |nil=>exact absurd rfl h
 |cons x r ih =>
  simp only[plc]at h ⊢;by_cases hx:x=c
  .rw[if_pos hx];simp[hx]
  .rw[if_neg hx]at h ⊢;rw[getElem?_cons_succ];exact ih (by simpa using h)
theorem QQ(l:List UInt8)(c:UInt8):(put l c)[plc l c]?=some c:=by
 unfold put;by_cases h:plc l c=l.length
 .rw[if_pos h,h];simp
 .rw[if_neg h];exact QI l c h
theorem xn{ws:List ByteArray}{s:PS}{x:ByteArray}{r:List ByteArray}(h:Rd ws s (x::r))(hx:aK x=true):zQ ws s (bD ws s) r/\zP (bD ws s).vars x (mN ws s):=by
 have e1:bD ws s={ s with pos:=s.pos+1,vars:=put s.vars (Cm x) }:=by unfold bD;rw[zB h,if_pos hx]
 have e2:mN ws s=plc s.vars (Cm x):=by unfold mN;rw[zB h,if_pos hx]
 rw[e1,e2];exact⟨⟨⟨h.1,(c9 h).2⟩,rfl,QS _ _⟩,hx,QQ _ _⟩
theorem kJ:aK cC=false:=rfl
theorem BU{ws:List ByteArray}{s:PS}{x:ByteArray}{r:List ByteArray}(h:Rd ws s (x::r))(hx:x=cC\/aK x=true):zQ ws s (b9 ws s) r/\ST (b9 ws s).vars x (dS ws s) (fe ws s):=by
 rcases hx with rfl|hx
 .have e:bK ws kt s=true:=(cy wg h).trans (aT _);unfold b9 dS fe;rw[e,if_pos rfl,if_pos rfl];exact⟨jf h,zq0 ⟨rfl,rfl⟩⟩
 .have e:bK ws kt s=false:=(cy wg h).trans (bj (eX hx kJ));unfold b9 dS fe;rw[e,if_neg (by simp),if_neg (by simp),if_neg (by simp)];exact⟨(xn h hx).1,zq1 ⟨rfl,(xn h hx).2⟩⟩
theorem Rv{ws:List ByteArray}{s t:PS}{r:List ByteArray}(nd:Nd)(h:zQ ws s t r):Rd ws (cg nd t) r/\(cg nd t).nodes=s.nodes++[{ nd with nx:=s.nodes.length+1 }]/\s.vars <+: (cg nd t).vars:=by
 refine⟨h.rd,?_,h.vs⟩;show t.nodes++[{ nd with nx:=t.nodes.length+1 }]=_;rw[h.nd]
theorem ahx{ws:List ByteArray}{s:PS}{c q:List ByteArray}(hc:pC c)(h:Rd ws s (c++q)):zQ ws s (tE ws s) q/\TI (tE ws s).vars (Ca ws s) (Mw c)/\(Ca ws s).ot=0/\(Mw c).to=0:=by
 cases hc using pC.ind with
 |star =>
  have e:bK ws dD s=true:=(cy od h).trans (aT _);unfold tE Ca;rw[e,if_pos rfl,if_pos rfl];exact⟨jf h,⟨rfl,zq0 ⟨rfl,rfl⟩⟩,rfl,rfl⟩
 |@two a b c ha hb hc =>
  have e:bK ws dD s=false:=(cy od h).trans (bj (eX ha rfl));have h1:=xn h ha;have Kx:Rd ws (bD ws s) (b::c::q):=h1.1.rd;have hT:zQ ws (bD ws s) (yT ws (bD ws s)) (c::q)/\((b=kU/\So ws (bD ws s)=9)\/(b=bS/\So ws (bD ws s)=8)):=by
   unfold yT So;rcases hb with rfl|rfl
   .have e2:bK ws tr (bD ws s)=false:=(cy Dw Kx).trans (bj (aq (by simp[bS,tr])));rw[e2,if_neg (by simp),if_neg (by simp)];exact⟨ej px Kx,zq1 ⟨rfl,rfl⟩⟩
   .have e2:bK ws tr (bD ws s)=true:=(cy Dw Kx).trans (aT _);rw[e2,if_pos rfl,if_pos rfl];exact⟨jf Kx,zq0 ⟨rfl,rfl⟩⟩
  have h3:=BU hT.1.rd hc;unfold tE Ca;rw[e,if_neg (by simp),if_neg (by simp)];refine⟨(h1.1.trans hT.1).trans h3.1,⟨rfl,?_⟩,rfl,rfl⟩;rcases hT.2 with⟨rfl,h9⟩|⟨rfl,h8⟩
  .exact zq1 (zq1 ⟨rfl,h9,h1.2.up (hT.1.vs.trans h3.1.vs),h3.2⟩)
  .exact zq1 (zq0 ⟨rfl,h8,h1.2.up (hT.1.vs.trans h3.1.vs),h3.2⟩)
theorem TI.up{vs vs':List UInt8}{nd:Nd}{i:pE}(h:TI vs nd i)(hp:vs <+: vs'):TI vs' nd i:=by
 obtain⟨h0,h1⟩:=h;refine⟨h0,?_⟩;rcases h1 with h1|⟨a,b,c,d⟩|⟨a,b,c,d⟩
 .exact zq0 h1
 .exact zq1 (zq0 ⟨a,b,c.up hp,d.up hp⟩)
 .exact zq1 (zq1 ⟨a,b,c.up hp,d.up hp⟩)
theorem SI.up{vs vs':List UInt8}{nd:Nd}{i:pE}(h:SI vs nd i)(hp:vs <+: vs'):SI vs' nd i:=by
 rcases h with⟨a,b,c,d⟩|⟨a,b,c,d,e⟩|⟨a,b,c⟩|⟨a,b,c,d,e⟩|⟨a,b,c,d⟩|⟨a,b,c⟩|h
 .exact zq0 ⟨a,b,c.up hp,d⟩
 .exact zq1 (zq0 ⟨a,b,c.up hp,d,e.up hp⟩)
 .exact zq1 (zq1 (zq0 ⟨a,b,c.up hp⟩))
 .exact zq1 (zq1 (zq1 (zq0 ⟨a,b,c.up hp,d,e.up hp⟩)))
 .exact zq1 (zq1 (zq1 (zq1 (zq0 ⟨a,b,c.up hp,d.up hp⟩))))
 .exact zq1 (zq1 (zq1 (zq1 (zq1 (zq0 ⟨a,b,c.up hp⟩)))))
 .exact zq1 (zq1 (zq1 (zq1 (zq1 (zq1 h)))))
theorem Rx{ws:List ByteArray}{s:PS}{c q:List ByteArray}(hc:pC c)(h:Rd ws s (uC::(c++sS::q))):
  Rd ws (gz ws s) q/\s.vars <+: (gz ws s).vars/\∃nd,(gz ws s).nodes=s.nodes++[nd]/\nd.nx=s.nodes.length+1/\TI (gz ws s).vars nd (Mw c):=by
 have h1:=ej us h;have h2:=ahx hc h1.rd;have h3:=ej qS h2.1.rd;obtain⟨g1,g2,g3⟩:=Rv (Ca ws (aF ws gj s)) ((h1.trans h2.1).trans h3);exact⟨g1,g3,_,g2,rfl,h2.2.1.up h3.vs⟩
section
variable {vs:List UInt8}
theorem zP.fn(hn:vs.Nodup){x:ByteArray}{i j:Nat}(h:zP vs x i)(h':zP vs x j):j=i:=by
 have hi:i<vs.length:=(List.getElem?_eq_some_iff.1 h.2).1;exact((getElem?_inj hi hn).1 (h.2.trans h'.2.symm)).symm
theorem ST.fn(hn:vs.Nodup){y:ByteArray}{k i k' i':Nat}(h:ST vs y k i)(h':ST vs y k' i')(f:CF):clT f k' i'=clT f k i:=by
 rcases h with⟨rfl,rfl⟩|⟨rfl,h⟩ <;> rcases h' with⟨h1,rfl⟩|⟨rfl,h'⟩
 .rfl
 .have:=h'.1;rw[kJ]at this;cases this
 .have:=h.1;rw[h1,kJ]at this;cases this
 .rw[h.fn hn h']
theorem vE{a b:Nd}(ho:b.op=a.op)(hv:a.op≠0->a.op≠6->a.op≠7->a.op≠10->b.v=a.v)(hc:a.op=1\/a.op=3\/a.op=8\/a.op=9->∀f,clT f b.ak b.ai=clT f a.ak a.ai)(hi:a.op=2->b.ai=a.ai)(f:CF):cj b f=cj a f:=by
 unfold cj;rw[ho];by_cases o0:a.op=0
 .rw[if_pos o0,if_pos o0]
 rw[if_neg o0,if_neg o0];by_cases o1:a.op=1
 .rw[if_pos o1,if_pos o1,hv (by omega) (by omega) (by omega) (by omega),hc (zq0 o1)]
 rw[if_neg o1,if_neg o1];by_cases o2:a.op=2
 .rw[if_pos o2,if_pos o2,hi o2];have e:(λg=>fq g b)=λg=>fq g a:=funext λg=>by unfold fq;rw[hv (by omega) (by omega) (by omega) (by omega),hi o2]
  rw[e]
 rw[if_neg o2,if_neg o2];by_cases o3:a.op=3
 .have hv':=hv (by omega) (by omega) (by omega) (by omega);have e:(λg=>nk g b)=λg=>nk g a:=funext λg=>by unfold nk;rw[hv',hc (zq1 (zq0 o3))]
  rw[if_pos o3,if_pos o3,hv',e]
 rw[if_neg o3,if_neg o3];by_cases o4:a.op=4
 .rw[if_pos o4,if_pos o4,hv (by omega) (by omega) (by omega) (by omega)]
 rw[if_neg o4,if_neg o4];by_cases o5:a.op=5
 .rw[if_pos o5,if_pos o5,hv (by omega) (by omega) (by omega) (by omega)]
 rw[if_neg o5,if_neg o5];by_cases o7:a.op=7
 .rw[if_pos o7,if_pos o7]
 rw[if_neg o7,if_neg o7];have oT:(a.op=8\/a.op=9)->mt f b=mt f a:=λh89=>by
  unfold mt;simp only;rw[hv (by omega) (by omega) (by omega) (by omega),hc (by omega)]
 by_cases o8:a.op=8
 .rw[if_pos o8,if_pos o8,oT (zq0 o8)]
 rw[if_neg o8,if_neg o8];by_cases o9:a.op=9
 .rw[if_pos o9,if_pos o9,oT (zq1 o9)]
 rw[if_neg o9,if_neg o9]
theorem dne{x y z:ByteArray}(h:z=x)(h':z=y)(hd:x.data.toList≠y.data.toList):False:=hd (by rw[<-h,<-h'])
theorem ahw(hn:vs.Nodup){a b:Nd}{i:pE}(h:SI vs a i)(h':SI vs b i):b.op=a.op/\(∀f,cj b f=cj a f)/\¬ (a.op=7\/a.op=8\/a.op=9):=by
 rcases h with⟨a1,a2,a3,a4⟩|⟨a1,a2,a3,a4,a5⟩|⟨a1,a2,a3⟩|⟨a1,a2,a3,a4,a5⟩|⟨a1,a2,a3,a4⟩|⟨a1,a2,a3⟩|⟨a1,a2⟩ <;>
 rcases h' with⟨b1,b2,b3,b4⟩|⟨b1,b2,b3,b4,b5⟩|⟨b1,b2,b3⟩|⟨b1,b2,b3,b4,b5⟩|⟨b1,b2,b3,b4⟩|⟨b1,b2,b3⟩|⟨b1,b2⟩ <;>
 first
 |(refine(dne a1 b1 ?_).elim;simp[cC,yU,lB,zt,sK,fL,aD];done)
 |(refine⟨by rw[a2,b2],vE (by rw[a2,b2]) (λ_ _ _ _=>?_) (λho f=>?_) (λho=>?_),by omega⟩ <;>
   first
   |exact a3.fn hn b3
   |(exfalso;omega)
   |exact a5.fn hn b5
   |exact a4.fn hn b4 f
   |(rw[a4,b4,a5.fn hn b5])
   |(rw[a4,b4];rfl))
theorem ahy(hn:vs.Nodup){a b:Nd}{i:pE}(h:TI vs a i)(h':TI vs b i):b.op=a.op/\∀f,cj b f=cj a f:=by
 obtain⟨-,h⟩:=h;obtain⟨-,h'⟩:=h';rcases h with⟨a1,a2⟩|⟨a1,a2,a3,a4⟩|⟨a1,a2,a3,a4⟩ <;> rcases h' with⟨b1,b2⟩|⟨b1,b2,b3,b4⟩|⟨b1,b2,b3,b4⟩ <;>
 first
 |(refine(dne a1 b1 ?_).elim;simp[bJ,bS,kU];done)
 |(refine⟨by rw[a2,b2],vE (by rw[a2,b2]) (λ_ _ _ _=>?_) (λho f=>?_) (λho=>?_)⟩ <;>
   first
   |exact a3.fn hn b3
   |(exfalso;omega)
   |exact a4.fn hn b4 f)
theorem JF{a:Nd}{i:pE}(h:SI vs a i)(e:i.op=rx\/i.op=Zy):False:=by
 rcases h with⟨a1,-⟩|⟨a1,-⟩|⟨a1,-⟩|⟨a1,-⟩|⟨a1,-⟩|⟨a1,-⟩|⟨a1,-⟩ <;> rcases e with e|e <;> exact dne a1 e (by simp[cC,yU,lB,zt,sK,fL,aD,rx,Zy])
end
def aeq(ws:List ByteArray)(s s':PS)(q:List ByteArray)(nd:Nd):Prop:=Rd ws s' q/\s.vars <+: s'.vars/\s'.nodes=s.nodes++[nd]/\nd.nx=s.nodes.length+1
theorem mn{ws:List ByteArray}{s:PS}{q:List ByteArray}(h:zQ ws s (iu ws s) (fE::q)):aeq ws s (rJ ws s) q { kM ws s with nx:=s.nodes.length+1 }:=by
 obtain⟨g1,g2,g3⟩:=Rv (kM ws s) (h.trans (ej AX h.rd));exact⟨g1,g3,g2,rfl⟩
theorem oB{ws:List ByteArray}{s:PS}{q:List ByteArray}(h:zQ ws s (iu ws s) (fE::q)):(iu ws s).vars <+: (rJ ws s).vars:=(ej AX h.rd).vs
theorem wq{a:ByteArray}(h:aK a=true):aX a aD=false:=bj (eX h rfl)
theorem wo{a:ByteArray}(h:aK a=true):aX a fL=false:=bj (eX h rfl)
theorem Rw{ws:List ByteArray}{s:PS}{p q:List ByteArray}(hp:k9 p)(h:Rd ws s (p++fE::q)):
  ∃nd i,aeq ws s (rJ ws s) q nd/\rsI p=some i/\SI (rJ ws s).vars nd i:=by
 cases hp using k9.ind with
 |skip =>
  have e:bK ws ic s=true:=(cy n7 h).trans (aT _);have hA:zQ ws s (iu ws s) (fE::q):=by unfold iu;rw[if_pos e];exact jf h
  refine⟨_,_,mn hA,(by show(if aX aD aD=true then _ else _)=_;rw[if_pos (aT _)]),?_⟩;refine zq1 (zq1 (zq1 (zq1 (zq1 (zq1 ⟨rfl,?_⟩)))));show(kM ws s).op=6;unfold kM;rw[if_pos e]
 |@free b hb =>
  have e1:bK ws ic s=false:=(cy n7 h).trans Kw;have e2:bK ws ja s=true:=(cy qU h).trans (aT _);have h1:=jf h;have h2:=xn h1.rd hb;have hA:zQ ws s (iu ws s) (fE::q):=by unfold iu;rw[if_neg (by simp[e1]),if_pos e2];exact h1.trans h2.1
  refine⟨_,_,mn hA,(by show(if (aX fL fL&&aK b)=true then _ else _)=_;rw[if_pos (by rw[aT,hb];rfl)]),?_⟩;refine zq1 (zq1 (zq1 (zq1 (zq1 (zq0 ⟨rfl,?_,?_⟩)))))
  .show(kM ws s).op=5;unfold kM;rw[if_neg (by simp[e1]),if_pos e2]
  .show zP _ b (kM ws s).v;have ev:(kM ws s).v=mN ws s.adv:=(by unfold kM;rw[if_neg (by simp[e1]),if_pos e2]);rw[ev];refine h2.2.up ?_;have:(iu ws s).vars=(bD ws s.adv).vars:=(by unfold iu;rw[if_neg (by simp[e1]),if_pos e2]);rw[<-this];exact oB hA
 |@val a c ha hc =>
  have e1:bK ws ic s=false:=(cy n7 h).trans (wq ha);have e2:bK ws ja s=false:=(cy qU h).trans (wo ha);have h1:=xn h ha;have Kx:Rd ws (bD ws s) (bS::c::fE::q):=h1.1.rd;have e3:bK ws iM (bD ws s)=false:=(cy mb Kx).trans Ie;have h2:=ej px Kx;have eS:iu ws s=oP ws (aF ws gT (bD ws s)):=by unfold iu;rw[if_neg (by simp[e1]),if_neg (by simp[e2]),if_neg (by simp[e3])]
  have eN:kM ws s=xL ws (mN ws s) (aF ws gT (bD ws s)):=by unfold kM;rw[if_neg (by simp[e1]),if_neg (by simp[e2]),if_neg (by simp[e3])]
  have hn:∀x,rsI [a,bS,x]=if (aX x cC||aX x lB)=true then some ⟨x,a,em,em,0,false⟩ else if aK x=true then some ⟨yU,a,x,em,0,false⟩ else none:=by
   intro x;show(if (aK a&&aX bS bS)=true then _ else _)=_;rw[if_pos (by rw[ha,aT];rfl)]
  rcases hc with rfl|hc
  .have e4:bK ws oX (aF ws gT (bD ws s))=true:=(cy AW h2.rd).trans (aT _);have hA:zQ ws s (iu ws s) (fE::q):=(by rw[eS];unfold oP;rw[if_pos e4];exact(h1.1.trans h2).trans (jf h2.rd));refine⟨_,_,mn hA,(by rw[hn,if_pos (by rw[aT];simp)]),?_⟩;have ev:kM ws s=⟨4,mN ws s,0,0,0,0⟩:=(by rw[eN];unfold xL;rw[if_pos e4]);rw[ev];refine zq1 (zq1 (zq0 ⟨rfl,rfl,h1.2.up ?_⟩));have:(iu ws s).vars=(aF ws gT (bD ws s)).vars:=(by rw[eS];unfold oP;rw[if_pos e4];rfl);exact(this ▸ h2.vs).trans (oB hA)
  .have KP:aX c lB=false:=by
    rcases hc with rfl|hc
    .exact Vs
    .exact bj (eX hc rfl)
   have e4:bK ws oX (aF ws gT (bD ws s))=false:=(cy AW h2.rd).trans KP;have h3:=BU h2.rd hc;have e5:Es ws (aF ws gT (bD ws s))=false:=(by unfold Es;rw[(cy mb h3.1.rd).trans Rf,Bool.and_false]);have eS2:iu ws s=b9 ws (aF ws gT (bD ws s)):=(by rw[eS];unfold oP;rw[if_neg (by simp[e4]),if_neg (by simp[e5])]);have hA:zQ ws s (iu ws s) (fE::q):=(by rw[eS2];exact(h1.1.trans h2).trans h3.1);have ev:kM ws s=⟨1,mN ws s,dS ws (aF ws gT (bD ws s)),fe ws (aF ws gT (bD ws s)),0,0⟩:=(by rw[eN];unfold xL;rw[if_neg (by simp[e4]),if_neg (by simp[e5])]);have Ld:zP (rJ ws s).vars a (mN ws s):=h1.2.up ((h2.vs.trans h3.1.vs).trans (by rw[<-eS2];exact oB hA));have AJ:=h3.2.up (show(b9 ws (aF ws gT (bD ws s))).vars <+: (rJ ws s).vars by rw[<-eS2];exact oB hA);rcases hc with rfl|hc
   .refine⟨_,_,mn hA,(by rw[hn,if_pos (by rw[aT];rfl)]),?_⟩;rw[ev];have hk0:dS ws (aF ws gT (bD ws s))=0:=by
     rcases AJ with h0|⟨_,h0⟩
     .exact h0.2
     .exact absurd h0.1 (by rw[kJ];simp)
    exact zq0 ⟨rfl,rfl,Ld,hk0⟩
   .refine⟨_,_,mn hA,(by rw[hn,if_neg (by rw[KP,bj (eX hc kJ)];simp),if_pos hc]),?_⟩;rw[ev];rcases AJ with h0|⟨h0,h00⟩
    .exact absurd hc (by rw[h0.1,kJ];simp)
    .exact zq1 (zq0 ⟨rfl,rfl,Ld,h0,h00⟩)
 |@load a c ha hc =>
  have e1:bK ws ic s=false:=(cy n7 h).trans (wq ha);have e2:bK ws ja s=false:=(cy qU h).trans (wo ha);have h1:=xn h ha;have Kx:Rd ws (bD ws s) (bS::c::a6::nW::fE::q):=h1.1.rd;have e3:bK ws iM (bD ws s)=false:=(cy mb Kx).trans Ie;have h2:=ej px Kx;have eS:iu ws s=oP ws (aF ws gT (bD ws s)):=by unfold iu;rw[if_neg (by simp[e1]),if_neg (by simp[e2]),if_neg (by simp[e3])]
  have eN:kM ws s=xL ws (mN ws s) (aF ws gT (bD ws s)):=by unfold kM;rw[if_neg (by simp[e1]),if_neg (by simp[e2]),if_neg (by simp[e3])]
  have e4:bK ws oX (aF ws gT (bD ws s))=false:=(cy AW h2.rd).trans (bj (eX hc rfl));have h3:=BU h2.rd (zq1 hc);have Pm:dS ws (aF ws gT (bD ws s))=1:=by
   rcases h3.2 with h0|h0
   .exact absurd hc (by rw[h0.1,kJ];simp)
   .exact h0.1
  have e5:Es ws (aF ws gT (bD ws s))=true:=by unfold Es;rw[Pm,cy mb h3.1.rd];rw[show aX a6 iM=true from aT _];rfl
  have h4:=jf h3.1.rd;have h5:=ej Li h4.rd;have eS2:iu ws s=aF ws kN (b9 ws (aF ws gT (bD ws s))).adv:=by rw[eS];unfold oP;rw[if_neg (by simp[e4]),if_pos e5]
  have hA:zQ ws s (iu ws s) (fE::q):=by rw[eS2];exact(((h1.1.trans h2).trans h3.1).trans h4).trans h5
  have ev:kM ws s=⟨2,mN ws s,dS ws (aF ws gT (bD ws s)),fe ws (aF ws gT (bD ws s)),0,0⟩:=by rw[eN];unfold xL;rw[if_neg (by simp[e4]),if_pos e5]
  have vT:(b9 ws (aF ws gT (bD ws s))).vars <+: (rJ ws s).vars:=(h4.vs.trans h5.vs).trans (by rw[<-eS2];exact oB hA);refine⟨_,⟨zt,a,c,em,0,false⟩,mn hA,?_,?_⟩
  .show(if (aK a&&aX bS bS&&aK c&&aX a6 a6&&aX nW nW)=true then _ else _)=_;rw[if_pos (by simp[ha,hc,aT])]
  .rw[ev];rcases h3.2 with h0|⟨h0,h00⟩
   .exact absurd hc (by rw[h0.1,kJ];simp)
   .exact zq1 (zq1 (zq1 (zq0 ⟨rfl,rfl,h1.2.up ((h2.vs.trans h3.1.vs).trans vT),h0,h00.up vT⟩)))
 |@store a e ha he =>
  have e1:bK ws ic s=false:=(cy n7 h).trans (wq ha);have e2:bK ws ja s=false:=(cy qU h).trans (wo ha);have h1:=xn h ha;have Kx:Rd ws (bD ws s) (a6::nW::bS::e::fE::q):=h1.1.rd;have e3:bK ws iM (bD ws s)=true:=(cy mb Kx).trans (aT _);have h2:=jf Kx;have h3:=ej Li h2.rd;have h4:=ej px h3.rd;have h5:=BU h4.rd he;have eS:iu ws s=b9 ws (zK ws (bD ws s)):=by unfold iu;rw[if_neg (by simp[e1]),if_neg (by simp[e2]),if_pos e3]
  have hA:zQ ws s (iu ws s) (fE::q):=by rw[eS];exact(((h1.1.trans h2).trans h3).trans h4).trans h5.1
  have ev:kM ws s=⟨3,mN ws s,dS ws (zK ws (bD ws s)),fe ws (zK ws (bD ws s)),0,0⟩:=by unfold kM;rw[if_neg (by simp[e1]),if_neg (by simp[e2]),if_pos e3]
  have vT:(b9 ws (zK ws (bD ws s))).vars <+: (rJ ws s).vars:=by rw[<-eS];exact oB hA
  refine⟨_,⟨sK,a,e,em,0,false⟩,mn hA,?_,?_⟩
  .show(if (aK a&&aX a6 bS&&aK nW&&aX bS a6&&aX e nW)=true then _ else if (aK a&&aX a6 a6&&aX nW nW&&aX bS bS&&(aK e||aX e cC))=true then _ else _)=_;rw[if_neg (by rw[Za];simp),if_pos];rcases he with rfl|he
   .simp[ha,aT]
   .simp[ha,he,aT]
  .rw[ev];exact zq1 (zq1 (zq1 (zq1 (zq0 ⟨rfl,rfl,h1.2.up ((((h2.vs.trans h3.vs).trans h4.vs).trans h5.1.vs).trans vT),h5.2.up vT⟩))))
def k7(n:Nat)(i:pE):pE:=⟨i.op,i.x,i.y,i.cond,i.to+n,i.head⟩
theorem jp(m n:Nat)(l:List pE):(l.map (k7 m)).map (k7 n)=l.map (k7 (m+n)):=by
 rw[map_map];apply map_congr_left;intro i _;show k7 n (k7 m i)=k7 (m+n) i;unfold k7;simp only[Nat.add_assoc]
def L7(ws:List ByteArray)(s s':PS)(q:List ByteArray)(C:List pE):Prop :=
 Rd ws s' q/\s.vars <+: s'.vars/\∃N,s'.nodes=s.nodes++N/\∀vs,s'.vars <+: vs->Er vs s.nodes.length N C
theorem L7.len{ws:List ByteArray}{s s':PS}{q:List ByteArray}{C:List pE}(h:L7 ws s s' q C):s'.nodes.length=s.nodes.length+C.length:=by
 obtain⟨-,-,N,hN,hR⟩:=h;rw[hN,length_append,(hR _ (prefix_refl _)).len]
theorem L7.trans{ws:List ByteArray}{s s' s'':PS}{q q':List ByteArray}{C C':List pE}(h:L7 ws s s' q C)(k:L7 ws s' s'' q' C'):L7 ws s s'' q' (C++C'):=by
 obtain⟨-,hv,N,hN,hR⟩:=h;obtain⟨kr,kv,N',kN,kR⟩:=k;refine⟨kr,hv.trans kv,N++N',by rw[kN,hN,append_assoc],λvs hvs=>?_⟩;have h1:=hR vs (kv.trans hvs);refine h1.app ?_;have h2:=kR vs hvs;rw[hN,length_append]at h2;exact h2
theorem vA{ws:List ByteArray}{c:PS->PS}{n:Nat}{s:PS}{r:List ByteArray}(h:Rd ws s (gB::r)):jg c ws (n+1) s=s:=by
 show(if (s.failed||bK ws k6 s)=true then s else _)=_;rw[if_pos (by rw[cy qV h,show aX gB k6=true from aT _];simp)]
theorem vz{ws:List ByteArray}{c:PS->PS}{n:Nat}{s:PS}{x:ByteArray}{r:List ByteArray}(h:Rd ws s (x::r))(hx:x≠gB):jg c ws (n+1) s=jg c ws n (c s):=by
 show(if (s.failed||bK ws k6 s)=true then s else jg c ws n (c s))=_;rw[h.1,cy qV h,show aX x k6=false from bj hx];rfl
theorem abi(A R:List Nd)(t:Nd)(k n:Nat)(h:k=A.length):eg k n (A++t::R)=A++{ t with ot:=n }::R:=wD _ t R A h
theorem ahg(A R:List Nd)(t:Nd)(k n:Nat)(h:k=A.length):gR k n (A++t::R)=A++{ t with nx:=n }::R:=wD _ t R A h
theorem RC{vs:List UInt8}{nd:Nd}{c:List ByteArray}{hd:Bool}{j n m:Nat}(h:TI vs nd (Mw c))(hx:nd.nx=j+1)(hm:m=n):NI vs j { nd with ot:=m } ⟨(Mw c).op,(Mw c).x,(Mw c).y,(Mw c).cond,n,hd⟩ :=
 zq1 (zq0 ⟨h,hx,hm⟩)
def Wk(c:List ByteArray)(n:Nat):pE:=⟨(Mw c).op,(Mw c).x,(Mw c).y,(Mw c).cond,n,false⟩
theorem Tz{b:List ByteArray}{k:Nat}(h:iB b k):∃T:List pE,T.length=k/\∀(ws:List ByteArray) (f n:Nat) (q:List ByteArray) (s:PS),b.length<f->b.length<n->gq rE q=false->Rd ws s (b++q) ->
  ∃n' s',jg (kw (cL ws f) ws) ws n s=jg (kw (cL ws f) ws) ws n' s'/\n<=n'+b.length/\L7 ws s s' q (T.map (k7 s.nodes.length)):=by
 induction h using iB.ind with
 |nil =>
  refine⟨[],rfl,λws f n q s _ _ _ hr=>⟨n,s,rfl,by simp,hr,prefix_refl _,[],by simp,λ_ _=>trivial⟩⟩
 |@sim p r k hp hr ih =>
  obtain⟨T,hT,ih⟩:=ih;obtain⟨i,hi⟩:∃i,rsI p=some i:=by
   obtain⟨x,t,e⟩:=xe hp;have al0:Rd (p++[fE]) ⟨0,false,[],[],[]⟩ (p++fE::[]):=⟨rfl,rfl,zq5 _⟩;obtain⟨-,i,-,h1,-⟩:=Rw hp al0;exact⟨i,h1⟩
  refine⟨i::T.map (k7 1),by simp[hT],λws f n q s hf hn hq mz=>?_⟩;simp only[length_append,length_cons]at hf hn;cases n with
  |zero=>omega
  |succ n =>
   rw[show p++fE::r++q=p++fE::(r++q) by simp]at mz;obtain⟨nd,i',⟨l1,l2,l3,l4⟩,lR,hS⟩:=Rw hp mz;rw[hi]at lR;injection lR with lR;subst lR;have hB:L7 ws s (rJ ws s) (r++q) [k7 s.nodes.length i]:=⟨l1,l2,[nd],l3,λvs hv=>⟨zq0 ⟨hS.up hv,l4⟩,trivial⟩⟩;obtain⟨n',s',h1,h2,h3⟩:=ih ws f n q (rJ ws s) (by omega) (by omega) hq l1;have tp:=Rj hp;have pU:=Rl hp;have hx3:=Rk hp;obtain⟨x,t,e⟩:=xe hp;have F8:Rd ws s (x::(t++fE::(r++q))):=(by rw[e]at mz;exact mz);have ec:kw (cL ws f) ws s=rJ ws s:=by
    unfold kw;rw[cy py F8,cy jR F8,show aX x mc=false from bj (tp x (by rw[e];simp)),show aX x bO=false from bj (pU x (by rw[e];simp))];rfl
   refine⟨n',s',?_,by simp only[length_append,length_cons];omega,?_⟩
   .rw[vz F8 (hx3 x (by rw[e];simp)),ec];exact h1
   .have:=hB.trans h3;rw[hB.len]at this;rw[map_cons,jp,Nat.add_comm 1];exact this
 |@whl d b r j k hd hb hr ihb ihr =>
  obtain⟨Tb,OY,ihb⟩:=ihb;obtain⟨Tr,Xj,ihr⟩:=ihr;refine⟨Wk d (j+2)::(Tb.map (k7 1)++[gt 0])++Tr.map (k7 (j+2)),by simp[OY,Xj];omega,λws f n q s hf hn hq mz=>?_⟩;simp only[length_append,length_cons]at hf hn;cases n with
  |zero=>omega
  |succ n =>
   cases f with
   |zero=>omega
   |succ f =>
    have e:(yA::uC::(d++sS::ee::(b++gB::r)))++q=yA::uC::(d++sS::ee::(b++gB::(r++q))):=(by simp);rw[e]at mz;have a1:=ej jR mz;obtain⟨t1,t2,nd,t3,t4,t5⟩:=Rx hd a1.rd;rw[a1.nd]at t3 t4;have IM:b.length<ws.length+2:=by
     have h1:=congrArg List.length mz.2.1;simp only[length_drop,length_append,length_cons]at h1;omega
    have a2:=ej zp t1;obtain⟨n1,s1,h1,kq,b1,b2,N,b3,b5⟩:=ihb ws f (ws.length+2) (gB::(r++q)) (aF ws mB (gz ws (aF ws bO s))) (by omega) IM DZ a2.rd;obtain⟨n2,rfl⟩:∃n2,n1=n2+1:=⟨n1-1,by omega⟩;rw[vA b1]at h1;have a3:=ej qV b1;have eA:ny (cL ws (f+1)) ws s=aF ws k6 s1:=by
     show aF ws k6 (jg (kw (cL ws f) ws) ws (ws.length+2) (aF ws mB (gz ws (aF ws bO s))))=_;rw[h1]
    rw[<-eA]at a3;have gI:(aF ws mB (gz ws (aF ws bO s))).nodes.length=s.nodes.length+1:=(by rw[a2.nd,t3];simp);rw[gI]at b5;have Me:N.length=j:=(by have:=(b5 _ (prefix_refl _)).len;rw[length_map,OY]at this;exact this);have eN:(ny (cL ws (f+1)) ws s).nodes=s.nodes++nd::N:=(by rw[a3.nd,b3,a2.nd,t3];simp);have eV:(gz ws (aF ws bO s)).vars <+: (ny (cL ws (f+1)) ws s).vars:=(a2.vs.trans b2).trans a3.vs;have eS:(xV (cL ws (f+1)) ws s).nodes=s.nodes++{ nd with ot:=s.nodes.length+(j+2) }::(N++[{ iL with nx:=s.nodes.length }]):=by
     show eg s.nodes.length (cg iL (ny (cL ws (f+1)) ws s)).nodes.length (gR (ny (cL ws (f+1)) ws s).nodes.length s.nodes.length (cg iL (ny (cL ws (f+1)) ws s)).nodes)=_;have e1:(cg iL (ny (cL ws (f+1)) ws s)).nodes=(s.nodes++nd::N)++{ iL with nx:=(s.nodes++nd::N).length+1 }::[]:=by
      show(ny (cL ws (f+1)) ws s).nodes++[_]=_;rw[eN]
     have e2:gR (s.nodes++nd::N).length s.nodes.length ((s.nodes++nd::N)++{ iL with nx:=(s.nodes++nd::N).length+1 }::[])=s.nodes++nd::(N++[{ iL with nx:=s.nodes.length }]):=by
      rw[ahg _ _ _ _ _ rfl];simp
     rw[e1,eN,e2,abi _ _ _ _ _ rfl];have e3:(s.nodes++nd::N++[({ iL with nx:=(s.nodes++nd::N).length+1 }:Nd)]).length=s.nodes.length+(j+2):=(by simp[Me]);rw[e3]
    have hB:L7 ws s (xV (cL ws (f+1)) ws s) (r++q) ((Wk d (j+2)::(Tb.map (k7 1)++[gt 0])).map (k7 s.nodes.length)):=by
     refine⟨a3.rd,(a1.vs.trans t2).trans eV,_,eS,λvs hv=>?_⟩;have Ld:(ny (cL ws (f+1)) ws s).vars <+: vs:=hv;refine⟨RC (t5.up (eV.trans Ld)) t4 (by show _=j+2+s.nodes.length;omega),?_⟩;have h5:=b5 vs (a3.vs.trans Ld);rw[map_append,jp];rw[Nat.add_comm s.nodes.length 1]at h5;refine Er.app (by rw[Nat.add_comm s.nodes.length 1];exact h5) ⟨zq1 (zq1 ⟨rfl,rfl,?_⟩),trivial⟩;show s.nodes.length=0+s.nodes.length;omega
    obtain⟨n',s',h3,h4,h6⟩:=ihr ws (f+1) n q (xV (cL ws (f+1)) ws s) (by omega) (by omega) hq a3.rd;have ec:kw (cL ws (f+1)) ws s=xV (cL ws (f+1)) ws s:=by
     unfold kw;rw[cy py mz,cy jR mz,show aX yA mc=false from ahC,show aX yA bO=true from aT _];rfl
    refine⟨n',s',?_,by simp only[length_append,length_cons];omega,?_⟩
    .rw[vz mz ahA,ec];exact h3
    .have:=hB.trans h6;rw[hB.len]at this;rw[map_append,jp (j+2)];have e4:s.nodes.length+((Wk d (j+2)::(Tb.map (k7 1)++[gt 0])).map (k7 s.nodes.length)).length=j+2+s.nodes.length:=(by simp[OY];omega);rw[e4]at this;exact this
 |@ife d b r j k hd hb hr ihb ihr =>
  obtain⟨Tb,OY,ihb⟩:=ihb;obtain⟨Tr,Xj,ihr⟩:=ihr;refine⟨Wk d (j+1)::Tb.map (k7 1)++Tr.map (k7 (j+1)),by simp[OY,Xj];omega,λws f n q s hf hn hq mz=>?_⟩;simp only[length_append,length_cons]at hf hn;cases n with
  |zero=>omega
  |succ n =>
   cases f with
   |zero=>omega
   |succ f =>
    have e:(tq::uC::(d++sS::ee::(b++gB::r)))++q=tq::uC::(d++sS::ee::(b++gB::(r++q))):=(by simp);rw[e]at mz;have a1:=ej py mz;obtain⟨t1,t2,nd,t3,t4,t5⟩:=Rx hd a1.rd;rw[a1.nd]at t3 t4;have IM:b.length<ws.length+2:=by
     have h1:=congrArg List.length mz.2.1;simp only[length_drop,length_append,length_cons]at h1;omega
    have a2:=ej zp t1;obtain⟨n1,s1,h1,kq,b1,b2,N,b3,b5⟩:=ihb ws f (ws.length+2) (gB::(r++q)) (aF ws mB (gz ws (aF ws mc s))) (by omega) IM DZ a2.rd;obtain⟨n2,rfl⟩:∃n2,n1=n2+1:=⟨n1-1,by omega⟩;rw[vA b1]at h1;have a3:=ej qV b1;have eA:cI (cL ws (f+1)) ws s=aF ws k6 s1:=by
     show aF ws k6 (jg (kw (cL ws f) ws) ws (ws.length+2) (aF ws mB (gz ws (aF ws mc s))))=_;rw[h1]
    rw[<-eA]at a3;have gI:(aF ws mB (gz ws (aF ws mc s))).nodes.length=s.nodes.length+1:=(by rw[a2.nd,t3];simp);rw[gI]at b5;have Me:N.length=j:=(by have:=(b5 _ (prefix_refl _)).len;rw[length_map,OY]at this;exact this);have eN:(cI (cL ws (f+1)) ws s).nodes=s.nodes++nd::N:=(by rw[a3.nd,b3,a2.nd,t3];simp);have eV:(gz ws (aF ws mc s)).vars <+: (cI (cL ws (f+1)) ws s).vars:=(a2.vs.trans b2).trans a3.vs;have mI:bK ws iN (cI (cL ws (f+1)) ws s)=false:=by
     rw[dA qT a3.rd];exact Nl hr hq
    have eB:pN (cL ws (f+1)) ws s={ cI (cL ws (f+1)) ws s with nodes:=eg s.nodes.length (cI (cL ws (f+1)) ws s).nodes.length (cI (cL ws (f+1)) ws s).nodes }:=by
     unfold pN;rw[if_neg (by simp[mI])]
    have eS:(pN (cL ws (f+1)) ws s).nodes=s.nodes++{ nd with ot:=s.nodes.length+(j+1) }::N:=by
     rw[eB];show eg s.nodes.length (cI (cL ws (f+1)) ws s).nodes.length (cI (cL ws (f+1)) ws s).nodes=_;rw[eN,abi _ _ _ _ _ rfl];simp only[length_append,length_cons,Me]
    have hRd:Rd ws (pN (cL ws (f+1)) ws s) (r++q):=(by rw[eB];exact a3.rd);have hB:L7 ws s (pN (cL ws (f+1)) ws s) (r++q) ((Wk d (j+1)::Tb.map (k7 1)).map (k7 s.nodes.length)):=by
     refine⟨hRd,by rw[eB];exact(a1.vs.trans t2).trans eV,_,eS,λvs hv=>?_⟩;have Ld:(cI (cL ws (f+1)) ws s).vars <+: vs:=(by rw[eB]at hv;exact hv);refine⟨RC (t5.up (eV.trans Ld)) t4 (by show _=j+1+s.nodes.length;omega),?_⟩;have h5:=b5 vs (a3.vs.trans Ld);show Er vs (s.nodes.length+1) N ((Tb.map (k7 1)).map (k7 s.nodes.length));rw[jp,Nat.add_comm 1];exact h5
    obtain⟨n',s',h3,h4,h6⟩:=ihr ws (f+1) n q (pN (cL ws (f+1)) ws s) (by omega) (by omega) hq hRd;have ec:kw (cL ws (f+1)) ws s=pN (cL ws (f+1)) ws s:=by
     unfold kw;rw[cy py mz,show aX tq mc=true from aT _];rfl
    refine⟨n',s',?_,by simp only[length_append,length_cons];omega,?_⟩
    .rw[vz mz XN,ec];exact h3
    .have:=hB.trans h6;rw[hB.len]at this;rw[map_append,jp (j+1)];have e4:s.nodes.length+((Wk d (j+1)::Tb.map (k7 1)).map (k7 s.nodes.length)).length=j+1+s.nodes.length:=(by simp[OY];omega);rw[e4]at this;exact this
 |@ifl d b e r j i k hd hb he hr ihb ihe ihr =>
  obtain⟨Tb,OY,ihb⟩:=ihb;obtain⟨Te,hTe,ihe⟩:=ihe;obtain⟨Tr,Xj,ihr⟩:=ihr;refine⟨Wk d (j+2)::(Tb.map (k7 1)++gt (j+2+i)::Te.map (k7 (j+2)))++Tr.map (k7 (j+2+i)),by simp[OY,hTe,Xj];omega,λws f n q s hf hn hq mz=>?_⟩;simp only[length_append,length_cons]at hf hn;cases n with
  |zero=>omega
  |succ n =>
   cases f with
   |zero=>omega
   |succ f =>
    have e0:(tq::uC::(d++sS::ee::(b++gB::rE::ee::(e++gB::r))))++q=tq::uC::(d++sS::ee::(b++gB::rE::ee::(e++gB::(r++q)))):=(by simp);rw[e0]at mz;have a1:=ej py mz;obtain⟨t1,t2,nd,t3,t4,t5⟩:=Rx hd a1.rd;rw[a1.nd]at t3 t4;have IM:b.length<ws.length+2/\e.length<ws.length+2:=by
     have h1:=congrArg List.length mz.2.1;simp only[length_drop,length_append,length_cons]at h1;omega
    have a2:=ej zp t1;obtain⟨n1,s1,h1,kq,b1,b2,N,b3,b5⟩:=ihb ws f (ws.length+2) (gB::rE::ee::(e++gB::(r++q))) (aF ws mB (gz ws (aF ws mc s))) (by omega) IM.1 DZ a2.rd;obtain⟨n2,rfl⟩:∃n2,n1=n2+1:=⟨n1-1,by omega⟩;rw[vA b1]at h1;have a3:=ej qV b1;have eA:cI (cL ws (f+1)) ws s=aF ws k6 s1:=by
     show aF ws k6 (jg (kw (cL ws f) ws) ws (ws.length+2) (aF ws mB (gz ws (aF ws mc s))))=_;rw[h1]
    rw[<-eA]at a3;have gI:(aF ws mB (gz ws (aF ws mc s))).nodes.length=s.nodes.length+1:=(by rw[a2.nd,t3];simp);rw[gI]at b5;have Me:N.length=j:=(by have:=(b5 _ (prefix_refl _)).len;rw[length_map,OY]at this;exact this);have eN:(cI (cL ws (f+1)) ws s).nodes=s.nodes++nd::N:=(by rw[a3.nd,b3,a2.nd,t3];simp);have eV:(gz ws (aF ws mc s)).vars <+: (cI (cL ws (f+1)) ws s).vars:=(a2.vs.trans b2).trans a3.vs;have eB:(lP s.nodes.length (cI (cL ws (f+1)) ws s)).nodes=s.nodes++{ nd with ot:=s.nodes.length+(j+2) }::(N++[{ iL with nx:=s.nodes.length+(j+2) }]):=by
     show eg s.nodes.length (cg iL (cI (cL ws (f+1)) ws s).adv).nodes.length (cg iL (cI (cL ws (f+1)) ws s).adv).nodes=_;have e1:(cg iL (cI (cL ws (f+1)) ws s).adv).nodes=s.nodes++nd::(N++[{ iL with nx:=(s.nodes++nd::N).length+1 }]):=by
      show(cI (cL ws (f+1)) ws s).nodes++[{ iL with nx:=(cI (cL ws (f+1)) ws s).nodes.length+1 }]=_;rw[eN];simp
     rw[e1,abi _ _ _ _ _ rfl];have e2:(s.nodes++nd::N).length+1=s.nodes.length+(j+2):=(by simp[Me];omega);have e3:(s.nodes++nd::(N++[({ iL with nx:=s.nodes.length+(j+2) }:Nd)])).length=s.nodes.length+(j+2):=(by simp[Me]);rw[e2,e3]
    have mI:bK ws iN (cI (cL ws (f+1)) ws s)=true:=(dA qT a3.rd).trans (aT _);have hRb:Rd ws (lP s.nodes.length (cI (cL ws (f+1)) ws s)) (ee::(e++gB::(r++q))):=c9 a3.rd;have a4:=ej zp hRb;obtain⟨n3,s3,h5,vV,d1,d2,N2,d3,d5⟩:=ihe ws f (ws.length+2) (gB::(r++q)) (aF ws mB (lP s.nodes.length (cI (cL ws (f+1)) ws s))) (by omega) IM.2 DZ a4.rd;obtain⟨n4,rfl⟩:∃n4,n3=n4+1:=⟨n3-1,by omega⟩;rw[vA d1]at h5;have a5:=ej qV d1;have eBl:cL ws (f+1) (lP s.nodes.length (cI (cL ws (f+1)) ws s))=aF ws k6 s3:=by
     show aF ws k6 (jg (kw (cL ws f) ws) ws (ws.length+2) (aF ws mB (lP s.nodes.length (cI (cL ws (f+1)) ws s))))=_;rw[h5]
    rw[<-eBl]at a5;have Z1:(aF ws mB (lP s.nodes.length (cI (cL ws (f+1)) ws s))).nodes.length=s.nodes.length+(j+2):=(by rw[a4.nd,eB];simp[Me]);rw[Z1]at d5;have akG:N2.length=i:=(by have:=(d5 _ (prefix_refl _)).len;rw[length_map,hTe]at this;exact this);have eS0:pN (cL ws (f+1)) ws s=Nn (cI (cL ws (f+1)) ws s).nodes.length (cL ws (f+1) (lP s.nodes.length (cI (cL ws (f+1)) ws s))):=(by unfold pN;rw[if_pos mI]);have eN5:(cL ws (f+1) (lP s.nodes.length (cI (cL ws (f+1)) ws s))).nodes=(s.nodes++{ nd with ot:=s.nodes.length+(j+2) }::N)++{ iL with nx:=s.nodes.length+(j+2) }::N2:=by
     rw[a5.nd,d3,a4.nd,eB];simp
    have eS:(pN (cL ws (f+1)) ws s).nodes=s.nodes++{ nd with ot:=s.nodes.length+(j+2) }::(N++{ iL with nx:=s.nodes.length+(j+2+i) }::N2):=by
     rw[eS0];show gR (cI (cL ws (f+1)) ws s).nodes.length (cL ws (f+1) (lP s.nodes.length (cI (cL ws (f+1)) ws s))).nodes.length (cL ws (f+1) (lP s.nodes.length (cI (cL ws (f+1)) ws s))).nodes=_;rw[eN5,ahg _ _ _ _ _ (by rw[eN];simp)];have e3:(s.nodes++({ nd with ot:=s.nodes.length+(j+2) }:Nd)::N++({ iL with nx:=s.nodes.length+(j+2) }:Nd)::N2).length=s.nodes.length+(j+2+i):=(by simp[Me,akG];omega);rw[e3];simp
    have hRd:Rd ws (pN (cL ws (f+1)) ws s) (r++q):=(by rw[eS0];exact a5.rd);have eV5:(cI (cL ws (f+1)) ws s).vars <+: (cL ws (f+1) (lP s.nodes.length (cI (cL ws (f+1)) ws s))).vars:=(a4.vs.trans d2).trans a5.vs;have hB:L7 ws s (pN (cL ws (f+1)) ws s) (r++q) ((Wk d (j+2)::(Tb.map (k7 1)++gt (j+2+i)::Te.map (k7 (j+2)))).map (k7 s.nodes.length)):=by
     refine⟨hRd,by rw[eS0];exact((a1.vs.trans t2).trans eV).trans eV5,_,eS,λvs hv=>?_⟩;have hv5:(cL ws (f+1) (lP s.nodes.length (cI (cL ws (f+1)) ws s))).vars <+: vs:=(by rw[eS0]at hv;exact hv);have Ld:=eV5.trans hv5;refine⟨RC (t5.up (eV.trans Ld)) t4 (by show _=j+2+s.nodes.length;omega),?_⟩;have g5:=b5 vs (a3.vs.trans Ld);have g6:=d5 vs (a5.vs.trans hv5);show Er vs (s.nodes.length+1) _ ((Tb.map (k7 1)++gt (j+2+i)::Te.map (k7 (j+2))).map (k7 s.nodes.length));rw[map_append,map_cons,jp,jp,Nat.add_comm 1];refine g5.app ⟨zq1 (zq1 ⟨rfl,rfl,by show s.nodes.length+(j+2+i)=j+2+i+s.nodes.length;omega⟩),?_⟩;rw[Me,show s.nodes.length+1+j+1=s.nodes.length+(j+2) by omega,Nat.add_comm (j+2)];exact g6
    obtain⟨n',s',h7,h8,h9⟩:=ihr ws (f+1) n q (pN (cL ws (f+1)) ws s) (by omega) (by omega) hq hRd;have ec:kw (cL ws (f+1)) ws s=pN (cL ws (f+1)) ws s:=by
     unfold kw;rw[cy py mz,show aX tq mc=true from aT _];rfl
    refine⟨n',s',?_,by simp only[length_append,length_cons];omega,?_⟩
    .rw[vz mz XN,ec];exact h7
    .have:=hB.trans h9;rw[hB.len]at this;rw[map_append,jp (j+2+i)];have e4:s.nodes.length+((Wk d (j+2)::(Tb.map (k7 1)++gt (j+2+i)::Te.map (k7 (j+2)))).map (k7 s.nodes.length)).length=j+2+i+s.nodes.length:=(by simp[OY,hTe];omega);rw[e4]at this;exact this
def plB(a:zV):Bool:=aX a.k LQ||aX a.k EK
def tK(ad nx:List Int)(ns:List ByteArray)(vs:List Int)(f:List zV):Bool:=Y1 ad nx (f.filter (λa=>!plB a)) (f.filter plB).length (f.filter plB) ns vs (replicate ad.length true)
def LP(vars hid:List UInt8)(k i:Nat):ByteArray:=if k=1 then dP (vars.getD i 0) else if k=2 then dP (hid.getD i 0) else cC
def XQ(k:Nat):ByteArray:=if k=1 then bS else if k=2 then kU else if k=3 then LQ else EK
def nmA(vars hid:List UInt8)(a:ci):zV:=⟨XQ a.k,LP vars hid a.lk a.li,LP vars hid a.rk a.ri⟩
def SV(vars hid:List UInt8)(k i:Nat):Prop:=k<=2/\(k=1->i<vars.length)/\(k=2->i<hid.length)
def po(s s':PS):Prop:=s.vars <+: s'.vars/\s.hid <+: s'.hid
theorem po.refl(s:PS):po s s:=⟨prefix_refl _,prefix_refl _⟩
theorem po.trans{a b c:PS}(h:po a b)(h2:po b c):po a c:=⟨h.1.trans h2.1,h.2.trans h2.2⟩
theorem Jt{l l':List UInt8}(h:l <+: l'){i:Nat}(hi:i<l.length):l'.getD i 0=l.getD i 0:=by
 obtain⟨t,rfl⟩:=h;simp only[getD_eq_getElem?_getD];rw[getElem?_append_left hi]
theorem rz{s s':PS}(h:po s s'){k i:Nat}(hb:SV s.vars s.hid k i):LP s'.vars s'.hid k i=LP s.vars s.hid k i:=by
 unfold LP;by_cases h1:k=1
 .rw[if_pos h1,if_pos h1,Jt h.1 (hb.2.1 h1)]
 .rw[if_neg h1,if_neg h1];by_cases h2:k=2
  .rw[if_pos h2,if_pos h2,Jt h.2 (hb.2.2 h2)]
  .rw[if_neg h2,if_neg h2]
theorem SV.gro{s s':PS}(h:po s s'){k i:Nat}(hb:SV s.vars s.hid k i):SV s'.vars s'.hid k i :=
 ⟨hb.1,λh1=>zq6 (hb.2.1 h1) h.1.length_le,λh1=>zq6 (hb.2.2 h1) h.2.length_le⟩
theorem Jx(l:List UInt8)(c:UInt8):l <+: put l c:=by
 unfold put;split
 .exact prefix_append _ _
 .exact prefix_refl _
theorem VG{l:List UInt8}{c:UInt8}(h:plc l c<l.length):l.getD (plc l c) 0=c:=by
 induction l with
 |nil=>simp at h
 |cons a l ih =>
  have e:plc (a::l) c=if a=c then 0 else plc l c+1:=rfl
  rw[e]at h ⊢;by_cases hc:a=c
  .rw[if_pos hc];simpa using hc
  .rw[if_neg hc]at h ⊢;simpa using ih (by simpa using h)
theorem Jv(l:List UInt8)(c:UInt8):plc l c<(put l c).length/\(put l c).getD (plc l c) 0=c:=by
 have h1:=wO l c;unfold put;by_cases h:plc l c=l.length
 .rw[if_pos h,h];simp
 .rw[if_neg h];exact⟨by omega,VG (by omega)⟩
theorem pQ(ws:List ByteArray)(k:ByteArray)(s:PS):po s (aF ws k s):=by unfold aF;split <;> exact po.refl s
theorem OC(ws:List ByteArray)(s:PS):po s (bD ws s):=by
 unfold bD;split
 .exact⟨Jx _ _,prefix_refl _⟩
 .exact po.refl s
theorem It(ws:List ByteArray)(s:PS):po s (b9 ws s):=by
 unfold b9;split
 .exact po.refl s
 .exact OC ws s
theorem r8(ws:List ByteArray)(s:PS):po s (fJ ws s):=by
 unfold fJ;split
 .exact⟨prefix_refl _,Jx _ _⟩
 .exact It ws s
theorem Is(ws:List ByteArray)(s:PS):po s (fA ws s):=by
 unfold fA;split
 .exact po.refl s
 .split
  .exact po.refl s
  .exact pQ ws _ s
theorem Zz(ws:List ByteArray)(s:PS):po s (Be ws s) :=
 (pQ ws _ s).trans ((r8 ws _).trans ((pQ ws _ _).trans ((r8 ws _).trans (pQ ws _ _))))
theorem OB(ws:List ByteArray)(s:PS):po s (eI ws s):=by
 unfold eI;split
 .exact po.refl s
 .split
  .exact Zz ws s.adv
  .exact(r8 ws s).trans ((Is ws _).trans (r8 ws _))
theorem Uc(ws:List ByteArray)(n:Nat):∀s,po s (jj ws n s).2:=by
 induction n with
 |zero=>intro s;exact po.refl s
 |succ n ih =>
  intro s;simp only[jj];split
  .exact(OB ws s.adv).trans (ih _)
  .exact po.refl s
theorem JP{ws:List ByteArray}{s:PS}{x:ByteArray}{r:List ByteArray}(h:Rd ws s (x::r))(hx:gP x=true):
  LP (fJ ws s).vars (fJ ws s).hid (tT ws s) (tS ws s)=x/\SV (fJ ws s).vars (fJ ws s).hid (tT ws s) (tS ws s)/\Rd ws (fJ ws s) r:=by
 have mz:Rd ws (fJ ws s) r:=by
  have:=sG.ok s _ h;rw[jY.2 ⟨x,hx,rfl⟩]at this;exact this
 have SG:=zB h;have Mh:bK ws kt s=aX x kt:=dA wg h;by_cases hu:k8 x=true
 .have hK:tT ws s=2:=by unfold tT;rw[SG,if_pos hu]
  have hI:tS ws s=plc s.hid (Cm x):=by unfold tS;rw[SG,if_pos hu]
  have hS:(fJ ws s).hid=put s.hid (Cm x):=by unfold fJ;rw[SG,if_pos hu]
  have hp:=Jv s.hid (Cm x);refine⟨?_,?_,mz⟩
  .rw[hK,hI,hS];unfold LP;rw[if_neg (by decide),if_pos rfl,hp.2];exact(GO hu).symm
  .rw[hK,hI,hS];exact⟨by omega,λh=>by omega,λ_=>hp.1⟩
 .have hK:tT ws s=dS ws s:=by unfold tT;rw[SG,if_neg hu]
  have hI:tS ws s=fe ws s:=by unfold tS;rw[SG,if_neg hu]
  have hS:fJ ws s=b9 ws s:=by unfold fJ;rw[SG,if_neg hu]
  by_cases hn:aX x kt=true
  .have hK2:dS ws s=0:=(by unfold dS;rw[Mh,if_pos hn]);have cd:fe ws s=0:=(by unfold fe;rw[Mh,if_pos hn]);refine⟨?_,?_,mz⟩
   .rw[hK,hI,hK2,cd];unfold LP;rw[if_neg (by decide),if_neg (by decide)];exact(a8.1 hn).symm
   .rw[hK,hI,hK2,cd];exact⟨by omega,λh=>by omega,λh=>by omega⟩
  .have hl:aK x=true:=by
    simp only[gP,Bool.or_eq_true]at hx;rcases hx with(hx|hx)|hx
    .exact absurd hx hn
    .exact hx
    .exact absurd hx hu
   have hK2:dS ws s=1:=(by unfold dS;rw[Mh,if_neg hn]);have cd:fe ws s=plc s.vars (Cm x):=(by unfold fe;rw[Mh,if_neg hn];unfold mN;rw[SG,if_pos hl]);have bY:(fJ ws s).vars=put s.vars (Cm x):=(by rw[hS];unfold b9;rw[Mh,if_neg hn];unfold bD;rw[SG,if_pos hl]);have hp:=Jv s.vars (Cm x);refine⟨?_,?_,mz⟩
   .rw[hK,hI,hK2,cd,bY];unfold LP;rw[if_pos rfl,hp.2];exact(Bf hl).symm
   .rw[hK,hI,hK2,cd,bY];exact⟨by omega,λ_=>hp.1,λh=>by omega⟩
theorem abI{ws:List ByteArray}{s:PS}{x:ByteArray}{r:List ByteArray}(h:Rd ws s (x::r))(hx:(aX x bS||aX x kU||aX x LQ)=true):
  XQ (j6 ws s)=x/\(1<=j6 ws s/\j6 ws s<=3)/\Rd ws (fA ws s) r:=by
 have mz:Rd ws (fA ws s) r:=by
  have:=BB.ok s _ h;rw[sF.2 ⟨x,hx,rfl⟩]at this;exact this
 have h1:bK ws gT s=aX x gT:=dA px h;have h2:bK ws tr s=aX x tr:=dA Dw h;by_cases e1:aX x gT=true
 .have:j6 ws s=1:=by unfold j6;rw[h1,if_pos e1]
  rw[this];exact⟨(a8.1 e1).symm,by omega,mz⟩
 .by_cases e2:aX x tr=true
  .have:j6 ws s=2:=(by unfold j6;rw[h1,if_neg e1,h2,if_pos e2]);rw[this];exact⟨(a8.1 e2).symm,by omega,mz⟩
  .have:j6 ws s=3:=(by unfold j6;rw[h1,if_neg e1,h2,if_neg e2]);rw[this];simp only[Bool.or_eq_true]at hx;rcases hx with(hx|hx)|hx
   .exact absurd hx e1
   .exact absurd hx e2
   .exact⟨(a8.1 hx).symm,by omega,mz⟩
theorem WX{ws:List ByteArray}{s:PS}{k:ByteArray}{r:List ByteArray}(hk:k.toList≠[])(h:Rd ws s (k::r)):Rd ws (aF ws k s) r:=by
 have:=(de (ws:=ws) hk).ok s _ h;rw[rg]at this;exact this
def xW(vars hid:List UInt8)(a:ci):Prop:=a.k<=4/\SV vars hid a.lk a.li/\SV vars hid a.rk a.ri
def Qr(vars hid:List UInt8)(l:List ci):List zV:=(l.filter (λa=>a.k != 0)).map (nmA vars hid)
theorem WR{ws:List ByteArray}{s:PS}{p q:List ByteArray}(h:Rd ws s (p++q))(hp:yy p=true):
  pce p=Qr (eI ws s).vars (eI ws s).hid [qw ws s]/\xW (eI ws s).vars (eI ws s).hid (qw ws s)/\Rd ws (eI ws s) q:=by
 have mz:Rd ws (eI ws s) q:=by
  have:=nD.ok s _ h;rw[jW.2 ⟨p,hp,rfl⟩]at this;exact this
 match p,hp with
 |[a],hp =>
  have ea:a=qA:=a8.1 (show aX a qA=true from hp);subst ea;have Mh:bK ws pV s=true:=by
   rw[dA AV h];exact aT _
  have hA:qw ws s=⟨0,0,0,0,0⟩:=by unfold qw;rw[if_pos Mh]
  rw[hA];exact⟨rfl,⟨by show 0<=4;omega,⟨by show 0<=2;omega,λh=>(by cases h),λh=>(by cases h)⟩,⟨by show 0<=2;omega,λh=>(by cases h),λh=>(by cases h)⟩⟩,mz⟩
 |[a,b,c],hp =>
  simp only[yy,Bool.and_eq_true]at hp;obtain⟨⟨ha,hc⟩,hb⟩:=hp;have h':Rd ws s (a::b::c::q):=h;have aH:bK ws pV s=false:=by
   rw[dA AV h'];exact bj (lA ha (aq (by simp[pV,cC])) rfl rfl)
  have jO:bK ws IS s=false:=by
   rw[dA PW h'];exact bj (lA ha (aq (by simp[IS,cC])) rfl rfl)
  obtain⟨t1,t2,t3⟩:=JP h' ha;obtain⟨r1,r2,r3⟩:=abI t3 hb;obtain⟨u1,u2,u3⟩:=JP r3 hc;have hA:qw ws s=⟨j6 ws (fJ ws s),tT ws s,tS ws s,tT ws (fA ws (fJ ws s)),tS ws (fA ws (fJ ws s))⟩:=by
   unfold qw;rw[if_neg (by rw[aH];simp),if_neg (by rw[jO];simp)]
  have hS:eI ws s=fJ ws (fA ws (fJ ws s)):=by
   unfold eI;rw[if_neg (by rw[aH];simp),if_neg (by rw[jO];simp)]
  have hg:po (fJ ws s) (fJ ws (fA ws (fJ ws s))):=(Is ws _).trans (r8 ws _);refine⟨?_,?_,mz⟩
  .rw[hA,hS];have hk:((j6 ws (fJ ws s)) != 0)=true:=(by rw[bne_iff_ne];omega);simp only[Qr,filter_cons,hk,if_true,filter_nil,map_cons,map_nil];show [(⟨b,a,c⟩:zV)]=[⟨_,_,_⟩];rw[r1,rz hg t2,t1,u1]
  .rw[hA,hS];exact⟨by show j6 ws (fJ ws s)<=4;omega,t2.gro hg,u2⟩
 |[a,b,c,d,e,f],hp =>
  simp only[yy,Bool.and_eq_true,a8]at hp;obtain⟨⟨⟨⟨rfl,rfl⟩,rfl⟩,rfl⟩,hc,he⟩:=hp;have h':Rd ws s (EK::uC::c::WT::e::sS::q):=h;have aH:bK ws pV s=false:=by
   rw[dA AV h'];exact bj (aq (by simp[pV,EK]))
  have jO:bK ws IS s=true:=by
   rw[dA PW h'];exact aT _
  have h1:=c9 h';have h2:Rd ws (qZ ws s.adv) (c::WT::e::sS::q):=WX us h1;obtain⟨t1,t2,t3⟩:=JP h2 hc;have h3:Rd ws (pY ws s.adv) (e::sS::q):=WX wf t3;obtain⟨u1,u2,u3⟩:=JP h3 he;have hA:qw ws s=XR ws s.adv:=by unfold qw;rw[if_neg (by rw[aH];simp),if_pos jO]
  have hS:eI ws s=Be ws s.adv:=by unfold eI;rw[if_neg (by rw[aH];simp),if_pos jO]
  have Pb:po (fJ ws (pY ws s.adv)) (Be ws s.adv):=pQ ws _ _;have hg:po (fJ ws (qZ ws s.adv)) (Be ws s.adv):=(pQ ws ni _).trans ((r8 ws _).trans Pb);refine⟨?_,?_,mz⟩
  .rw[hA,hS];show [(⟨EK,c,e⟩:zV)]=[⟨XQ 4,LP _ _ (tT ws (qZ ws s.adv)) (tS ws (qZ ws s.adv)),LP _ _ (tT ws (pY ws s.adv)) (tS ws (pY ws s.adv))⟩];rw[rz hg t2,t1,rz Pb u2,u1];rfl
  .rw[hA,hS];exact⟨zq4 4,t2.gro hg,u2.gro Pb⟩
theorem Vv(vars hid:List UInt8)(a b:List ci):Qr vars hid (a++b)=Qr vars hid a++Qr vars hid b:=by simp[Qr]
theorem Vw{s s':PS}(h:po s s'){l:List ci}(hl:∀a∈l,xW s.vars s.hid a):Qr s'.vars s'.hid l=Qr s.vars s.hid l:=by
 unfold Qr;apply map_congr_left;intro a ha;have:=hl a (mem_filter.1 ha).1;unfold nmA;rw[rz h this.2.1,rz h this.2.2]
theorem xW.gro{s s':PS}(h:po s s'){a:ci}(ha:xW s.vars s.hid a):xW s'.vars s'.hid a:=⟨ha.1,ha.2.1.gro h,ha.2.2.gro h⟩
theorem aeK{ws:List ByteArray}{f:List ByteArray}(hf:oK f):∀{n:Nat} {s:PS} {q:List ByteArray},Rd ws s (f++q)->f.length<=n->gq bJ q=false ->
  ∃al,SR [] f=some al/\al=Qr (jj ws n (eI ws s)).2.vars (jj ws n (eI ws s)).2.hid (qw ws s::(jj ws n (eI ws s)).1)/\∀a∈qw ws s::(jj ws n (eI ws s)).1,xW (jj ws n (eI ws s)).2.vars (jj ws n (eI ws s)).2.hid a:=by
 induction hf using oK.ind with
 |@one p hp =>
  intro n s q h hn hq;obtain⟨h1,h2,h3⟩:=WR h hp;have e:jj ws n (eI ws s)=([],eI ws s):=by
   cases n with
   |zero=>rfl
   |succ n=>simp only[jj];rw[dA od h3,show gq dD q=false from hq,if_neg (by simp)]
  rw[e];refine⟨pce p,?_,h1,λa ha=>?_⟩
  .have:=JC (yP hp) [] [];rw[append_nil]at this;rw[this];simp only[SR,nil_append,if_pos hp]
  .simp only[mem_singleton]at ha;subst ha;exact h2
 |@more p r hp _ ih =>
  intro n s q h hn hq;rw[append_assoc]at h;obtain⟨h1,h2,h3⟩:=WR h hp;have h3':Rd ws (eI ws s) (bJ::(r++q)):=h3;simp only[length_append,length_cons]at hn;cases n with
  |zero=>omega
  |succ n =>
   have e:jj ws (n+1) (eI ws s)=(qw ws (eI ws s).adv::(jj ws n (eI ws (eI ws s).adv)).1,(jj ws n (eI ws (eI ws s).adv)).2):=by
    simp only[jj];rw[dA od h3',show gq dD (bJ::(r++q))=true from aT _,if_pos rfl]
   obtain⟨al,g1,g2,g3⟩:=ih (n:=n) (c9 h3') (by omega) hq;rw[e];have hg:po (eI ws s) (jj ws n (eI ws (eI ws s).adv)).2:=(OB ws (eI ws s).adv).trans (Uc ws n _);refine⟨pce p++al,?_,?_,λa ha=>?_⟩
   .rw[JC (yP hp)];simp only[SR,nil_append,aT,if_true,if_pos hp,g1];rfl
   .rw[show qw ws s::(qw ws (eI ws s).adv::(jj ws n (eI ws (eI ws s).adv)).1)=[qw ws s]++(qw ws (eI ws s).adv::(jj ws n (eI ws (eI ws s).adv)).1) from rfl,Vv,<-g2,h1];rw[Vw hg (λa ha=>by simp only[mem_singleton]at ha;subst ha;exact h2)]
   .rcases mem_cons.1 ha with rfl|ha
    .exact h2.gro hg
    .exact g3 a ha
structure tW(s:PS):Prop where
 nv:s.vars.Nodup
 nh:s.hid.Nodup
 lv:∀c∈s.vars,aK (dP c)=true
 lh:∀c∈s.hid,k8 (dP c)=true
theorem VI{l:List UInt8}{c:UInt8}(h:c∈l):plc l c<l.length:=by
 induction l with
 |nil=>cases h
 |cons a l ih =>
  show(if a=c then 0 else plc l c+1)<_;by_cases e:a=c
  .rw[if_pos e];simp
  .rw[if_neg e];rcases mem_cons.1 h with h|h
   .exact absurd h.symm e
   .have:=ih h;simp;omega
theorem Jw{l:List UInt8}{c x:UInt8}(h:x∈put l c):x∈l\/x=c:=by
 unfold put at h;split at h
 .rcases mem_append.1 h with h|h
  .exact zq0 h
  .exact zq1 (by simpa using h)
 .exact zq0 h
theorem zD{l:List UInt8}{c:UInt8}(h:l.Nodup):(put l c).Nodup:=by
 unfold put;split
 .rename_i he;rw[nodup_append];refine⟨h,by simp,λa ha b hb=>?_⟩;simp only[mem_singleton]at hb;subst hb;rintro rfl;have:=VI ha;omega
 .exact h
theorem Jq{l:List UInt8}(h:l.Nodup){i:Nat}(hi:i<l.length):plc l (l.getD i 0)=i:=by
 induction l generalizing i with
 |nil=>simp at hi
 |cons a l ih =>
  have hn:=nodup_cons.1 h;cases i with
  |zero=>show(if a=a then 0 else _)=0;rw[if_pos rfl]
  |succ i =>
   have lR:i<l.length:=(by simpa using hi);show(if a=l.getD i 0 then 0 else plc l (l.getD i 0)+1)=i+1;rw[if_neg,ih hn.2 lR];rintro rfl;apply hn.1;have:l.getD i 0=l[i]:=(by simp[lR]);rw[this];exact getElem_mem lR
theorem pZ{ws:List ByteArray}{k:ByteArray}{s:PS}(h:tW s):tW (aF ws k s):=by unfold aF;split <;> exact⟨h.nv,h.nh,h.lv,h.lh⟩
theorem Qg{ws:List ByteArray}{s:PS}(h:tW s):tW (bD ws s):=by
 unfold bD;split
 .rename_i hl;refine⟨zD h.nv,h.nh,λc hc=>?_,h.lh⟩;rcases Jw hc with hc|rfl
  .exact h.lv c hc
  .rw[<-Bf hl];exact hl
 .exact⟨h.nv,h.nh,h.lv,h.lh⟩
theorem Jc{ws:List ByteArray}{s:PS}(h:tW s):tW (b9 ws s):=by
 unfold b9;split
 .exact⟨h.nv,h.nh,h.lv,h.lh⟩
 .exact Qg h
theorem Bh{ws:List ByteArray}{s:PS}(h:tW s):tW (fJ ws s):=by
 unfold fJ;split
 .rename_i hl;refine⟨h.nv,zD h.nh,h.lv,λc hc=>?_⟩;rcases Jw hc with hc|rfl
  .exact h.lh c hc
  .rw[<-GO hl];exact hl
 .exact Jc h
theorem Vi{ws:List ByteArray}{s:PS}(h:tW s):tW (fA ws s):=by
 unfold fA;split
 .exact⟨h.nv,h.nh,h.lv,h.lh⟩
 .split
  .exact⟨h.nv,h.nh,h.lv,h.lh⟩
  .exact pZ h
theorem Qe{ws:List ByteArray}{s:PS}(h:tW s):tW (eI ws s):=by
 unfold eI;split
 .exact⟨h.nv,h.nh,h.lv,h.lh⟩
 .split
  .have h1:tW s.adv:=⟨h.nv,h.nh,h.lv,h.lh⟩;exact pZ (Bh (pZ (Bh (pZ h1))))
  .exact Bh (Vi (Bh h))
theorem Vh{ws:List ByteArray}(n:Nat):∀{s:PS},tW s->tW (jj ws n s).2:=by
 induction n with
 |zero=>intro s h;exact h
 |succ n ih =>
  intro s h;simp only[jj];split
  .exact ih (Qe ⟨h.nv,h.nh,h.lv,h.lh⟩)
  .exact h
theorem Qf{ws:List ByteArray}{s:PS}(h:tW s):tW (rG ws s):=Vh _ (Qe h)
def SgN(x:List UInt8)(W:List (List UInt8)):Prop:=∀r,jc (x++r)=(jc r).map (W++·)
section
variable {x x':List UInt8} {W W':List (List UInt8)}
theorem Rh{c:UInt8}(h1:mf c=false)(h2:c≠45)(h3:c≠33)(h4:xd c.toNat=true)(h5:¬ (c=32\/c=10)):SgN [c] [[c]]:=λr=>by
 have hl:¬ 0<bE (c::r):=by unfold bE;rw[takeWhile_cons,h1];simp
 have h6:¬ ((c::r).take 2=[45,62]\/(c::r).take 2=[33,61]):=by
  rw[take_succ_cons];rintro(e|e) <;> injection e with e _
  .exact h2 e
  .exact h3 e
 have hw:aR (c::r)=1:=by
  unfold aR;rw[if_neg hl,if_neg h6];show(if xd c.toNat=true then 1 else 0)=1;rw[h4];rfl
 rw[show [c]++r=c::r from rfl,lH c r h5 (by rw[hw];simp),hw];rfl
def bA(x:List UInt8):ByteArray:=⟨x.toArray⟩
def w3(x k y:List UInt8):List (List UInt8):=[x,k,y]
def w6(x y:List UInt8):List (List UInt8):=[[108,115],[40],x,[44],y,[41]]
end
