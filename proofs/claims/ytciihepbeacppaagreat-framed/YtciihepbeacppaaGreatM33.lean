import Derived.Test.YtciihepbeacppaaGreatM32
namespace Go.Proofs.YtciihepbeacppaaGreat
open Go.RowKit List
set_option linter.unusedVariables false
def rl(vs:List UInt8)(x:ByteArray)(i:Nat):Prop:=aF x=true/\vs[i]?=some (BN x)
def VM(vs:List UInt8)(y:ByteArray)(k i:Nat):Prop:=(y=bZ/\k=0)\/(k=1/\rl vs y i)
theorem rl.up{vs vs':List UInt8}{x:ByteArray}{i:Nat}(h:rl vs x i)(hp:vs <+: vs'):rl vs' x i:=by
 obtain⟨r,rfl⟩:=hp;refine⟨h.1,?_⟩;rw[getElem?_append_left (List.getElem?_eq_some_iff.1 h.2).1];exact h.2
theorem VM.up{vs vs':List UInt8}{x:ByteArray}{k i:Nat}(h:VM vs x k i)(hp:vs <+: vs'):VM vs' x k i:=by
 rcases h with h|h
 .exact zq0 h
 .exact zq1 ⟨h.1,h.2.up hp⟩
def TI(vs:List UInt8)(nd:Nd)(i:qj):Prop :=
 i.op=sZ/\((i.cond=aQ/\nd.op=7)\/(i.cond=bW/\nd.op=8/\rl vs i.x nd.v/\VM vs i.y nd.ak nd.ai)\/(i.cond=kJ/\nd.op=9/\rl vs i.x nd.v/\VM vs i.y nd.ak nd.ai))
def SI(vs:List UInt8)(nd:Nd)(i:qj):Prop :=
 (i.op=bZ/\nd.op=1/\rl vs i.x nd.v/\nd.ak=0) \/
 (i.op=Cm/\nd.op=1/\rl vs i.x nd.v/\nd.ak=1/\rl vs i.y nd.ai) \/
 (i.op=mb/\nd.op=4/\rl vs i.x nd.v) \/
 (i.op=Df/\nd.op=2/\rl vs i.x nd.v/\nd.ak=1/\rl vs i.y nd.ai) \/
 (i.op=wI/\nd.op=3/\rl vs i.x nd.v/\VM vs i.y nd.ak nd.ai) \/
 (i.op=fW/\nd.op=5/\rl vs i.x nd.v) \/
 (i.op=gh/\nd.op=6)
def NI(vs:List UInt8)(j:Nat)(nd:Nd)(i:qj):Prop :=
 (SI vs nd i/\nd.nx=j+1)\/(TI vs nd i/\nd.nx=j+1/\nd.ot=i.to)\/(i.op=Kh/\nd.op=10/\nd.nx=i.to)
def D6(vs:List UInt8):Nat->List Nd->List qj->Prop
 |_,[],[]=>True
 |n,a::N,b::C=>NI vs n a b/\D6 vs (n+1) N C
 |_,_,_=>False
theorem D6.len{vs:List UInt8}:∀{n:Nat} {N:List Nd} {C:List qj},D6 vs n N C->N.length=C.length
 |_,[],[],_=>rfl
 |_,_::_,_::_,h=>by simp[h.2.len]
 |_,[],_::_,h=>by cases h
 |_,_::_,[],h=>by cases h
theorem D6.app{vs:List UInt8}{N':List Nd}{C':List qj}:∀{n:Nat} {N:List Nd} {C:List qj},D6 vs n N C->D6 vs (n+N.length) N' C'->D6 vs n (N++N') (C++C')
 |_,[],[],_,h=>h
 |n,_::N,_::_,h,h'=>⟨h.1,h.2.app (by rw[length_cons,show n+(N.length+1)=n+1+N.length by omega]at h';exact h')⟩
 |_,[],_::_,h,_=>by cases h
 |_,_::_,[],h,_=>by cases h
theorem D6.get{vs:List UInt8}:∀{n:Nat} {N:List Nd} {C:List qj},D6 vs n N C->∀j nd i,N[j]?=some nd->C[j]?=some i->NI vs (n+j) nd i
 |_,[],[],_,_,_,_,h1,_=>by simp at h1
 |n,_::_,_::_,h,0,_,_,h1,h2=>by
  simp only[getElem?_cons_zero,Option.some.injEq]at h1 h2;subst h1;subst h2;exact h.1
 |n,_::_,_::_,h,j+1,_,_,h1,h2=>by
  simp only[getElem?_cons_succ]at h1 h2;have:=h.2.get j _ _ h1 h2;rw[show n+1+j=n+(j+1) by omega]at this;exact this
 |_,[],_::_,h,_,_,_,_,_=>by cases h
 |_,_::_,[],h,_,_,_,_,_=>by cases h
theorem yW{α:Type}(f:α->α)(t:α)(R:List α):∀A:List α,(A++t::R).modify A.length f=A++f t::R
 |[]=>rfl
 |a::A=>by simp[modify_succ_cons,yW f t R A]
theorem vW{α:Type}(f:α->α)(t:α)(R A:List α){n:Nat}(h:n=A.length):(A++t::R).modify n f=A++f t::R:=by subst h;exact yW f t R A
structure zo(ws:List ByteArray)(s s':PS)(r:List ByteArray):Prop where
 rd:Rd ws s' r
 nd:s'.nodes=s.nodes
 vs:s.vars <+: s'.vars
theorem zo.trans{ws:List ByteArray}{s s' s'':PS}{r r':List ByteArray}(h:zo ws s s' r)(k:zo ws s' s'' r'):zo ws s s'' r':=⟨k.rd,k.nd.trans h.nd,h.vs.trans k.vs⟩
theorem jh{ws:List ByteArray}{s:PS}{x:ByteArray}{r:List ByteArray}(h:Rd ws s (x::r)):zo ws s s.adv r:=⟨cY h,rfl,prefix_refl _⟩
theorem cF{ws:List ByteArray}{s:PS}{k x:ByteArray}{r:List ByteArray}(hk:k.toList≠[])(h:Rd ws s (x::r)):bR ws k s=aW x k:=dh hk h
theorem dY{ws:List ByteArray}{s:PS}{k:ByteArray}{r:List ByteArray}(hk:k.toList≠[])(h:Rd ws s (k::r)):zo ws s (aG ws k s) r:=by
 unfold aG;rw[cF hk h,aR,if_pos rfl];exact jh h
theorem Qy(l:List UInt8)(c:UInt8):l <+: put l c:=by
 unfold put;split
 .exact prefix_append _ _
 .exact prefix_refl _
theorem Qq(l:List UInt8)(c:UInt8)(h:plc l c≠l.length):l[plc l c]?=some c:=by
 induction l with
 |nil=>exact absurd rfl h
 |cons x r ih =>
  simp only[plc]at h ⊢;by_cases hx:x=c
  .rw[if_pos hx];simp[hx]
  .rw[if_neg hx]at h ⊢;rw[getElem?_cons_succ];exact ih (by simpa using h)
theorem Qw(l:List UInt8)(c:UInt8):(put l c)[plc l c]?=some c:=by
 unfold put;by_cases h:plc l c=l.length
 .rw[if_pos h,h];simp
 .rw[if_neg h];exact Qq l c h
theorem wH{ws:List ByteArray}{s:PS}{x:ByteArray}{r:List ByteArray}(h:Rd ws s (x::r))(hx:aF x=true):zo ws s (bK ws s) r/\rl (bK ws s).vars x (mI ws s):=by
 have e1:bK ws s={ s with pos:=s.pos+1,vars:=put s.vars (BN x) }:=by unfold bK;rw[y7 h,if_pos hx]
 have e2:mI ws s=plc s.vars (BN x):=by unfold mI;rw[y7 h,if_pos hx]
 rw[e1,e2];exact⟨⟨⟨h.1,(cY h).2⟩,rfl,Qy _ _⟩,hx,Qw _ _⟩
theorem jp:aF bZ=false:=rfl
theorem Bn{ws:List ByteArray}{s:PS}{x:ByteArray}{r:List ByteArray}(h:Rd ws s (x::r))(hx:x=bZ\/aF x=true):zo ws s (ce ws s) r/\VM (ce ws s).vars x (dI ws s) (eM ws s):=by
 rcases hx with rfl|hx
 .have e:bR ws j8 s=true:=(cF vI h).trans (aR _);unfold ce dI eM;rw[e,if_pos rfl,if_pos rfl];exact⟨jh h,zq0 ⟨rfl,rfl⟩⟩
 .have e:bR ws j8 s=false:=(cF vI h).trans (bB (eJ hx jp));unfold ce dI eM;rw[e,if_neg (by simp),if_neg (by simp),if_neg (by simp)];exact⟨(wH h hx).1,zq1 ⟨rfl,(wH h hx).2⟩⟩
theorem QZ{ws:List ByteArray}{s t:PS}{r:List ByteArray}(nd:Nd)(h:zo ws s t r):Rd ws (ch nd t) r/\(ch nd t).nodes=s.nodes++[{ nd with nx:=s.nodes.length+1 }]/\s.vars <+: (ch nd t).vars:=by
 refine⟨h.rd,?_,h.vs⟩;show t.nodes++[{ nd with nx:=t.nodes.length+1 }]=_;rw[h.nd]
theorem ahq{ws:List ByteArray}{s:PS}{c q:List ByteArray}(hc:px c)(h:Rd ws s (c++q)):zo ws s (ti ws s) q/\TI (ti ws s).vars (BD ws s) (Mh c)/\(BD ws s).ot=0/\(Mh c).to=0:=by
 cases hc using px.ind with
 |star =>
  have e:bR ws dq s=true:=(cF nY h).trans (aR _);unfold ti BD;rw[e,if_pos rfl,if_pos rfl];exact⟨jh h,⟨rfl,zq0 ⟨rfl,rfl⟩⟩,rfl,rfl⟩
 |@two a b c ha hb hc =>
  have e:bR ws dq s=false:=(cF nY h).trans (bB (eJ ha rfl));have h1:=wH h ha;have Ki:Rd ws (bK ws s) (b::c::q):=h1.1.rd;have hT:zo ws (bK ws s) (yz ws (bK ws s)) (c::q)/\((b=kJ/\RI ws (bK ws s)=9)\/(b=bW/\RI ws (bK ws s)=8)):=by
   unfold yz RI;rcases hb with rfl|rfl
   .have e2:bR ws sU (bK ws s)=false:=(cF C8 Ki).trans (bB (am (by simp[bW,sU])));rw[e2,if_neg (by simp),if_neg (by simp)];exact⟨dY pm Ki,zq1 ⟨rfl,rfl⟩⟩
   .have e2:bR ws sU (bK ws s)=true:=(cF C8 Ki).trans (aR _);rw[e2,if_pos rfl,if_pos rfl];exact⟨jh Ki,zq0 ⟨rfl,rfl⟩⟩
  have h3:=Bn hT.1.rd hc;unfold ti BD;rw[e,if_neg (by simp),if_neg (by simp)];refine⟨(h1.1.trans hT.1).trans h3.1,⟨rfl,?_⟩,rfl,rfl⟩;rcases hT.2 with⟨rfl,h9⟩|⟨rfl,h8⟩
  .exact zq1 (zq1 ⟨rfl,h9,h1.2.up (hT.1.vs.trans h3.1.vs),h3.2⟩)
  .exact zq1 (zq0 ⟨rfl,h8,h1.2.up (hT.1.vs.trans h3.1.vs),h3.2⟩)
theorem TI.up{vs vs':List UInt8}{nd:Nd}{i:qj}(h:TI vs nd i)(hp:vs <+: vs'):TI vs' nd i:=by
 obtain⟨h0,h1⟩:=h;refine⟨h0,?_⟩;rcases h1 with h1|⟨a,b,c,d⟩|⟨a,b,c,d⟩
 .exact zq0 h1
 .exact zq1 (zq0 ⟨a,b,c.up hp,d.up hp⟩)
 .exact zq1 (zq1 ⟨a,b,c.up hp,d.up hp⟩)
theorem SI.up{vs vs':List UInt8}{nd:Nd}{i:qj}(h:SI vs nd i)(hp:vs <+: vs'):SI vs' nd i:=by
 rcases h with⟨a,b,c,d⟩|⟨a,b,c,d,e⟩|⟨a,b,c⟩|⟨a,b,c,d,e⟩|⟨a,b,c,d⟩|⟨a,b,c⟩|h
 .exact zq0 ⟨a,b,c.up hp,d⟩
 .exact zq1 (zq0 ⟨a,b,c.up hp,d,e.up hp⟩)
 .exact zq1 (zq1 (zq0 ⟨a,b,c.up hp⟩))
 .exact zq1 (zq1 (zq1 (zq0 ⟨a,b,c.up hp,d,e.up hp⟩)))
 .exact zq1 (zq1 (zq1 (zq1 (zq0 ⟨a,b,c.up hp,d.up hp⟩))))
 .exact zq1 (zq1 (zq1 (zq1 (zq1 (zq0 ⟨a,b,c.up hp⟩)))))
 .exact zq1 (zq1 (zq1 (zq1 (zq1 (zq1 h)))))
theorem Q0{ws:List ByteArray}{s:PS}{c q:List ByteArray}(hc:px c)(h:Rd ws s (ug::(c++sG::q))):
  Rd ws (gl ws s) q/\s.vars <+: (gl ws s).vars/\∃nd,(gl ws s).nodes=s.nodes++[nd]/\nd.nx=s.nodes.length+1/\TI (gl ws s).vars nd (Mh c):=by
 have h1:=dY t0 h;have h2:=ahq hc h1.rd;have h3:=dY qH h2.1.rd;obtain⟨g1,g2,g3⟩:=QZ (BD ws (aG ws gb s)) ((h1.trans h2.1).trans h3);exact⟨g1,g3,_,g2,rfl,h2.2.1.up h3.vs⟩
def aes(ws:List ByteArray)(s s':PS)(q:List ByteArray)(nd:Nd):Prop:=Rd ws s' q/\s.vars <+: s'.vars/\s'.nodes=s.nodes++[nd]/\nd.nx=s.nodes.length+1
theorem mi{ws:List ByteArray}{s:PS}{q:List ByteArray}(h:zo ws s (io ws s) (su::q)):aes ws s (sW ws s) q { kx ws s with nx:=s.nodes.length+1 }:=by
 obtain⟨g1,g2,g3⟩:=QZ (kx ws s) (h.trans (dY Aw h.rd));exact⟨g1,g3,g2,rfl⟩
theorem oB{ws:List ByteArray}{s:PS}{q:List ByteArray}(h:zo ws s (io ws s) (su::q)):(io ws s).vars <+: (sW ws s).vars:=(dY Aw h.rd).vs
theorem vN{a:ByteArray}(h:aF a=true):aW a gh=false:=bB (eJ h rfl)
theorem vM{a:ByteArray}(h:aF a=true):aW a fW=false:=bB (eJ h rfl)
theorem XO{ws:List ByteArray}{s:PS}{p q:List ByteArray}(hp:mB p)(h:Rd ws s (p++su::q)):
  ∃nd i,aes ws s (sW ws s) q nd/\rsI p=some i/\SI (sW ws s).vars nd i:=by
 cases hp using mB.ind with
 |skip =>
  have e:bR ws ie s=true:=(cF nX h).trans (aR _);have hA:zo ws s (io ws s) (su::q):=by unfold io;rw[if_pos e];exact jh h
  refine⟨_,_,mi hA,(by show(if aW gh gh=true then _ else _)=_;rw[if_pos (aR _)]),?_⟩;refine zq1 (zq1 (zq1 (zq1 (zq1 (zq1 ⟨rfl,?_⟩)))));show(kx ws s).op=6;unfold kx;rw[if_pos e]
 |@free b hb =>
  have e1:bR ws ie s=false:=(cF nX h).trans Kg;have e2:bR ws jd s=true:=(cF qJ h).trans (aR _);have h1:=jh h;have h2:=wH h1.rd hb;have hA:zo ws s (io ws s) (su::q):=by unfold io;rw[if_neg (by simp[e1]),if_pos e2];exact h1.trans h2.1
  refine⟨_,_,mi hA,(by show(if (aW fW fW&&aF b)=true then _ else _)=_;rw[if_pos (by rw[aR,hb];rfl)]),?_⟩;refine zq1 (zq1 (zq1 (zq1 (zq1 (zq0 ⟨rfl,?_,?_⟩)))))
  .show(kx ws s).op=5;unfold kx;rw[if_neg (by simp[e1]),if_pos e2]
  .show rl _ b (kx ws s).v;have ev:(kx ws s).v=mI ws s.adv:=(by unfold kx;rw[if_neg (by simp[e1]),if_pos e2]);rw[ev];refine h2.2.up ?_;have:(io ws s).vars=(bK ws s.adv).vars:=(by unfold io;rw[if_neg (by simp[e1]),if_pos e2]);rw[<-this];exact oB hA
 |@val a c ha hc =>
  have e1:bR ws ie s=false:=(cF nX h).trans (vN ha);have e2:bR ws jd s=false:=(cF qJ h).trans (vM ha);have h1:=wH h ha;have Ki:Rd ws (bK ws s) (bW::c::su::q):=h1.1.rd;have e3:bR ws iJ (bK ws s)=false:=(cF l9 Ki).trans Hm;have h2:=dY pm Ki;have eS:io ws s=oL ws (aG ws gR (bK ws s)):=by unfold io;rw[if_neg (by simp[e1]),if_neg (by simp[e2]),if_neg (by simp[e3])]
  have eN:kx ws s=xn ws (mI ws s) (aG ws gR (bK ws s)):=by unfold kx;rw[if_neg (by simp[e1]),if_neg (by simp[e2]),if_neg (by simp[e3])]
  have hn:∀x,rsI [a,bW,x]=if (aW x bZ||aW x mb)=true then some ⟨x,a,em,em,0,false⟩ else if aF x=true then some ⟨Cm,a,x,em,0,false⟩ else none:=by
   intro x;show(if (aF a&&aW bW bW)=true then _ else _)=_;rw[if_pos (by rw[ha,aR];rfl)]
  rcases hc with rfl|hc
  .have e4:bR ws oU (aG ws gR (bK ws s))=true:=(cF Av h2.rd).trans (aR _);have hA:zo ws s (io ws s) (su::q):=(by rw[eS];unfold oL;rw[if_pos e4];exact(h1.1.trans h2).trans (jh h2.rd));refine⟨_,_,mi hA,(by rw[hn,if_pos (by rw[aR];simp)]),?_⟩;have ev:kx ws s=⟨4,mI ws s,0,0,0,0⟩:=(by rw[eN];unfold xn;rw[if_pos e4]);rw[ev];refine zq1 (zq1 (zq0 ⟨rfl,rfl,h1.2.up ?_⟩));have:(io ws s).vars=(aG ws gR (bK ws s)).vars:=(by rw[eS];unfold oL;rw[if_pos e4];rfl);exact(this ▸ h2.vs).trans (oB hA)
  .have CN:aW c mb=false:=by
    rcases hc with rfl|hc
    .exact U7
    .exact bB (eJ hc rfl)
   have e4:bR ws oU (aG ws gR (bK ws s))=false:=(cF Av h2.rd).trans CN;have h3:=Bn h2.rd hc;have e5:D7 ws (aG ws gR (bK ws s))=false:=(by unfold D7;rw[(cF l9 h3.1.rd).trans QR,Bool.and_false]);have eS2:io ws s=ce ws (aG ws gR (bK ws s)):=(by rw[eS];unfold oL;rw[if_neg (by simp[e4]),if_neg (by simp[e5])]);have hA:zo ws s (io ws s) (su::q):=(by rw[eS2];exact(h1.1.trans h2).trans h3.1);have ev:kx ws s=⟨1,mI ws s,dI ws (aG ws gR (bK ws s)),eM ws (aG ws gR (bK ws s)),0,0⟩:=(by rw[eN];unfold xn;rw[if_neg (by simp[e4]),if_neg (by simp[e5])]);have KU:rl (sW ws s).vars a (mI ws s):=h1.2.up ((h2.vs.trans h3.1.vs).trans (by rw[<-eS2];exact oB hA));have Em:=h3.2.up (show(ce ws (aG ws gR (bK ws s))).vars <+: (sW ws s).vars by rw[<-eS2];exact oB hA);rcases hc with rfl|hc
   .refine⟨_,_,mi hA,(by rw[hn,if_pos (by rw[aR];rfl)]),?_⟩;rw[ev];have hk0:dI ws (aG ws gR (bK ws s))=0:=by
     rcases Em with h0|⟨_,h0⟩
     .exact h0.2
     .exact absurd h0.1 (by rw[jp];simp)
    exact zq0 ⟨rfl,rfl,KU,hk0⟩
   .refine⟨_,_,mi hA,(by rw[hn,if_neg (by rw[CN,bB (eJ hc jp)];simp),if_pos hc]),?_⟩;rw[ev];rcases Em with h0|⟨h0,h00⟩
    .exact absurd hc (by rw[h0.1,jp];simp)
    .exact zq1 (zq0 ⟨rfl,rfl,KU,h0,h00⟩)
 |@load a c ha hc =>
  have e1:bR ws ie s=false:=(cF nX h).trans (vN ha);have e2:bR ws jd s=false:=(cF qJ h).trans (vM ha);have h1:=wH h ha;have Ki:Rd ws (bK ws s) (bW::c::a8::nW::su::q):=h1.1.rd;have e3:bR ws iJ (bK ws s)=false:=(cF l9 Ki).trans Hm;have h2:=dY pm Ki;have eS:io ws s=oL ws (aG ws gR (bK ws s)):=by unfold io;rw[if_neg (by simp[e1]),if_neg (by simp[e2]),if_neg (by simp[e3])]
  have eN:kx ws s=xn ws (mI ws s) (aG ws gR (bK ws s)):=by unfold kx;rw[if_neg (by simp[e1]),if_neg (by simp[e2]),if_neg (by simp[e3])]
  have e4:bR ws oU (aG ws gR (bK ws s))=false:=(cF Av h2.rd).trans (bB (eJ hc rfl));have h3:=Bn h2.rd (zq1 hc);have KH:dI ws (aG ws gR (bK ws s))=1:=by
   rcases h3.2 with h0|h0
   .exact absurd hc (by rw[h0.1,jp];simp)
   .exact h0.1
  have e5:D7 ws (aG ws gR (bK ws s))=true:=by unfold D7;rw[KH,cF l9 h3.1.rd];rw[show aW a8 iJ=true from aR _];rfl
  have h4:=jh h3.1.rd;have h5:=dY K1 h4.rd;have eS2:io ws s=aG ws kN (ce ws (aG ws gR (bK ws s))).adv:=by rw[eS];unfold oL;rw[if_neg (by simp[e4]),if_pos e5]
  have hA:zo ws s (io ws s) (su::q):=by rw[eS2];exact(((h1.1.trans h2).trans h3.1).trans h4).trans h5
  have ev:kx ws s=⟨2,mI ws s,dI ws (aG ws gR (bK ws s)),eM ws (aG ws gR (bK ws s)),0,0⟩:=by rw[eN];unfold xn;rw[if_neg (by simp[e4]),if_pos e5]
  have rW:(ce ws (aG ws gR (bK ws s))).vars <+: (sW ws s).vars:=(h4.vs.trans h5.vs).trans (by rw[<-eS2];exact oB hA);refine⟨_,⟨Df,a,c,em,0,false⟩,mi hA,?_,?_⟩
  .show(if (aF a&&aW bW bW&&aF c&&aW a8 a8&&aW nW nW)=true then _ else _)=_;rw[if_pos (by simp[ha,hc,aR])]
  .rw[ev];rcases h3.2 with h0|⟨h0,h00⟩
   .exact absurd hc (by rw[h0.1,jp];simp)
   .exact zq1 (zq1 (zq1 (zq0 ⟨rfl,rfl,h1.2.up ((h2.vs.trans h3.1.vs).trans rW),h0,h00.up rW⟩)))
 |@store a e ha he =>
  have e1:bR ws ie s=false:=(cF nX h).trans (vN ha);have e2:bR ws jd s=false:=(cF qJ h).trans (vM ha);have h1:=wH h ha;have Ki:Rd ws (bK ws s) (a8::nW::bW::e::su::q):=h1.1.rd;have e3:bR ws iJ (bK ws s)=true:=(cF l9 Ki).trans (aR _);have h2:=jh Ki;have h3:=dY K1 h2.rd;have h4:=dY pm h3.rd;have h5:=Bn h4.rd he;have eS:io ws s=ce ws (zj ws (bK ws s)):=by unfold io;rw[if_neg (by simp[e1]),if_neg (by simp[e2]),if_pos e3]
  have hA:zo ws s (io ws s) (su::q):=by rw[eS];exact(((h1.1.trans h2).trans h3).trans h4).trans h5.1
  have ev:kx ws s=⟨3,mI ws s,dI ws (zj ws (bK ws s)),eM ws (zj ws (bK ws s)),0,0⟩:=by unfold kx;rw[if_neg (by simp[e1]),if_neg (by simp[e2]),if_pos e3]
  have rW:(ce ws (zj ws (bK ws s))).vars <+: (sW ws s).vars:=by rw[<-eS];exact oB hA
  refine⟨_,⟨wI,a,e,em,0,false⟩,mi hA,?_,?_⟩
  .show(if (aF a&&aW a8 bW&&aF nW&&aW bW a8&&aW e nW)=true then _ else if (aF a&&aW a8 a8&&aW nW nW&&aW bW bW&&(aF e||aW e bZ))=true then _ else _)=_;rw[if_neg (by rw[Y0];simp),if_pos];rcases he with rfl|he
   .simp[ha,aR]
   .simp[ha,he,aR]
  .rw[ev];exact zq1 (zq1 (zq1 (zq1 (zq0 ⟨rfl,rfl,h1.2.up ((((h2.vs.trans h3.vs).trans h4.vs).trans h5.1.vs).trans rW),h5.2.up rW⟩))))
def my(n:Nat)(i:qj):qj:=⟨i.op,i.x,i.y,i.cond,i.to+n,i.head⟩
theorem kw(m n:Nat)(l:List qj):(l.map (my m)).map (my n)=l.map (my (m+n)):=by
 rw[map_map];apply map_congr_left;intro i _;show my n (my m i)=my (m+n) i;unfold my;simp only[Nat.add_assoc]
def LQ(ws:List ByteArray)(s s':PS)(q:List ByteArray)(C:List qj):Prop :=
 Rd ws s' q/\s.vars <+: s'.vars/\∃N,s'.nodes=s.nodes++N/\∀vs,s'.vars <+: vs->D6 vs s.nodes.length N C
theorem LQ.len{ws:List ByteArray}{s s':PS}{q:List ByteArray}{C:List qj}(h:LQ ws s s' q C):s'.nodes.length=s.nodes.length+C.length:=by
 obtain⟨-,-,N,hN,hR⟩:=h;rw[hN,length_append,(hR _ (prefix_refl _)).len]
theorem LQ.trans{ws:List ByteArray}{s s' s'':PS}{q q':List ByteArray}{C C':List qj}(h:LQ ws s s' q C)(k:LQ ws s' s'' q' C'):LQ ws s s'' q' (C++C'):=by
 obtain⟨-,hv,N,hN,hR⟩:=h;obtain⟨kr,kv,N',kN,kR⟩:=k;refine⟨kr,hv.trans kv,N++N',by rw[kN,hN,append_assoc],λvs hvs=>?_⟩;have h1:=hR vs (kv.trans hvs);refine h1.app ?_;have h2:=kR vs hvs;rw[hN,length_append]at h2;exact h2
theorem uU{ws:List ByteArray}{c:PS->PS}{n:Nat}{s:PS}{r:List ByteArray}(h:Rd ws s (fE::r)):ji c ws (n+1) s=s:=by
 show(if (s.failed||bR ws kU s)=true then s else _)=_;rw[if_pos (by rw[cF qL h,show aW fE kU=true from aR _];simp)]
theorem zI{ws:List ByteArray}{c:PS->PS}{n:Nat}{s:PS}{x:ByteArray}{r:List ByteArray}(h:Rd ws s (x::r))(hx:x≠fE):ji c ws (n+1) s=ji c ws n (c s):=by
 show(if (s.failed||bR ws kU s)=true then s else ji c ws n (c s))=_;rw[h.1,cF qL h,show aW x kU=false from bB hx];rfl
theorem abq(A R:List Nd)(t:Nd)(k n:Nat)(h:k=A.length):dW k n (A++t::R)=A++{ t with ot:=n }::R:=vW _ t R A h
theorem ahb(A R:List Nd)(t:Nd)(k n:Nat)(h:k=A.length):gO k n (A++t::R)=A++{ t with nx:=n }::R:=vW _ t R A h
theorem Q3{vs:List UInt8}{nd:Nd}{c:List ByteArray}{hd:Bool}{j n m:Nat}(h:TI vs nd (Mh c))(hx:nd.nx=j+1)(hm:m=n):NI vs j { nd with ot:=m } ⟨(Mh c).op,(Mh c).x,(Mh c).y,(Mh c).cond,n,hd⟩ :=
 zq1 (zq0 ⟨h,hx,hm⟩)
def VV(c:List ByteArray)(n:Nat):qj:=⟨(Mh c).op,(Mh c).x,(Mh c).y,(Mh c).cond,n,false⟩
theorem G9{b:List ByteArray}{k:Nat}(h:iV b k):∃T:List qj,T.length=k/\∀(ws:List ByteArray) (f n:Nat) (q:List ByteArray) (s:PS),b.length<f->b.length<n->gW tR q=false->Rd ws s (b++q) ->
  ∃n' s',ji (kQ (cJ ws f) ws) ws n s=ji (kQ (cJ ws f) ws) ws n' s'/\n<=n'+b.length/\LQ ws s s' q (T.map (my s.nodes.length)):=by
 induction h using iV.ind with
 |nil =>
  refine⟨[],rfl,λws f n q s _ _ _ hr=>⟨n,s,rfl,by simp,hr,prefix_refl _,[],by simp,λ_ _=>trivial⟩⟩
 |@sim p r k hp hr ih =>
  obtain⟨T,hT,ih⟩:=ih;obtain⟨i,hi⟩:∃i,rsI p=some i:=by
   obtain⟨x,t,e⟩:=ww hp;have al3:Rd (p++[su]) ⟨0,false,[],[],[]⟩ (p++su::[]):=⟨rfl,rfl,zq5 _⟩;obtain⟨-,i,-,h1,-⟩:=XO hp al3;exact⟨i,h1⟩
  refine⟨i::T.map (my 1),by simp[hT],λws f n q s hf hn hq m7=>?_⟩;simp only[length_append,length_cons]at hf hn;cases n with
  |zero=>omega
  |succ n =>
   rw[show p++su::r++q=p++su::(r++q) by simp]at m7;obtain⟨nd,i',⟨l1,l2,l3,l4⟩,m0,hS⟩:=XO hp m7;rw[hi]at m0;injection m0 with m0;subst m0;have hB:LQ ws s (sW ws s) (r++q) [my s.nodes.length i]:=⟨l1,l2,[nd],l3,λvs hv=>⟨zq0 ⟨hS.up hv,l4⟩,trivial⟩⟩;obtain⟨n',s',h1,h2,h3⟩:=ih ws f n q (sW ws s) (by omega) (by omega) hq l1;have vF:=ab1 hp;have r9:=ab3 hp;have hx3:=ab2 hp;obtain⟨x,t,e⟩:=ww hp;have aay:Rd ws s (x::(t++su::(r++q))):=(by rw[e]at m7;exact m7);have ec:kQ (cJ ws f) ws s=sW ws s:=by
    unfold kQ;rw[cF qK aay,cF lj aay,show aW x mu=false from bB (vF x (by rw[e];simp)),show aW x bY=false from bB (r9 x (by rw[e];simp))];rfl
   refine⟨n',s',?_,by simp only[length_append,length_cons];omega,?_⟩
   .rw[zI aay (hx3 x (by rw[e];simp)),ec];exact h1
   .have:=hB.trans h3;rw[hB.len]at this;rw[map_cons,kw,Nat.add_comm 1];exact this
 |@whl d b r j k hd hb hr ihb ihr =>
  obtain⟨Tb,OA,ihb⟩:=ihb;obtain⟨Tr,WW,ihr⟩:=ihr;refine⟨VV d (j+2)::(Tb.map (my 1)++[gt 0])++Tr.map (my (j+2)),by simp[OA,WW];omega,λws f n q s hf hn hq m7=>?_⟩;simp only[length_append,length_cons]at hf hn;cases n with
  |zero=>omega
  |succ n =>
   cases f with
   |zero=>omega
   |succ f =>
    have e:(yg::ug::(d++sG::dR::(b++fE::r)))++q=yg::ug::(d++sG::dR::(b++fE::(r++q))):=(by simp);rw[e]at m7;have a1:=dY lj m7;obtain⟨t1,t2,nd,t3,t4,t5⟩:=Q0 hd a1.rd;rw[a1.nd]at t3 t4;have Is:b.length<ws.length+2:=by
     have h1:=congrArg List.length m7.2.1;simp only[length_drop,length_append,length_cons]at h1;omega
    have a2:=dY yR t1;obtain⟨n1,s1,h1,j7,b1,b2,N,b3,b5⟩:=ihb ws f (ws.length+2) (fE::(r++q)) (aG ws mw (gl ws (aG ws bY s))) (by omega) Is DB a2.rd;obtain⟨n2,rfl⟩:∃n2,n1=n2+1:=⟨n1-1,by omega⟩;rw[uU b1]at h1;have a3:=dY qL b1;have eA:ny (cJ ws (f+1)) ws s=aG ws kU s1:=by
     show aG ws kU (ji (kQ (cJ ws f) ws) ws (ws.length+2) (aG ws mw (gl ws (aG ws bY s))))=_;rw[h1]
    rw[<-eA]at a3;have gH:(aG ws mw (gl ws (aG ws bY s))).nodes.length=s.nodes.length+1:=(by rw[a2.nd,t3];simp);rw[gH]at b5;have TQ:N.length=j:=(by have:=(b5 _ (prefix_refl _)).len;rw[length_map,OA]at this;exact this);have eN:(ny (cJ ws (f+1)) ws s).nodes=s.nodes++nd::N:=(by rw[a3.nd,b3,a2.nd,t3];simp);have eV:(gl ws (aG ws bY s)).vars <+: (ny (cJ ws (f+1)) ws s).vars:=(a2.vs.trans b2).trans a3.vs;have eS:(xE (cJ ws (f+1)) ws s).nodes=s.nodes++{ nd with ot:=s.nodes.length+(j+2) }::(N++[{ iI with nx:=s.nodes.length }]):=by
     show dW s.nodes.length (ch iI (ny (cJ ws (f+1)) ws s)).nodes.length (gO (ny (cJ ws (f+1)) ws s).nodes.length s.nodes.length (ch iI (ny (cJ ws (f+1)) ws s)).nodes)=_;have e1:(ch iI (ny (cJ ws (f+1)) ws s)).nodes=(s.nodes++nd::N)++{ iI with nx:=(s.nodes++nd::N).length+1 }::[]:=by
      show(ny (cJ ws (f+1)) ws s).nodes++[_]=_;rw[eN]
     have e2:gO (s.nodes++nd::N).length s.nodes.length ((s.nodes++nd::N)++{ iI with nx:=(s.nodes++nd::N).length+1 }::[])=s.nodes++nd::(N++[{ iI with nx:=s.nodes.length }]):=by
      rw[ahb _ _ _ _ _ rfl];simp
     rw[e1,eN,e2,abq _ _ _ _ _ rfl];have e3:(s.nodes++nd::N++[({ iI with nx:=(s.nodes++nd::N).length+1 }:Nd)]).length=s.nodes.length+(j+2):=(by simp[TQ]);rw[e3]
    have hB:LQ ws s (xE (cJ ws (f+1)) ws s) (r++q) ((VV d (j+2)::(Tb.map (my 1)++[gt 0])).map (my s.nodes.length)):=by
     refine⟨a3.rd,(a1.vs.trans t2).trans eV,_,eS,λvs hv=>?_⟩;have KU:(ny (cJ ws (f+1)) ws s).vars <+: vs:=hv;refine⟨Q3 (t5.up (eV.trans KU)) t4 (by show _=j+2+s.nodes.length;omega),?_⟩;have h5:=b5 vs (a3.vs.trans KU);rw[map_append,kw];rw[Nat.add_comm s.nodes.length 1]at h5;refine D6.app (by rw[Nat.add_comm s.nodes.length 1];exact h5) ⟨zq1 (zq1 ⟨rfl,rfl,?_⟩),trivial⟩;show s.nodes.length=0+s.nodes.length;omega
    obtain⟨n',s',h3,h4,h6⟩:=ihr ws (f+1) n q (xE (cJ ws (f+1)) ws s) (by omega) (by omega) hq a3.rd;have ec:kQ (cJ ws (f+1)) ws s=xE (cJ ws (f+1)) ws s:=by
     unfold kQ;rw[cF qK m7,cF lj m7,show aW yg mu=false from ahw,show aW yg bY=true from aR _];rfl
    refine⟨n',s',?_,by simp only[length_append,length_cons];omega,?_⟩
    .rw[zI m7 ahu,ec];exact h3
    .have:=hB.trans h6;rw[hB.len]at this;rw[map_append,kw (j+2)];have e4:s.nodes.length+((VV d (j+2)::(Tb.map (my 1)++[gt 0])).map (my s.nodes.length)).length=j+2+s.nodes.length:=(by simp[OA];omega);rw[e4]at this;exact this
 |@ife d b r j k hd hb hr ihb ihr =>
  obtain⟨Tb,OA,ihb⟩:=ihb;obtain⟨Tr,WW,ihr⟩:=ihr;refine⟨VV d (j+1)::Tb.map (my 1)++Tr.map (my (j+1)),by simp[OA,WW];omega,λws f n q s hf hn hq m7=>?_⟩;simp only[length_append,length_cons]at hf hn;cases n with
  |zero=>omega
  |succ n =>
   cases f with
   |zero=>omega
   |succ f =>
    have e:(sT::ug::(d++sG::dR::(b++fE::r)))++q=sT::ug::(d++sG::dR::(b++fE::(r++q))):=(by simp);rw[e]at m7;have a1:=dY qK m7;obtain⟨t1,t2,nd,t3,t4,t5⟩:=Q0 hd a1.rd;rw[a1.nd]at t3 t4;have Is:b.length<ws.length+2:=by
     have h1:=congrArg List.length m7.2.1;simp only[length_drop,length_append,length_cons]at h1;omega
    have a2:=dY yR t1;obtain⟨n1,s1,h1,j7,b1,b2,N,b3,b5⟩:=ihb ws f (ws.length+2) (fE::(r++q)) (aG ws mw (gl ws (aG ws mu s))) (by omega) Is DB a2.rd;obtain⟨n2,rfl⟩:∃n2,n1=n2+1:=⟨n1-1,by omega⟩;rw[uU b1]at h1;have a3:=dY qL b1;have eA:cE (cJ ws (f+1)) ws s=aG ws kU s1:=by
     show aG ws kU (ji (kQ (cJ ws f) ws) ws (ws.length+2) (aG ws mw (gl ws (aG ws mu s))))=_;rw[h1]
    rw[<-eA]at a3;have gH:(aG ws mw (gl ws (aG ws mu s))).nodes.length=s.nodes.length+1:=(by rw[a2.nd,t3];simp);rw[gH]at b5;have TQ:N.length=j:=(by have:=(b5 _ (prefix_refl _)).len;rw[length_map,OA]at this;exact this);have eN:(cE (cJ ws (f+1)) ws s).nodes=s.nodes++nd::N:=(by rw[a3.nd,b3,a2.nd,t3];simp);have eV:(gl ws (aG ws mu s)).vars <+: (cE (cJ ws (f+1)) ws s).vars:=(a2.vs.trans b2).trans a3.vs;have mD:bR ws iK (cE (cJ ws (f+1)) ws s)=false:=by
     rw[dh qI a3.rd];exact YO hr hq
    have eB:pE (cJ ws (f+1)) ws s={ cE (cJ ws (f+1)) ws s with nodes:=dW s.nodes.length (cE (cJ ws (f+1)) ws s).nodes.length (cE (cJ ws (f+1)) ws s).nodes }:=by
     unfold pE;rw[if_neg (by simp[mD])]
    have eS:(pE (cJ ws (f+1)) ws s).nodes=s.nodes++{ nd with ot:=s.nodes.length+(j+1) }::N:=by
     rw[eB];show dW s.nodes.length (cE (cJ ws (f+1)) ws s).nodes.length (cE (cJ ws (f+1)) ws s).nodes=_;rw[eN,abq _ _ _ _ _ rfl];simp only[length_append,length_cons,TQ]
    have hRd:Rd ws (pE (cJ ws (f+1)) ws s) (r++q):=(by rw[eB];exact a3.rd);have hB:LQ ws s (pE (cJ ws (f+1)) ws s) (r++q) ((VV d (j+1)::Tb.map (my 1)).map (my s.nodes.length)):=by
     refine⟨hRd,by rw[eB];exact(a1.vs.trans t2).trans eV,_,eS,λvs hv=>?_⟩;have KU:(cE (cJ ws (f+1)) ws s).vars <+: vs:=(by rw[eB]at hv;exact hv);refine⟨Q3 (t5.up (eV.trans KU)) t4 (by show _=j+1+s.nodes.length;omega),?_⟩;have h5:=b5 vs (a3.vs.trans KU);show D6 vs (s.nodes.length+1) N ((Tb.map (my 1)).map (my s.nodes.length));rw[kw,Nat.add_comm 1];exact h5
    obtain⟨n',s',h3,h4,h6⟩:=ihr ws (f+1) n q (pE (cJ ws (f+1)) ws s) (by omega) (by omega) hq hRd;have ec:kQ (cJ ws (f+1)) ws s=pE (cJ ws (f+1)) ws s:=by
     unfold kQ;rw[cF qK m7,show aW sT mu=true from aR _];rfl
    refine⟨n',s',?_,by simp only[length_append,length_cons];omega,?_⟩
    .rw[zI m7 XB,ec];exact h3
    .have:=hB.trans h6;rw[hB.len]at this;rw[map_append,kw (j+1)];have e4:s.nodes.length+((VV d (j+1)::Tb.map (my 1)).map (my s.nodes.length)).length=j+1+s.nodes.length:=(by simp[OA];omega);rw[e4]at this;exact this
 |@ifl d b e r j i k hd hb he hr ihb ihe ihr =>
  obtain⟨Tb,OA,ihb⟩:=ihb;obtain⟨Te,hTe,ihe⟩:=ihe;obtain⟨Tr,WW,ihr⟩:=ihr;refine⟨VV d (j+2)::(Tb.map (my 1)++gt (j+2+i)::Te.map (my (j+2)))++Tr.map (my (j+2+i)),by simp[OA,hTe,WW];omega,λws f n q s hf hn hq m7=>?_⟩;simp only[length_append,length_cons]at hf hn;cases n with
  |zero=>omega
  |succ n =>
   cases f with
   |zero=>omega
   |succ f =>
    have e0:(sT::ug::(d++sG::dR::(b++fE::tR::dR::(e++fE::r))))++q=sT::ug::(d++sG::dR::(b++fE::tR::dR::(e++fE::(r++q)))):=(by simp);rw[e0]at m7;have a1:=dY qK m7;obtain⟨t1,t2,nd,t3,t4,t5⟩:=Q0 hd a1.rd;rw[a1.nd]at t3 t4;have Is:b.length<ws.length+2/\e.length<ws.length+2:=by
     have h1:=congrArg List.length m7.2.1;simp only[length_drop,length_append,length_cons]at h1;omega
    have a2:=dY yR t1;obtain⟨n1,s1,h1,j7,b1,b2,N,b3,b5⟩:=ihb ws f (ws.length+2) (fE::tR::dR::(e++fE::(r++q))) (aG ws mw (gl ws (aG ws mu s))) (by omega) Is.1 DB a2.rd;obtain⟨n2,rfl⟩:∃n2,n1=n2+1:=⟨n1-1,by omega⟩;rw[uU b1]at h1;have a3:=dY qL b1;have eA:cE (cJ ws (f+1)) ws s=aG ws kU s1:=by
     show aG ws kU (ji (kQ (cJ ws f) ws) ws (ws.length+2) (aG ws mw (gl ws (aG ws mu s))))=_;rw[h1]
    rw[<-eA]at a3;have gH:(aG ws mw (gl ws (aG ws mu s))).nodes.length=s.nodes.length+1:=(by rw[a2.nd,t3];simp);rw[gH]at b5;have TQ:N.length=j:=(by have:=(b5 _ (prefix_refl _)).len;rw[length_map,OA]at this;exact this);have eN:(cE (cJ ws (f+1)) ws s).nodes=s.nodes++nd::N:=(by rw[a3.nd,b3,a2.nd,t3];simp);have eV:(gl ws (aG ws mu s)).vars <+: (cE (cJ ws (f+1)) ws s).vars:=(a2.vs.trans b2).trans a3.vs;have eB:(lI s.nodes.length (cE (cJ ws (f+1)) ws s)).nodes=s.nodes++{ nd with ot:=s.nodes.length+(j+2) }::(N++[{ iI with nx:=s.nodes.length+(j+2) }]):=by
     show dW s.nodes.length (ch iI (cE (cJ ws (f+1)) ws s).adv).nodes.length (ch iI (cE (cJ ws (f+1)) ws s).adv).nodes=_;have e1:(ch iI (cE (cJ ws (f+1)) ws s).adv).nodes=s.nodes++nd::(N++[{ iI with nx:=(s.nodes++nd::N).length+1 }]):=by
      show(cE (cJ ws (f+1)) ws s).nodes++[{ iI with nx:=(cE (cJ ws (f+1)) ws s).nodes.length+1 }]=_;rw[eN];simp
     rw[e1,abq _ _ _ _ _ rfl];have e2:(s.nodes++nd::N).length+1=s.nodes.length+(j+2):=(by simp[TQ];omega);have e3:(s.nodes++nd::(N++[({ iI with nx:=s.nodes.length+(j+2) }:Nd)])).length=s.nodes.length+(j+2):=(by simp[TQ]);rw[e2,e3]
    have mD:bR ws iK (cE (cJ ws (f+1)) ws s)=true:=(dh qI a3.rd).trans (aR _);have hRb:Rd ws (lI s.nodes.length (cE (cJ ws (f+1)) ws s)) (dR::(e++fE::(r++q))):=cY a3.rd;have a4:=dY yR hRb;obtain⟨n3,s3,h5,sQ,d1,d2,N2,d3,d5⟩:=ihe ws f (ws.length+2) (fE::(r++q)) (aG ws mw (lI s.nodes.length (cE (cJ ws (f+1)) ws s))) (by omega) Is.2 DB a4.rd;obtain⟨n4,rfl⟩:∃n4,n3=n4+1:=⟨n3-1,by omega⟩;rw[uU d1]at h5;have a5:=dY qL d1;have eBl:cJ ws (f+1) (lI s.nodes.length (cE (cJ ws (f+1)) ws s))=aG ws kU s3:=by
     show aG ws kU (ji (kQ (cJ ws f) ws) ws (ws.length+2) (aG ws mw (lI s.nodes.length (cE (cJ ws (f+1)) ws s))))=_;rw[h5]
    rw[<-eBl]at a5;have ZR:(aG ws mw (lI s.nodes.length (cE (cJ ws (f+1)) ws s))).nodes.length=s.nodes.length+(j+2):=(by rw[a4.nd,eB];simp[TQ]);rw[ZR]at d5;have akA:N2.length=i:=(by have:=(d5 _ (prefix_refl _)).len;rw[length_map,hTe]at this;exact this);have eS0:pE (cJ ws (f+1)) ws s=M6 (cE (cJ ws (f+1)) ws s).nodes.length (cJ ws (f+1) (lI s.nodes.length (cE (cJ ws (f+1)) ws s))):=(by unfold pE;rw[if_pos mD]);have eN5:(cJ ws (f+1) (lI s.nodes.length (cE (cJ ws (f+1)) ws s))).nodes=(s.nodes++{ nd with ot:=s.nodes.length+(j+2) }::N)++{ iI with nx:=s.nodes.length+(j+2) }::N2:=by
     rw[a5.nd,d3,a4.nd,eB];simp
    have eS:(pE (cJ ws (f+1)) ws s).nodes=s.nodes++{ nd with ot:=s.nodes.length+(j+2) }::(N++{ iI with nx:=s.nodes.length+(j+2+i) }::N2):=by
     rw[eS0];show gO (cE (cJ ws (f+1)) ws s).nodes.length (cJ ws (f+1) (lI s.nodes.length (cE (cJ ws (f+1)) ws s))).nodes.length (cJ ws (f+1) (lI s.nodes.length (cE (cJ ws (f+1)) ws s))).nodes=_;rw[eN5,ahb _ _ _ _ _ (by rw[eN];simp)];have e3:(s.nodes++({ nd with ot:=s.nodes.length+(j+2) }:Nd)::N++({ iI with nx:=s.nodes.length+(j+2) }:Nd)::N2).length=s.nodes.length+(j+2+i):=(by simp[TQ,akA];omega);rw[e3];simp
    have hRd:Rd ws (pE (cJ ws (f+1)) ws s) (r++q):=(by rw[eS0];exact a5.rd);have eV5:(cE (cJ ws (f+1)) ws s).vars <+: (cJ ws (f+1) (lI s.nodes.length (cE (cJ ws (f+1)) ws s))).vars:=(a4.vs.trans d2).trans a5.vs;have hB:LQ ws s (pE (cJ ws (f+1)) ws s) (r++q) ((VV d (j+2)::(Tb.map (my 1)++gt (j+2+i)::Te.map (my (j+2)))).map (my s.nodes.length)):=by
     refine⟨hRd,by rw[eS0];exact((a1.vs.trans t2).trans eV).trans eV5,_,eS,λvs hv=>?_⟩;have hv5:(cJ ws (f+1) (lI s.nodes.length (cE (cJ ws (f+1)) ws s))).vars <+: vs:=(by rw[eS0]at hv;exact hv);have KU:=eV5.trans hv5;refine⟨Q3 (t5.up (eV.trans KU)) t4 (by show _=j+2+s.nodes.length;omega),?_⟩;have g5:=b5 vs (a3.vs.trans KU);have g6:=d5 vs (a5.vs.trans hv5);show D6 vs (s.nodes.length+1) _ ((Tb.map (my 1)++gt (j+2+i)::Te.map (my (j+2))).map (my s.nodes.length));rw[map_append,map_cons,kw,kw,Nat.add_comm 1];refine g5.app ⟨zq1 (zq1 ⟨rfl,rfl,by show s.nodes.length+(j+2+i)=j+2+i+s.nodes.length;omega⟩),?_⟩;rw[TQ,show s.nodes.length+1+j+1=s.nodes.length+(j+2) by omega,Nat.add_comm (j+2)];exact g6
    obtain⟨n',s',h7,h8,h9⟩:=ihr ws (f+1) n q (pE (cJ ws (f+1)) ws s) (by omega) (by omega) hq hRd;have ec:kQ (cJ ws (f+1)) ws s=pE (cJ ws (f+1)) ws s:=by
     unfold kQ;rw[cF qK m7,show aW sT mu=true from aR _];rfl
    refine⟨n',s',?_,by simp only[length_append,length_cons];omega,?_⟩
    .rw[zI m7 XB,ec];exact h7
    .have:=hB.trans h9;rw[hB.len]at this;rw[map_append,kw (j+2+i)];have e4:s.nodes.length+((VV d (j+2)::(Tb.map (my 1)++gt (j+2+i)::Te.map (my (j+2)))).map (my s.nodes.length)).length=j+2+i+s.nodes.length:=(by simp[OA,hTe];omega);rw[e4]at this;exact this
def plB(a:xL):Bool:=aW a.k B4||aW a.k Eq
def tA(ad nx:List Int)(ns:List ByteArray)(vs:List Int)(f:List xL):Bool:=YR ad nx (f.filter (λa=>!plB a)) (f.filter plB).length (f.filter plB) ns vs (replicate ad.length true)
def Ly(vars hid:List UInt8)(k i:Nat):ByteArray:=if k=1 then bh (vars.getD i 0) else if k=2 then bh (hid.getD i 0) else bZ
def RV(k:Nat):ByteArray:=if k=1 then bW else if k=2 then kJ else if k=3 then B4 else Eq
def nmA(vars hid:List UInt8)(a:cn):xL:=⟨RV a.k,Ly vars hid a.lk a.li,Ly vars hid a.rk a.ri⟩
def Ru(vars hid:List UInt8)(k i:Nat):Prop:=k<=2/\(k=1->i<vars.length)/\(k=2->i<hid.length)
def oH(s s':PS):Prop:=s.vars <+: s'.vars/\s.hid <+: s'.hid
theorem oH.refl(s:PS):oH s s:=⟨prefix_refl _,prefix_refl _⟩
theorem oH.trans{a b c:PS}(h:oH a b)(h2:oH b c):oH a c:=⟨h.1.trans h2.1,h.2.trans h2.2⟩
theorem Ja{l l':List UInt8}(h:l <+: l'){i:Nat}(hi:i<l.length):l'.getD i 0=l.getD i 0:=by
 obtain⟨t,rfl⟩:=h;simp only[getD_eq_getElem?_getD];rw[getElem?_append_left hi]
theorem rj{s s':PS}(h:oH s s'){k i:Nat}(hb:Ru s.vars s.hid k i):Ly s'.vars s'.hid k i=Ly s.vars s.hid k i:=by
 unfold Ly;by_cases h1:k=1
 .rw[if_pos h1,if_pos h1,Ja h.1 (hb.2.1 h1)]
 .rw[if_neg h1,if_neg h1];by_cases h2:k=2
  .rw[if_pos h2,if_pos h2,Ja h.2 (hb.2.2 h2)]
  .rw[if_neg h2,if_neg h2]
theorem Ru.gro{s s':PS}(h:oH s s'){k i:Nat}(hb:Ru s.vars s.hid k i):Ru s'.vars s'.hid k i :=
 ⟨hb.1,λh1=>zq6 (hb.2.1 h1) h.1.length_le,λh1=>zq6 (hb.2.2 h1) h.2.length_le⟩
theorem Je(l:List UInt8)(c:UInt8):l <+: put l c:=by
 unfold put;split
 .exact prefix_append _ _
 .exact prefix_refl _
theorem Vk{l:List UInt8}{c:UInt8}(h:plc l c<l.length):l.getD (plc l c) 0=c:=by
 induction l with
 |nil=>simp at h
 |cons a l ih =>
  have e:plc (a::l) c=if a=c then 0 else plc l c+1:=rfl
  rw[e]at h ⊢;by_cases hc:a=c
  .rw[if_pos hc];simpa using hc
  .rw[if_neg hc]at h ⊢;simpa using ih (by simpa using h)
theorem Jc(l:List UInt8)(c:UInt8):plc l c<(put l c).length/\(put l c).getD (plc l c) 0=c:=by
 have h1:=wg l c;unfold put;by_cases h:plc l c=l.length
 .rw[if_pos h,h];simp
 .rw[if_neg h];exact⟨by omega,Vk (by omega)⟩
theorem pH(ws:List ByteArray)(k:ByteArray)(s:PS):oH s (aG ws k s):=by unfold aG;split <;> exact oH.refl s
theorem N9(ws:List ByteArray)(s:PS):oH s (bK ws s):=by
 unfold bK;split
 .exact⟨Je _ _,prefix_refl _⟩
 .exact oH.refl s
theorem Ib(ws:List ByteArray)(s:PS):oH s (ce ws s):=by
 unfold ce;split
 .exact oH.refl s
 .exact N9 ws s
theorem rT(ws:List ByteArray)(s:PS):oH s (fA ws s):=by
 unfold fA;split
 .exact⟨prefix_refl _,Je _ _⟩
 .exact Ib ws s
theorem Ia(ws:List ByteArray)(s:PS):oH s (eY ws s):=by
 unfold eY;split
 .exact oH.refl s
 .split
  .exact oH.refl s
  .exact pH ws _ s
theorem Zo(ws:List ByteArray)(s:PS):oH s (AA ws s) :=
 (pH ws _ s).trans ((rT ws _).trans ((pH ws _ _).trans ((rT ws _).trans (pH ws _ _))))
theorem N8(ws:List ByteArray)(s:PS):oH s (ep ws s):=by
 unfold ep;split
 .exact oH.refl s
 .split
  .exact Zo ws s.adv
  .exact(rT ws s).trans ((Ia ws _).trans (rT ws _))
theorem TF(ws:List ByteArray)(n:Nat):∀s,oH s (jm ws n s).2:=by
 induction n with
 |zero=>intro s;exact oH.refl s
 |succ n ih =>
  intro s;simp only[jm];split
  .exact(N8 ws s.adv).trans (ih _)
  .exact oH.refl s
theorem Jv{ws:List ByteArray}{s:PS}{x:ByteArray}{r:List ByteArray}(h:Rd ws s (x::r))(hx:gf x=true):
  Ly (fA ws s).vars (fA ws s).hid (tK ws s) (tJ ws s)=x/\Ru (fA ws s).vars (fA ws s).hid (tK ws s) (tJ ws s)/\Rd ws (fA ws s) r:=by
 have m7:Rd ws (fA ws s) r:=by
  have:=sn.ok s _ h;rw[jP.2 ⟨x,hx,rfl⟩]at this;exact this
 have RS:=y7 h;have L5:bR ws j8 s=aW x j8:=dh vI h;by_cases hu:kW x=true
 .have hK:tK ws s=2:=by unfold tK;rw[RS,if_pos hu]
  have hI:tJ ws s=plc s.hid (BN x):=by unfold tJ;rw[RS,if_pos hu]
  have hS:(fA ws s).hid=put s.hid (BN x):=by unfold fA;rw[RS,if_pos hu]
  have hp:=Jc s.hid (BN x);refine⟨?_,?_,m7⟩
  .rw[hK,hI,hS];unfold Ly;rw[if_neg (by decide),if_pos rfl,hp.2];exact(GB hu).symm
  .rw[hK,hI,hS];exact⟨by omega,λh=>by omega,λ_=>hp.1⟩
 .have hK:tK ws s=dI ws s:=by unfold tK;rw[RS,if_neg hu]
  have hI:tJ ws s=eM ws s:=by unfold tJ;rw[RS,if_neg hu]
  have hS:fA ws s=ce ws s:=by unfold fA;rw[RS,if_neg hu]
  by_cases hn:aW x j8=true
  .have hK2:dI ws s=0:=(by unfold dI;rw[L5,if_pos hn]);have cg:eM ws s=0:=(by unfold eM;rw[L5,if_pos hn]);refine⟨?_,?_,m7⟩
   .rw[hK,hI,hK2,cg];unfold Ly;rw[if_neg (by decide),if_neg (by decide)];exact(a6.1 hn).symm
   .rw[hK,hI,hK2,cg];exact⟨by omega,λh=>by omega,λh=>by omega⟩
  .have hl:aF x=true:=by
    simp only[gf,Bool.or_eq_true]at hx;rcases hx with(hx|hx)|hx
    .exact absurd hx hn
    .exact hx
    .exact absurd hx hu
   have hK2:dI ws s=1:=(by unfold dI;rw[L5,if_neg hn]);have cg:eM ws s=plc s.vars (BN x):=(by unfold eM;rw[L5,if_neg hn];unfold mI;rw[RS,if_pos hl]);have bS:(fA ws s).vars=put s.vars (BN x):=(by rw[hS];unfold ce;rw[L5,if_neg hn];unfold bK;rw[RS,if_pos hl]);have hp:=Jc s.vars (BN x);refine⟨?_,?_,m7⟩
   .rw[hK,hI,hK2,cg,bS];unfold Ly;rw[if_pos rfl,hp.2];exact(AB hl).symm
   .rw[hK,hI,hK2,cg,bS];exact⟨by omega,λ_=>hp.1,λh=>by omega⟩
theorem abN{ws:List ByteArray}{s:PS}{x:ByteArray}{r:List ByteArray}(h:Rd ws s (x::r))(hx:(aW x bW||aW x kJ||aW x B4)=true):
  RV (jS ws s)=x/\(1<=jS ws s/\jS ws s<=3)/\Rd ws (eY ws s) r:=by
 have m7:Rd ws (eY ws s) r:=by
  have:=AS.ok s _ h;rw[sm.2 ⟨x,hx,rfl⟩]at this;exact this
 have h1:bR ws gR s=aW x gR:=dh pm h;have h2:bR ws sU s=aW x sU:=dh C8 h;by_cases e1:aW x gR=true
 .have:jS ws s=1:=by unfold jS;rw[h1,if_pos e1]
  rw[this];exact⟨(a6.1 e1).symm,by omega,m7⟩
 .by_cases e2:aW x sU=true
  .have:jS ws s=2:=(by unfold jS;rw[h1,if_neg e1,h2,if_pos e2]);rw[this];exact⟨(a6.1 e2).symm,by omega,m7⟩
  .have:jS ws s=3:=(by unfold jS;rw[h1,if_neg e1,h2,if_neg e2]);rw[this];simp only[Bool.or_eq_true]at hx;rcases hx with(hx|hx)|hx
   .exact absurd hx e1
   .exact absurd hx e2
   .exact⟨(a6.1 hx).symm,by omega,m7⟩
theorem WI{ws:List ByteArray}{s:PS}{k:ByteArray}{r:List ByteArray}(hk:k.toList≠[])(h:Rd ws s (k::r)):Rd ws (aG ws k s) r:=by
 have:=(cZ (ws:=ws) hk).ok s _ h;rw[qW]at this;exact this
def uw(vars hid:List UInt8)(a:cn):Prop:=a.k<=4/\Ru vars hid a.lk a.li/\Ru vars hid a.rk a.ri
def Lb(vars hid:List UInt8)(l:List cn):List xL:=(l.filter (λa=>a.k != 0)).map (nmA vars hid)
theorem WC{ws:List ByteArray}{s:PS}{p q:List ByteArray}(h:Rd ws s (p++q))(hp:ss p=true):
  XL p=Lb (ep ws s).vars (ep ws s).hid [qm ws s]/\uw (ep ws s).vars (ep ws s).hid (qm ws s)/\Rd ws (ep ws s) q:=by
 have m7:Rd ws (ep ws s) q:=by
  have:=nC.ok s _ h;rw[jN.2 ⟨p,hp,rfl⟩]at this;exact this
 match p,hp with
 |[a],hp =>
  have ea:a=qq:=a6.1 (show aW a qq=true from hp);subst ea;have L5:bR ws pN s=true:=by
   rw[dh Au h];exact aR _
  have hA:qm ws s=⟨0,0,0,0,0⟩:=by unfold qm;rw[if_pos L5]
  rw[hA];exact⟨rfl,⟨by show 0<=4;omega,⟨by show 0<=2;omega,λh=>(by cases h),λh=>(by cases h)⟩,⟨by show 0<=2;omega,λh=>(by cases h),λh=>(by cases h)⟩⟩,m7⟩
 |[a,b,c],hp =>
  simp only[ss,Bool.and_eq_true]at hp;obtain⟨⟨ha,hc⟩,hb⟩:=hp;have h':Rd ws s (a::b::c::q):=h;have aL:bR ws pN s=false:=by
   rw[dh Au h'];exact bB (lw ha (am (by simp[pN,bZ])) rfl rfl)
  have jX:bR ws Ix s=false:=by
   rw[dh PA h'];exact bB (lw ha (am (by simp[Ix,bZ])) rfl rfl)
  obtain⟨t1,t2,t3⟩:=Jv h' ha;obtain⟨r1,r2,r3⟩:=abN t3 hb;obtain⟨u1,u2,u3⟩:=Jv r3 hc;have hA:qm ws s=⟨jS ws (fA ws s),tK ws s,tJ ws s,tK ws (eY ws (fA ws s)),tJ ws (eY ws (fA ws s))⟩:=by
   unfold qm;rw[if_neg (by rw[aL];simp),if_neg (by rw[jX];simp)]
  have hS:ep ws s=fA ws (eY ws (fA ws s)):=by
   unfold ep;rw[if_neg (by rw[aL];simp),if_neg (by rw[jX];simp)]
  have hg:oH (fA ws s) (fA ws (eY ws (fA ws s))):=(Ia ws _).trans (rT ws _);refine⟨?_,?_,m7⟩
  .rw[hA,hS];have hk:((jS ws (fA ws s)) != 0)=true:=(by rw[bne_iff_ne];omega);simp only[Lb,filter_cons,hk,if_true,filter_nil,map_cons,map_nil];show [(⟨b,a,c⟩:xL)]=[⟨_,_,_⟩];rw[r1,rj hg t2,t1,u1]
  .rw[hA,hS];exact⟨by show jS ws (fA ws s)<=4;omega,t2.gro hg,u2⟩
 |[a,b,c,d,e,f],hp =>
  simp only[ss,Bool.and_eq_true,a6]at hp;obtain⟨⟨⟨⟨rfl,rfl⟩,rfl⟩,rfl⟩,hc,he⟩:=hp;have h':Rd ws s (Eq::ug::c::WF::e::sG::q):=h;have aL:bR ws pN s=false:=by
   rw[dh Au h'];exact bB (am (by simp[pN,Eq]))
  have jX:bR ws Ix s=true:=by
   rw[dh PA h'];exact aR _
  have h1:=cY h';have h2:Rd ws (qP ws s.adv) (c::WF::e::sG::q):=WI t0 h1;obtain⟨t1,t2,t3⟩:=Jv h2 hc;have h3:Rd ws (pO ws s.adv) (e::sG::q):=WI vH t3;obtain⟨u1,u2,u3⟩:=Jv h3 he;have hA:qm ws s=XE ws s.adv:=by unfold qm;rw[if_neg (by rw[aL];simp),if_pos jX]
  have hS:ep ws s=AA ws s.adv:=by unfold ep;rw[if_neg (by rw[aL];simp),if_pos jX]
  have OQ:oH (fA ws (pO ws s.adv)) (AA ws s.adv):=pH ws _ _;have hg:oH (fA ws (qP ws s.adv)) (AA ws s.adv):=(pH ws ni _).trans ((rT ws _).trans OQ);refine⟨?_,?_,m7⟩
  .rw[hA,hS];show [(⟨Eq,c,e⟩:xL)]=[⟨RV 4,Ly _ _ (tK ws (qP ws s.adv)) (tJ ws (qP ws s.adv)),Ly _ _ (tK ws (pO ws s.adv)) (tJ ws (pO ws s.adv))⟩];rw[rj hg t2,t1,rj OQ u2,u1];rfl
  .rw[hA,hS];exact⟨zq4 4,t2.gro hg,u2.gro OQ⟩
theorem IY(vars hid:List UInt8)(a b:List cn):Lb vars hid (a++b)=Lb vars hid a++Lb vars hid b:=by simp[Lb]
theorem IZ{s s':PS}(h:oH s s'){l:List cn}(hl:∀a∈l,uw s.vars s.hid a):Lb s'.vars s'.hid l=Lb s.vars s.hid l:=by
 unfold Lb;apply map_congr_left;intro a ha;have:=hl a (mem_filter.1 ha).1;unfold nmA;rw[rj h this.2.1,rj h this.2.2]
theorem uw.gro{s s':PS}(h:oH s s'){a:cn}(ha:uw s.vars s.hid a):uw s'.vars s'.hid a:=⟨ha.1,ha.2.1.gro h,ha.2.2.gro h⟩
theorem aeI{ws:List ByteArray}{f:List ByteArray}(hf:lG f):∀{n:Nat} {s:PS} {q:List ByteArray},Rd ws s (f++q)->f.length<=n->gW aQ q=false ->
  ∃al,DD [] f=some al/\al=Lb (jm ws n (ep ws s)).2.vars (jm ws n (ep ws s)).2.hid (qm ws s::(jm ws n (ep ws s)).1)/\∀a∈qm ws s::(jm ws n (ep ws s)).1,uw (jm ws n (ep ws s)).2.vars (jm ws n (ep ws s)).2.hid a:=by
 induction hf using lG.ind with
 |@one p hp =>
  intro n s q h hn hq;obtain⟨h1,h2,h3⟩:=WC h hp;have e:jm ws n (ep ws s)=([],ep ws s):=by
   cases n with
   |zero=>rfl
   |succ n=>simp only[jm];rw[dh nY h3,show gW dq q=false from hq,if_neg (by simp)]
  rw[e];refine⟨XL p,?_,h1,λa ha=>?_⟩
  .have:=uk (nP hp) [] [];rw[append_nil]at this;rw[this];simp only[DD,nil_append,if_pos hp]
  .simp only[mem_singleton]at ha;subst ha;exact h2
 |@more p r hp _ ih =>
  intro n s q h hn hq;rw[append_assoc]at h;obtain⟨h1,h2,h3⟩:=WC h hp;have h3':Rd ws (ep ws s) (aQ::(r++q)):=h3;simp only[length_append,length_cons]at hn;cases n with
  |zero=>omega
  |succ n =>
   have e:jm ws (n+1) (ep ws s)=(qm ws (ep ws s).adv::(jm ws n (ep ws (ep ws s).adv)).1,(jm ws n (ep ws (ep ws s).adv)).2):=by
    simp only[jm];rw[dh nY h3',show gW dq (aQ::(r++q))=true from aR _,if_pos rfl]
   obtain⟨al,g1,g2,g3⟩:=ih (n:=n) (cY h3') (by omega) hq;rw[e];have hg:oH (ep ws s) (jm ws n (ep ws (ep ws s).adv)).2:=(N8 ws (ep ws s).adv).trans (TF ws n _);refine⟨XL p++al,?_,?_,λa ha=>?_⟩
   .rw[uk (nP hp)];simp only[DD,nil_append,aR,if_true,if_pos hp,g1];rfl
   .rw[show qm ws s::(qm ws (ep ws s).adv::(jm ws n (ep ws (ep ws s).adv)).1)=[qm ws s]++(qm ws (ep ws s).adv::(jm ws n (ep ws (ep ws s).adv)).1) from rfl,IY,<-g2,h1];rw[IZ hg (λa ha=>by simp only[mem_singleton]at ha;subst ha;exact h2)]
   .rcases mem_cons.1 ha with rfl|ha
    .exact h2.gro hg
    .exact g3 a ha
structure tf(s:PS):Prop where
 nv:s.vars.Nodup
 nh:s.hid.Nodup
 lv:∀c∈s.vars,aF (bh c)=true
 lh:∀c∈s.hid,kW (bh c)=true
theorem Vm{l:List UInt8}{c:UInt8}(h:c∈l):plc l c<l.length:=by
 induction l with
 |nil=>cases h
 |cons a l ih =>
  show(if a=c then 0 else plc l c+1)<_;by_cases e:a=c
  .rw[if_pos e];simp
  .rw[if_neg e];rcases mem_cons.1 h with h|h
   .exact absurd h.symm e
   .have:=ih h;simp;omega
theorem Jd{l:List UInt8}{c x:UInt8}(h:x∈put l c):x∈l\/x=c:=by
 unfold put at h;split at h
 .rcases mem_append.1 h with h|h
  .exact zq0 h
  .exact zq1 (by simpa using h)
 .exact zq0 h
theorem za{l:List UInt8}{c:UInt8}(h:l.Nodup):(put l c).Nodup:=by
 unfold put;split
 .rename_i he;rw[nodup_append];refine⟨h,by simp,λa ha b hb=>?_⟩;simp only[mem_singleton]at hb;subst hb;rintro rfl;have:=Vm ha;omega
 .exact h
theorem I8{l:List UInt8}(h:l.Nodup){i:Nat}(hi:i<l.length):plc l (l.getD i 0)=i:=by
 induction l generalizing i with
 |nil=>simp at hi
 |cons a l ih =>
  have hn:=nodup_cons.1 h;cases i with
  |zero=>show(if a=a then 0 else _)=0;rw[if_pos rfl]
  |succ i =>
   have m0:i<l.length:=(by simpa using hi);show(if a=l.getD i 0 then 0 else plc l (l.getD i 0)+1)=i+1;rw[if_neg,ih hn.2 m0];rintro rfl;apply hn.1;have:l.getD i 0=l[i]:=(by simp[m0]);rw[this];exact getElem_mem m0
theorem pP{ws:List ByteArray}{k:ByteArray}{s:PS}(h:tf s):tf (aG ws k s):=by unfold aG;split <;> exact⟨h.nv,h.nh,h.lv,h.lh⟩
theorem PV{ws:List ByteArray}{s:PS}(h:tf s):tf (bK ws s):=by
 unfold bK;split
 .rename_i hl;refine⟨za h.nv,h.nh,λc hc=>?_,h.lh⟩;rcases Jd hc with hc|rfl
  .exact h.lv c hc
  .rw[<-AB hl];exact hl
 .exact⟨h.nv,h.nh,h.lv,h.lh⟩
theorem IP{ws:List ByteArray}{s:PS}(h:tf s):tf (ce ws s):=by
 unfold ce;split
 .exact⟨h.nv,h.nh,h.lv,h.lh⟩
 .exact PV h
theorem AC{ws:List ByteArray}{s:PS}(h:tf s):tf (fA ws s):=by
 unfold fA;split
 .rename_i hl;refine⟨h.nv,za h.nh,h.lv,λc hc=>?_⟩;rcases Jd hc with hc|rfl
  .exact h.lh c hc
  .rw[<-GB hl];exact hl
 .exact IP h
theorem UX{ws:List ByteArray}{s:PS}(h:tf s):tf (eY ws s):=by
 unfold eY;split
 .exact⟨h.nv,h.nh,h.lv,h.lh⟩
 .split
  .exact⟨h.nv,h.nh,h.lv,h.lh⟩
  .exact pP h
theorem PT{ws:List ByteArray}{s:PS}(h:tf s):tf (ep ws s):=by
 unfold ep;split
 .exact⟨h.nv,h.nh,h.lv,h.lh⟩
 .split
  .have h1:tf s.adv:=⟨h.nv,h.nh,h.lv,h.lh⟩;exact pP (AC (pP (AC (pP h1))))
  .exact AC (UX (AC h))
theorem UW{ws:List ByteArray}(n:Nat):∀{s:PS},tf s->tf (jm ws n s).2:=by
 induction n with
 |zero=>intro s h;exact h
 |succ n ih =>
  intro s h;simp only[jm];split
  .exact ih (PT ⟨h.nv,h.nh,h.lv,h.lh⟩)
  .exact h
theorem PU{ws:List ByteArray}{s:PS}(h:tf s):tf (pF ws s):=UW _ (PT h)
def Wv(r:List UInt8):Prop:=∀c t,r=c::t->dS c=false
def Sgw(x:List UInt8)(W:List (List UInt8)):Prop:=∀r,Wv r->gp (x++r)=(gp r).map (W++·)
def JP(x:List UInt8)(W:List (List UInt8)):Prop:=∀r,gp (x++r)=(gp r).map (W++·)
section
variable {x x':List UInt8} {W W':List (List UInt8)}
theorem vY{c:UInt8}(h:dS c=false)(r:List UInt8):Wv (c::r):=λd t e=>by injection e with e1 _;rw[<-e1];exact h
theorem IS(o:Option (List (List UInt8))):(o.map (W'++·)).map (W++·)=o.map ((W++W')++·):=by cases o <;> simp
theorem Sgw.app(h:Sgw x W)(h':JP x' W')(hb:∀r,Wv (x'++r)):JP (x++x') (W++W'):=λr=>by rw[append_assoc,h _ (hb r),h' r,IS]
theorem JP.appN(h:JP x W)(h':JP x' W'):JP (x++x') (W++W'):=λr=>by rw[append_assoc,h,h',IS]
theorem zi:JP [32] []:=λr=>by
 rw[show([32]:List UInt8)++r=32::r from rfl,eZ 32 r (zq0 rfl)];cases gp r <;> simp
theorem aaW{c:UInt8}(h:dS c=true):¬ (c=32\/c=10):=by
 rintro(rfl|rfl) <;> revert h <;> decide
theorem Jo(h0:x≠[])(h:∀c∈x,dS c=true):Sgw x [x]:=λr hr=>by
 have ht:(x++r).takeWhile dS=x:=by
  rw[takeWhile_append_of_pos h];cases r with
  |nil=>simp
  |cons c t=>rw[takeWhile_cons,hr c t rfl];simp
 cases x with
 |nil=>exact absurd rfl h0
 |cons c t =>
  have hl:aK (c::t++r)=(c::t).length:=by unfold aK;rw[ht]
  have hw:az (c::t++r)=(c::t).length:=by unfold az;rw[hl,if_pos (by simp)]
  rw[cons_append]at hw ⊢;rw[fF c (t++r) (aaW (h c (by simp))) (by rw[hw];simp),hw];rw[show(c::(t++r)).drop (c::t).length=r by rw[<-cons_append,drop_left],show(c::(t++r)).take (c::t).length=c::t by rw[<-cons_append,take_left]];rfl
theorem wu{c:UInt8}(h1:dS c=false)(h2:c≠45)(h3:c≠33)(h4:sX c.toNat=true)(h5:¬ (c=32\/c=10)):JP [c] [[c]]:=λr=>by
 have hl:¬ 0<aK (c::r):=by unfold aK;rw[takeWhile_cons,h1];simp
 have h6:¬ ((c::r).take 2=[45,62]\/(c::r).take 2=[33,61]):=by
  rw[take_succ_cons];rintro(e|e) <;> injection e with e _
  .exact h2 e
  .exact h3 e
 have hw:az (c::r)=1:=by
  unfold az;rw[if_neg hl,if_neg h6];show(if sX c.toNat=true then 1 else 0)=1;rw[h4];rfl
 rw[show [c]++r=c::r from rfl,fF c r h5 (by rw[hw];simp),hw];rfl
theorem VA{c d:UInt8}(h1:dS c=false)(h2:[c,d]=[45,62]\/[c,d]=[33,61])(h5:¬ (c=32\/c=10)):JP [c,d] [[c,d]]:=λr=>by
 have hl:¬ 0<aK (c::d::r):=by unfold aK;rw[takeWhile_cons,h1];simp
 have hw:az (c::d::r)=2:=by
  unfold az;rw[if_neg hl,if_pos (by simpa using h2)]
 rw[show [c,d]++r=c::d::r from rfl,fF c (d::r) h5 (by rw[hw];simp),hw];rfl
def bA(x:List UInt8):ByteArray:=⟨x.toArray⟩
def w3(x k y:List UInt8):List (List UInt8):=[x,k,y]
def w6(x y:List UInt8):List (List UInt8):=[[108,115],[40],x,[44],y,[41]]
end
