import Derived.Test.YtciihepbeacppaaGreatEF
import Derived.Test.YtciihepbeacppaaGreatM28
namespace Go.Proofs.YtciihepbeacppaaGreat
open Go.RowKit List
set_option linter.unusedVariables false
def zS(vs:List UInt8)(x:ByteArray)(i:Nat):Prop:=aK x=true/\vs[i]?=some (Cq x)
def SV(vs:List UInt8)(y:ByteArray)(k i:Nat):Prop:=(y=cD/\k=0)\/(k=1/\zS vs y i)
theorem zS.up{vs vs':List UInt8}{x:ByteArray}{i:Nat}(h:zS vs x i)(hp:vs <+: vs'):zS vs' x i:=by
 obtain⟨r,rfl⟩:=hp;refine⟨h.1,?_⟩;rw[getElem?_append_left (List.getElem?_eq_some_iff.1 h.2).1];exact h.2
theorem SV.up{vs vs':List UInt8}{x:ByteArray}{k i:Nat}(h:SV vs x k i)(hp:vs <+: vs'):SV vs' x k i:=by
 rcases h with h|h
 .exact zq0 h
 .exact zq1 ⟨h.1,h.2.up hp⟩
def TI(vs:List UInt8)(nd:Nd)(i:pF):Prop :=
 i.op=ry/\((i.cond=bK/\nd.op=7)\/(i.cond=bT/\nd.op=8/\zS vs i.x nd.v/\SV vs i.y nd.ak nd.ai)\/(i.cond=kX/\nd.op=9/\zS vs i.x nd.v/\SV vs i.y nd.ak nd.ai))
def SI(vs:List UInt8)(nd:Nd)(i:pF):Prop :=
 (i.op=cD/\nd.op=1/\zS vs i.x nd.v/\nd.ak=0) \/
 (i.op=yX/\nd.op=1/\zS vs i.x nd.v/\nd.ak=1/\zS vs i.y nd.ai) \/
 (i.op=lD/\nd.op=4/\zS vs i.x nd.v) \/
 (i.op=zx/\nd.op=2/\zS vs i.x nd.v/\nd.ak=1/\zS vs i.y nd.ai) \/
 (i.op=sM/\nd.op=3/\zS vs i.x nd.v/\SV vs i.y nd.ak nd.ai) \/
 (i.op=fM/\nd.op=5/\zS vs i.x nd.v) \/
 (i.op=aD/\nd.op=6)
def NI(vs:List UInt8)(j:Nat)(nd:Nd)(i:pF):Prop :=
 (SI vs nd i/\nd.nx=j+1)\/(TI vs nd i/\nd.nx=j+1/\nd.ot=i.to)\/(i.op=ZA/\nd.op=10/\nd.nx=i.to)
def Et(vs:List UInt8):Nat->List Nd->List pF->Prop
 |_,[],[]=>True
 |n,a::N,b::C=>NI vs n a b/\Et vs (n+1) N C
 |_,_,_=>False
theorem Et.len{vs:List UInt8}:∀{n:Nat} {N:List Nd} {C:List pF},Et vs n N C->N.length=C.length
 |_,[],[],_=>rfl
 |_,_::_,_::_,h=>by simp[h.2.len]
 |_,[],_::_,h=>by cases h
 |_,_::_,[],h=>by cases h
theorem Et.app{vs:List UInt8}{N':List Nd}{C':List pF}:∀{n:Nat} {N:List Nd} {C:List pF},Et vs n N C->Et vs (n+N.length) N' C'->Et vs n (N++N') (C++C')
 |_,[],[],_,h=>h
 |n,_::N,_::_,h,h'=>⟨h.1,h.2.app (by rw[length_cons,show n+(N.length+1)=n+1+N.length by omega]at h';exact h')⟩
 |_,[],_::_,h,_=>by cases h
 |_,_::_,[],h,_=>by cases h
theorem Et.get{vs:List UInt8}:∀{n:Nat} {N:List Nd} {C:List pF},Et vs n N C->∀j nd i,N[j]?=some nd->C[j]?=some i->NI vs (n+j) nd i
 |_,[],[],_,_,_,_,h1,_=>by simp at h1
 |n,_::_,_::_,h,0,_,_,h1,h2=>by
  simp only[getElem?_cons_zero,Option.some.injEq]at h1 h2;subst h1;subst h2;exact h.1
 |n,_::_,_::_,h,j+1,_,_,h1,h2=>by
  simp only[getElem?_cons_succ]at h1 h2;have:=h.2.get j _ _ h1 h2;rw[show n+1+j=n+(j+1) by omega]at this;exact this
 |_,[],_::_,h,_,_,_,_,_=>by cases h
 |_,_::_,[],h,_,_,_,_,_=>by cases h
theorem zz{α:Type}(f:α->α)(t:α)(R:List α):∀A:List α,(A++t::R).modify A.length f=A++f t::R
 |[]=>rfl
 |a::A=>by simp[modify_succ_cons,zz f t R A]
theorem wG{α:Type}(f:α->α)(t:α)(R A:List α){n:Nat}(h:n=A.length):(A++t::R).modify n f=A++f t::R:=by subst h;exact zz f t R A
structure zT(ws:List ByteArray)(s s':PS)(r:List ByteArray):Prop where
 rd:Rd ws s' r
 nd:s'.nodes=s.nodes
 vs:s.vars <+: s'.vars
theorem zT.trans{ws:List ByteArray}{s s' s'':PS}{r r':List ByteArray}(h:zT ws s s' r)(k:zT ws s' s'' r'):zT ws s s'' r':=⟨k.rd,k.nd.trans h.nd,h.vs.trans k.vs⟩
theorem jh{ws:List ByteArray}{s:PS}{x:ByteArray}{r:List ByteArray}(h:Rd ws s (x::r)):zT ws s s.adv r:=⟨db h,rfl,prefix_refl _⟩
theorem cB{ws:List ByteArray}{s:PS}{k x:ByteArray}{r:List ByteArray}(hk:k.toList≠[])(h:Rd ws s (x::r)):bL ws k s=aX x k:=dB hk h
theorem eo{ws:List ByteArray}{s:PS}{k:ByteArray}{r:List ByteArray}(hk:k.toList≠[])(h:Rd ws s (k::r)):zT ws s (aF ws k s) r:=by
 unfold aF;rw[cB hk h,aT,if_pos rfl];exact jh h
theorem QU(l:List UInt8)(c:UInt8):l <+: put l c:=by
 unfold put;split
 .exact prefix_append _ _
 .exact prefix_refl _
theorem QK(l:List UInt8)(c:UInt8)(h:plc l c≠l.length):l[plc l c]?=some c:=by
 induction l with
 |nil=>exact absurd rfl h
 |cons x r ih =>
  simp only[plc]at h ⊢;by_cases hx:x=c
  .rw[if_pos hx];simp[hx]
  .rw[if_neg hx]at h ⊢;rw[getElem?_cons_succ];exact ih (by simpa using h)
theorem QS(l:List UInt8)(c:UInt8):(put l c)[plc l c]?=some c:=by
 unfold put;by_cases h:plc l c=l.length
 .rw[if_pos h,h];simp
 .rw[if_neg h];exact QK l c h
theorem xq{ws:List ByteArray}{s:PS}{x:ByteArray}{r:List ByteArray}(h:Rd ws s (x::r))(hx:aK x=true):zT ws s (bE ws s) r/\zS (bE ws s).vars x (mO ws s):=by
 have e1:bE ws s={ s with pos:=s.pos+1,vars:=put s.vars (Cq x) }:=by unfold bE;rw[zE h,if_pos hx]
 have e2:mO ws s=plc s.vars (Cq x):=by unfold mO;rw[zE h,if_pos hx]
 rw[e1,e2];exact⟨⟨⟨h.1,(db h).2⟩,rfl,QU _ _⟩,hx,QS _ _⟩
theorem kL:aK cD=false:=rfl
theorem BX{ws:List ByteArray}{s:PS}{x:ByteArray}{r:List ByteArray}(h:Rd ws s (x::r))(hx:x=cD\/aK x=true):zT ws s (cd ws s) r/\SV (cd ws s).vars x (dT ws s) (fh ws s):=by
 rcases hx with rfl|hx
 .have e:bL ws kw s=true:=(cB wm h).trans (aT _);unfold cd dT fh;rw[e,if_pos rfl,if_pos rfl];exact⟨jh h,zq0 ⟨rfl,rfl⟩⟩
 .have e:bL ws kw s=false:=(cB wm h).trans (bm (eY hx kL));unfold cd dT fh;rw[e,if_neg (by simp),if_neg (by simp),if_neg (by simp)];exact⟨(xq h hx).1,zq1 ⟨rfl,(xq h hx).2⟩⟩
theorem Rx{ws:List ByteArray}{s t:PS}{r:List ByteArray}(nd:Nd)(h:zT ws s t r):Rd ws (ci nd t) r/\(ci nd t).nodes=s.nodes++[{ nd with nx:=s.nodes.length+1 }]/\s.vars <+: (ci nd t).vars:=by
 refine⟨h.rd,?_,h.vs⟩;show t.nodes++[{ nd with nx:=t.nodes.length+1 }]=_;rw[h.nd]
theorem ahz{ws:List ByteArray}{s:PS}{c q:List ByteArray}(hc:pD c)(h:Rd ws s (c++q)):zT ws s (tI ws s) q/\TI (tI ws s).vars (Ce ws s) (My c)/\(Ce ws s).ot=0/\(My c).to=0:=by
 cases hc using pD.ind with
 |star =>
  have e:bL ws dE s=true:=(cB oe h).trans (aT _);unfold tI Ce;rw[e,if_pos rfl,if_pos rfl];exact⟨jh h,⟨rfl,zq0 ⟨rfl,rfl⟩⟩,rfl,rfl⟩
 |@two a b c ha hb hc =>
  have e:bL ws dE s=false:=(cB oe h).trans (bm (eY ha rfl));have h1:=xq h ha;have Kz:Rd ws (bE ws s) (b::c::q):=h1.1.rd;have hT:zT ws (bE ws s) (yW ws (bE ws s)) (c::q)/\((b=kX/\Ss ws (bE ws s)=9)\/(b=bT/\Ss ws (bE ws s)=8)):=by
   unfold yW Ss;rcases hb with rfl|rfl
   .have e2:bL ws tt (bE ws s)=false:=(cB Dy Kz).trans (bm (aq (by simp[bT,tt])));rw[e2,if_neg (by simp),if_neg (by simp)];exact⟨eo py Kz,zq1 ⟨rfl,rfl⟩⟩
   .have e2:bL ws tt (bE ws s)=true:=(cB Dy Kz).trans (aT _);rw[e2,if_pos rfl,if_pos rfl];exact⟨jh Kz,zq0 ⟨rfl,rfl⟩⟩
  have h3:=BX hT.1.rd hc;unfold tI Ce;rw[e,if_neg (by simp),if_neg (by simp)];refine⟨(h1.1.trans hT.1).trans h3.1,⟨rfl,?_⟩,rfl,rfl⟩;rcases hT.2 with⟨rfl,h9⟩|⟨rfl,h8⟩
  .exact zq1 (zq1 ⟨rfl,h9,h1.2.up (hT.1.vs.trans h3.1.vs),h3.2⟩)
  .exact zq1 (zq0 ⟨rfl,h8,h1.2.up (hT.1.vs.trans h3.1.vs),h3.2⟩)
theorem TI.up{vs vs':List UInt8}{nd:Nd}{i:pF}(h:TI vs nd i)(hp:vs <+: vs'):TI vs' nd i:=by
 obtain⟨h0,h1⟩:=h;refine⟨h0,?_⟩;rcases h1 with h1|⟨a,b,c,d⟩|⟨a,b,c,d⟩
 .exact zq0 h1
 .exact zq1 (zq0 ⟨a,b,c.up hp,d.up hp⟩)
 .exact zq1 (zq1 ⟨a,b,c.up hp,d.up hp⟩)
theorem SI.up{vs vs':List UInt8}{nd:Nd}{i:pF}(h:SI vs nd i)(hp:vs <+: vs'):SI vs' nd i:=by
 rcases h with⟨a,b,c,d⟩|⟨a,b,c,d,e⟩|⟨a,b,c⟩|⟨a,b,c,d,e⟩|⟨a,b,c,d⟩|⟨a,b,c⟩|h
 .exact zq0 ⟨a,b,c.up hp,d⟩
 .exact zq1 (zq0 ⟨a,b,c.up hp,d,e.up hp⟩)
 .exact zq1 (zq1 (zq0 ⟨a,b,c.up hp⟩))
 .exact zq1 (zq1 (zq1 (zq0 ⟨a,b,c.up hp,d,e.up hp⟩)))
 .exact zq1 (zq1 (zq1 (zq1 (zq0 ⟨a,b,c.up hp,d.up hp⟩))))
 .exact zq1 (zq1 (zq1 (zq1 (zq1 (zq0 ⟨a,b,c.up hp⟩)))))
 .exact zq1 (zq1 (zq1 (zq1 (zq1 (zq1 h)))))
theorem RA{ws:List ByteArray}{s:PS}{c q:List ByteArray}(hc:pD c)(h:Rd ws s (uF::(c++sU::q))):
  Rd ws (gB ws s) q/\s.vars <+: (gB ws s).vars/\∃nd,(gB ws s).nodes=s.nodes++[nd]/\nd.nx=s.nodes.length+1/\TI (gB ws s).vars nd (My c):=by
 have h1:=eo uw h;have h2:=ahz hc h1.rd;have h3:=eo qS h2.1.rd;obtain⟨g1,g2,g3⟩:=Rx (Ce ws (aF ws gl s)) ((h1.trans h2.1).trans h3);exact⟨g1,g3,_,g2,rfl,h2.2.1.up h3.vs⟩
section
variable {vs:List UInt8}
theorem zS.fn(hn:vs.Nodup){x:ByteArray}{i j:Nat}(h:zS vs x i)(h':zS vs x j):j=i:=by
 have hi:i<vs.length:=(List.getElem?_eq_some_iff.1 h.2).1;exact((getElem?_inj hi hn).1 (h.2.trans h'.2.symm)).symm
theorem SV.fn(hn:vs.Nodup){y:ByteArray}{k i k' i':Nat}(h:SV vs y k i)(h':SV vs y k' i')(f:CF):clT f k' i'=clT f k i:=by
 rcases h with⟨rfl,rfl⟩|⟨rfl,h⟩ <;> rcases h' with⟨h1,rfl⟩|⟨rfl,h'⟩
 .rfl
 .have:=h'.1;rw[kL]at this;cases this
 .have:=h.1;rw[h1,kL]at this;cases this
 .rw[h.fn hn h']
theorem vH{a b:Nd}(ho:b.op=a.op)(hv:a.op≠0->a.op≠6->a.op≠7->a.op≠10->b.v=a.v)(hc:a.op=1\/a.op=3\/a.op=8\/a.op=9->∀f,clT f b.ak b.ai=clT f a.ak a.ai)(hi:a.op=2->b.ai=a.ai)(f:CF):cn b f=cn a f:=by
 unfold cn;rw[ho];by_cases o0:a.op=0
 .rw[if_pos o0,if_pos o0]
 rw[if_neg o0,if_neg o0];by_cases o1:a.op=1
 .rw[if_pos o1,if_pos o1,hv (by omega) (by omega) (by omega) (by omega),hc (zq0 o1)]
 rw[if_neg o1,if_neg o1];by_cases o2:a.op=2
 .rw[if_pos o2,if_pos o2,hi o2];have e:(λg=>fs g b)=λg=>fs g a:=funext λg=>by unfold fs;rw[hv (by omega) (by omega) (by omega) (by omega),hi o2]
  rw[e]
 rw[if_neg o2,if_neg o2];by_cases o3:a.op=3
 .have hv':=hv (by omega) (by omega) (by omega) (by omega);have e:(λg=>ny g b)=λg=>ny g a:=funext λg=>by unfold ny;rw[hv',hc (zq1 (zq0 o3))]
  rw[if_pos o3,if_pos o3,hv',e]
 rw[if_neg o3,if_neg o3];by_cases o4:a.op=4
 .rw[if_pos o4,if_pos o4,hv (by omega) (by omega) (by omega) (by omega)]
 rw[if_neg o4,if_neg o4];by_cases o5:a.op=5
 .rw[if_pos o5,if_pos o5,hv (by omega) (by omega) (by omega) (by omega)]
 rw[if_neg o5,if_neg o5];by_cases o7:a.op=7
 .rw[if_pos o7,if_pos o7]
 rw[if_neg o7,if_neg o7];have oU:(a.op=8\/a.op=9)->mu f b=mu f a:=λh89=>by
  unfold mu;simp only;rw[hv (by omega) (by omega) (by omega) (by omega),hc (by omega)]
 by_cases o8:a.op=8
 .rw[if_pos o8,if_pos o8,oU (zq0 o8)]
 rw[if_neg o8,if_neg o8];by_cases o9:a.op=9
 .rw[if_pos o9,if_pos o9,oU (zq1 o9)]
 rw[if_neg o9,if_neg o9]
theorem dne{x y z:ByteArray}(h:z=x)(h':z=y)(hd:x.data.toList≠y.data.toList):False:=hd (by rw[<-h,<-h'])
theorem ahy(hn:vs.Nodup){a b:Nd}{i:pF}(h:SI vs a i)(h':SI vs b i):b.op=a.op/\(∀f,cn b f=cn a f)/\¬ (a.op=7\/a.op=8\/a.op=9):=by
 rcases h with⟨a1,a2,a3,a4⟩|⟨a1,a2,a3,a4,a5⟩|⟨a1,a2,a3⟩|⟨a1,a2,a3,a4,a5⟩|⟨a1,a2,a3,a4⟩|⟨a1,a2,a3⟩|⟨a1,a2⟩ <;>
 rcases h' with⟨b1,b2,b3,b4⟩|⟨b1,b2,b3,b4,b5⟩|⟨b1,b2,b3⟩|⟨b1,b2,b3,b4,b5⟩|⟨b1,b2,b3,b4⟩|⟨b1,b2,b3⟩|⟨b1,b2⟩ <;>
 first
 |(refine(dne a1 b1 ?_).elim;simp[cD,yX,lD,zx,sM,fM,aD];done)
 |(refine⟨by rw[a2,b2],vH (by rw[a2,b2]) (λ_ _ _ _=>?_) (λho f=>?_) (λho=>?_),by omega⟩ <;>
   first
   |exact a3.fn hn b3
   |(exfalso;omega)
   |exact a5.fn hn b5
   |exact a4.fn hn b4 f
   |(rw[a4,b4,a5.fn hn b5])
   |(rw[a4,b4];rfl))
theorem ahA(hn:vs.Nodup){a b:Nd}{i:pF}(h:TI vs a i)(h':TI vs b i):b.op=a.op/\∀f,cn b f=cn a f:=by
 obtain⟨-,h⟩:=h;obtain⟨-,h'⟩:=h';rcases h with⟨a1,a2⟩|⟨a1,a2,a3,a4⟩|⟨a1,a2,a3,a4⟩ <;> rcases h' with⟨b1,b2⟩|⟨b1,b2,b3,b4⟩|⟨b1,b2,b3,b4⟩ <;>
 first
 |(refine(dne a1 b1 ?_).elim;simp[bK,bT,kX];done)
 |(refine⟨by rw[a2,b2],vH (by rw[a2,b2]) (λ_ _ _ _=>?_) (λho f=>?_) (λho=>?_)⟩ <;>
   first
   |exact a3.fn hn b3
   |(exfalso;omega)
   |exact a4.fn hn b4 f)
theorem JH{a:Nd}{i:pF}(h:SI vs a i)(e:i.op=ry\/i.op=ZA):False:=by
 rcases h with⟨a1,-⟩|⟨a1,-⟩|⟨a1,-⟩|⟨a1,-⟩|⟨a1,-⟩|⟨a1,-⟩|⟨a1,-⟩ <;> rcases e with e|e <;> exact dne a1 e (by simp[cD,yX,lD,zx,sM,fM,aD,ry,ZA])
end
def aes(ws:List ByteArray)(s s':PS)(q:List ByteArray)(nd:Nd):Prop:=Rd ws s' q/\s.vars <+: s'.vars/\s'.nodes=s.nodes++[nd]/\nd.nx=s.nodes.length+1
theorem mo{ws:List ByteArray}{s:PS}{q:List ByteArray}(h:zT ws s (ix ws s) (fF::q)):aes ws s (rK ws s) q { kP ws s with nx:=s.nodes.length+1 }:=by
 obtain⟨g1,g2,g3⟩:=Rx (kP ws s) (h.trans (eo A9 h.rd));exact⟨g1,g3,g2,rfl⟩
theorem oC{ws:List ByteArray}{s:PS}{q:List ByteArray}(h:zT ws s (ix ws s) (fF::q)):(ix ws s).vars <+: (rK ws s).vars:=(eo A9 h.rd).vs
theorem ww{a:ByteArray}(h:aK a=true):aX a aD=false:=bm (eY h rfl)
theorem wu{a:ByteArray}(h:aK a=true):aX a fM=false:=bm (eY h rfl)
theorem Ry{ws:List ByteArray}{s:PS}{p q:List ByteArray}(hp:lj p)(h:Rd ws s (p++fF::q)):
  ∃nd i,aes ws s (rK ws s) q nd/\rsI p=some i/\SI (rK ws s).vars nd i:=by
 cases hp using lj.ind with
 |skip =>
  have e:bL ws ie s=true:=(cB od h).trans (aT _);have hA:zT ws s (ix ws s) (fF::q):=by unfold ix;rw[if_pos e];exact jh h
  refine⟨_,_,mo hA,(by show(if aX aD aD=true then _ else _)=_;rw[if_pos (aT _)]),?_⟩;refine zq1 (zq1 (zq1 (zq1 (zq1 (zq1 ⟨rfl,?_⟩)))));show(kP ws s).op=6;unfold kP;rw[if_pos e]
 |@free b hb =>
  have e1:bL ws ie s=false:=(cB od h).trans Ky;have e2:bL ws jc s=true:=(cB qU h).trans (aT _);have h1:=jh h;have h2:=xq h1.rd hb;have hA:zT ws s (ix ws s) (fF::q):=by unfold ix;rw[if_neg (by simp[e1]),if_pos e2];exact h1.trans h2.1
  refine⟨_,_,mo hA,(by show(if (aX fM fM&&aK b)=true then _ else _)=_;rw[if_pos (by rw[aT,hb];rfl)]),?_⟩;refine zq1 (zq1 (zq1 (zq1 (zq1 (zq0 ⟨rfl,?_,?_⟩)))))
  .show(kP ws s).op=5;unfold kP;rw[if_neg (by simp[e1]),if_pos e2]
  .show zS _ b (kP ws s).v;have ev:(kP ws s).v=mO ws s.adv:=(by unfold kP;rw[if_neg (by simp[e1]),if_pos e2]);rw[ev];refine h2.2.up ?_;have:(ix ws s).vars=(bE ws s.adv).vars:=(by unfold ix;rw[if_neg (by simp[e1]),if_pos e2]);rw[<-this];exact oC hA
 |@val a c ha hc =>
  have e1:bL ws ie s=false:=(cB od h).trans (ww ha);have e2:bL ws jc s=false:=(cB qU h).trans (wu ha);have h1:=xq h ha;have Kz:Rd ws (bE ws s) (bT::c::fF::q):=h1.1.rd;have e3:bL ws iO (bE ws s)=false:=(cB mc Kz).trans Ig;have h2:=eo py Kz;have eS:ix ws s=oQ ws (aF ws gU (bE ws s)):=by unfold ix;rw[if_neg (by simp[e1]),if_neg (by simp[e2]),if_neg (by simp[e3])]
  have eN:kP ws s=xO ws (mO ws s) (aF ws gU (bE ws s)):=by unfold kP;rw[if_neg (by simp[e1]),if_neg (by simp[e2]),if_neg (by simp[e3])]
  have hn:∀x,rsI [a,bT,x]=if (aX x cD||aX x lD)=true then some ⟨x,a,em,em,0,false⟩ else if aK x=true then some ⟨yX,a,x,em,0,false⟩ else none:=by
   intro x;show(if (aK a&&aX bT bT)=true then _ else _)=_;rw[if_pos (by rw[ha,aT];rfl)]
  rcases hc with rfl|hc
  .have e4:bL ws oY (aF ws gU (bE ws s))=true:=(cB AZ h2.rd).trans (aT _);have hA:zT ws s (ix ws s) (fF::q):=(by rw[eS];unfold oQ;rw[if_pos e4];exact(h1.1.trans h2).trans (jh h2.rd));refine⟨_,_,mo hA,(by rw[hn,if_pos (by rw[aT];simp)]),?_⟩;have ev:kP ws s=⟨4,mO ws s,0,0,0,0⟩:=(by rw[eN];unfold xO;rw[if_pos e4]);rw[ev];refine zq1 (zq1 (zq0 ⟨rfl,rfl,h1.2.up ?_⟩));have:(ix ws s).vars=(aF ws gU (bE ws s)).vars:=(by rw[eS];unfold oQ;rw[if_pos e4];rfl);exact(this ▸ h2.vs).trans (oC hA)
  .have KR:aX c lD=false:=by
    rcases hc with rfl|hc
    .exact Vu
    .exact bm (eY hc rfl)
   have e4:bL ws oY (aF ws gU (bE ws s))=false:=(cB AZ h2.rd).trans KR;have h3:=BX h2.rd hc;have e5:Eu ws (aF ws gU (bE ws s))=false:=(by unfold Eu;rw[(cB mc h3.1.rd).trans Rh,Bool.and_false]);have eS2:ix ws s=cd ws (aF ws gU (bE ws s)):=(by rw[eS];unfold oQ;rw[if_neg (by simp[e4]),if_neg (by simp[e5])]);have hA:zT ws s (ix ws s) (fF::q):=(by rw[eS2];exact(h1.1.trans h2).trans h3.1);have ev:kP ws s=⟨1,mO ws s,dT ws (aF ws gU (bE ws s)),fh ws (aF ws gU (bE ws s)),0,0⟩:=(by rw[eN];unfold xO;rw[if_neg (by simp[e4]),if_neg (by simp[e5])]);have Lf:zS (rK ws s).vars a (mO ws s):=h1.2.up ((h2.vs.trans h3.1.vs).trans (by rw[<-eS2];exact oC hA));have AO:=h3.2.up (show(cd ws (aF ws gU (bE ws s))).vars <+: (rK ws s).vars by rw[<-eS2];exact oC hA);rcases hc with rfl|hc
   .refine⟨_,_,mo hA,(by rw[hn,if_pos (by rw[aT];rfl)]),?_⟩;rw[ev];have hk0:dT ws (aF ws gU (bE ws s))=0:=by
     rcases AO with h0|⟨_,h0⟩
     .exact h0.2
     .exact absurd h0.1 (by rw[kL];simp)
    exact zq0 ⟨rfl,rfl,Lf,hk0⟩
   .refine⟨_,_,mo hA,(by rw[hn,if_neg (by rw[KR,bm (eY hc kL)];simp),if_pos hc]),?_⟩;rw[ev];rcases AO with h0|⟨h0,h00⟩
    .exact absurd hc (by rw[h0.1,kL];simp)
    .exact zq1 (zq0 ⟨rfl,rfl,Lf,h0,h00⟩)
 |@load a c ha hc =>
  have e1:bL ws ie s=false:=(cB od h).trans (ww ha);have e2:bL ws jc s=false:=(cB qU h).trans (wu ha);have h1:=xq h ha;have Kz:Rd ws (bE ws s) (bT::c::a6::nW::fF::q):=h1.1.rd;have e3:bL ws iO (bE ws s)=false:=(cB mc Kz).trans Ig;have h2:=eo py Kz;have eS:ix ws s=oQ ws (aF ws gU (bE ws s)):=by unfold ix;rw[if_neg (by simp[e1]),if_neg (by simp[e2]),if_neg (by simp[e3])]
  have eN:kP ws s=xO ws (mO ws s) (aF ws gU (bE ws s)):=by unfold kP;rw[if_neg (by simp[e1]),if_neg (by simp[e2]),if_neg (by simp[e3])]
  have e4:bL ws oY (aF ws gU (bE ws s))=false:=(cB AZ h2.rd).trans (bm (eY hc rfl));have h3:=BX h2.rd (zq1 hc);have Pp:dT ws (aF ws gU (bE ws s))=1:=by
   rcases h3.2 with h0|h0
   .exact absurd hc (by rw[h0.1,kL];simp)
   .exact h0.1
  have e5:Eu ws (aF ws gU (bE ws s))=true:=by unfold Eu;rw[Pp,cB mc h3.1.rd];rw[show aX a6 iO=true from aT _];rfl
  have h4:=jh h3.1.rd;have h5:=eo Lk h4.rd;have eS2:ix ws s=aF ws kN (cd ws (aF ws gU (bE ws s))).adv:=by rw[eS];unfold oQ;rw[if_neg (by simp[e4]),if_pos e5]
  have hA:zT ws s (ix ws s) (fF::q):=by rw[eS2];exact(((h1.1.trans h2).trans h3.1).trans h4).trans h5
  have ev:kP ws s=⟨2,mO ws s,dT ws (aF ws gU (bE ws s)),fh ws (aF ws gU (bE ws s)),0,0⟩:=by rw[eN];unfold xO;rw[if_neg (by simp[e4]),if_pos e5]
  have vW:(cd ws (aF ws gU (bE ws s))).vars <+: (rK ws s).vars:=(h4.vs.trans h5.vs).trans (by rw[<-eS2];exact oC hA);refine⟨_,⟨zx,a,c,em,0,false⟩,mo hA,?_,?_⟩
  .show(if (aK a&&aX bT bT&&aK c&&aX a6 a6&&aX nW nW)=true then _ else _)=_;rw[if_pos (by simp[ha,hc,aT])]
  .rw[ev];rcases h3.2 with h0|⟨h0,h00⟩
   .exact absurd hc (by rw[h0.1,kL];simp)
   .exact zq1 (zq1 (zq1 (zq0 ⟨rfl,rfl,h1.2.up ((h2.vs.trans h3.1.vs).trans vW),h0,h00.up vW⟩)))
 |@store a e ha he =>
  have e1:bL ws ie s=false:=(cB od h).trans (ww ha);have e2:bL ws jc s=false:=(cB qU h).trans (wu ha);have h1:=xq h ha;have Kz:Rd ws (bE ws s) (a6::nW::bT::e::fF::q):=h1.1.rd;have e3:bL ws iO (bE ws s)=true:=(cB mc Kz).trans (aT _);have h2:=jh Kz;have h3:=eo Lk h2.rd;have h4:=eo py h3.rd;have h5:=BX h4.rd he;have eS:ix ws s=cd ws (zN ws (bE ws s)):=by unfold ix;rw[if_neg (by simp[e1]),if_neg (by simp[e2]),if_pos e3]
  have hA:zT ws s (ix ws s) (fF::q):=by rw[eS];exact(((h1.1.trans h2).trans h3).trans h4).trans h5.1
  have ev:kP ws s=⟨3,mO ws s,dT ws (zN ws (bE ws s)),fh ws (zN ws (bE ws s)),0,0⟩:=by unfold kP;rw[if_neg (by simp[e1]),if_neg (by simp[e2]),if_pos e3]
  have vW:(cd ws (zN ws (bE ws s))).vars <+: (rK ws s).vars:=by rw[<-eS];exact oC hA
  refine⟨_,⟨sM,a,e,em,0,false⟩,mo hA,?_,?_⟩
  .show(if (aK a&&aX a6 bT&&aK nW&&aX bT a6&&aX e nW)=true then _ else if (aK a&&aX a6 a6&&aX nW nW&&aX bT bT&&(aK e||aX e cD))=true then _ else _)=_;rw[if_neg (by rw[Zc];simp),if_pos];rcases he with rfl|he
   .simp[ha,aT]
   .simp[ha,he,aT]
  .rw[ev];exact zq1 (zq1 (zq1 (zq1 (zq0 ⟨rfl,rfl,h1.2.up ((((h2.vs.trans h3.vs).trans h4.vs).trans h5.1.vs).trans vW),h5.2.up vW⟩))))
def k9(n:Nat)(i:pF):pF:=⟨i.op,i.x,i.y,i.cond,i.to+n,i.head⟩
theorem jr(m n:Nat)(l:List pF):(l.map (k9 m)).map (k9 n)=l.map (k9 (m+n)):=by
 rw[map_map];apply map_congr_left;intro i _;show k9 n (k9 m i)=k9 (m+n) i;unfold k9;simp only[Nat.add_assoc]
def Ma(ws:List ByteArray)(s s':PS)(q:List ByteArray)(C:List pF):Prop :=
 Rd ws s' q/\s.vars <+: s'.vars/\∃N,s'.nodes=s.nodes++N/\∀vs,s'.vars <+: vs->Et vs s.nodes.length N C
theorem Ma.len{ws:List ByteArray}{s s':PS}{q:List ByteArray}{C:List pF}(h:Ma ws s s' q C):s'.nodes.length=s.nodes.length+C.length:=by
 obtain⟨-,-,N,hN,hR⟩:=h;rw[hN,length_append,(hR _ (prefix_refl _)).len]
theorem Ma.trans{ws:List ByteArray}{s s' s'':PS}{q q':List ByteArray}{C C':List pF}(h:Ma ws s s' q C)(k:Ma ws s' s'' q' C'):Ma ws s s'' q' (C++C'):=by
 obtain⟨-,hv,N,hN,hR⟩:=h;obtain⟨kr,kv,N',kN,kR⟩:=k;refine⟨kr,hv.trans kv,N++N',by rw[kN,hN,append_assoc],λvs hvs=>?_⟩;have h1:=hR vs (kv.trans hvs);refine h1.app ?_;have h2:=kR vs hvs;rw[hN,length_append]at h2;exact h2
theorem vE{ws:List ByteArray}{c:PS->PS}{n:Nat}{s:PS}{r:List ByteArray}(h:Rd ws s (gC::r)):ji c ws (n+1) s=s:=by
 show(if (s.failed||bL ws k8 s)=true then s else _)=_;rw[if_pos (by rw[cB qV h,show aX gC k8=true from aT _];simp)]
theorem vD{ws:List ByteArray}{c:PS->PS}{n:Nat}{s:PS}{x:ByteArray}{r:List ByteArray}(h:Rd ws s (x::r))(hx:x≠gC):ji c ws (n+1) s=ji c ws n (c s):=by
 show(if (s.failed||bL ws k8 s)=true then s else ji c ws n (c s))=_;rw[h.1,cB qV h,show aX x k8=false from bm hx];rfl
theorem abk(A R:List Nd)(t:Nd)(k n:Nat)(h:k=A.length):ei k n (A++t::R)=A++{ t with ot:=n }::R:=wG _ t R A h
theorem ahi(A R:List Nd)(t:Nd)(k n:Nat)(h:k=A.length):gS k n (A++t::R)=A++{ t with nx:=n }::R:=wG _ t R A h
theorem RE{vs:List UInt8}{nd:Nd}{c:List ByteArray}{hd:Bool}{j n m:Nat}(h:TI vs nd (My c))(hx:nd.nx=j+1)(hm:m=n):NI vs j { nd with ot:=m } ⟨(My c).op,(My c).x,(My c).y,(My c).cond,n,hd⟩ :=
 zq1 (zq0 ⟨h,hx,hm⟩)
def Wm(c:List ByteArray)(n:Nat):pF:=⟨(My c).op,(My c).x,(My c).y,(My c).cond,n,false⟩
theorem TB{b:List ByteArray}{k:Nat}(h:iD b k):∃T:List pF,T.length=k/\∀(ws:List ByteArray) (f n:Nat) (q:List ByteArray) (s:PS),b.length<f->b.length<n->gu rF q=false->Rd ws s (b++q) ->
  ∃n' s',ji (kA (cM ws f) ws) ws n s=ji (kA (cM ws f) ws) ws n' s'/\n<=n'+b.length/\Ma ws s s' q (T.map (k9 s.nodes.length)):=by
 induction h using iD.ind with
 |nil =>
  refine⟨[],rfl,λws f n q s _ _ _ hr=>⟨n,s,rfl,by simp,hr,prefix_refl _,[],by simp,λ_ _=>trivial⟩⟩
 |@sim p r k hp hr ih =>
  obtain⟨T,hT,ih⟩:=ih;obtain⟨i,hi⟩:∃i,rsI p=some i:=by
   obtain⟨x,t,e⟩:=xi hp;have al2:Rd (p++[fF]) ⟨0,false,[],[],[]⟩ (p++fF::[]):=⟨rfl,rfl,zq5 _⟩;obtain⟨-,i,-,h1,-⟩:=Ry hp al2;exact⟨i,h1⟩
  refine⟨i::T.map (k9 1),by simp[hT],λws f n q s hf hn hq mA=>?_⟩;simp only[length_append,length_cons]at hf hn;cases n with
  |zero=>omega
  |succ n =>
   rw[show p++fF::r++q=p++fF::(r++q) by simp]at mA;obtain⟨nd,i',⟨l1,l2,l3,l4⟩,lS,hS⟩:=Ry hp mA;rw[hi]at lS;injection lS with lS;subst lS;have hB:Ma ws s (rK ws s) (r++q) [k9 s.nodes.length i]:=⟨l1,l2,[nd],l3,λvs hv=>⟨zq0 ⟨hS.up hv,l4⟩,trivial⟩⟩;obtain⟨n',s',h1,h2,h3⟩:=ih ws f n q (rK ws s) (by omega) (by omega) hq l1;have tr:=Rl hp;have pV:=Ro hp;have hx3:=Rn hp;obtain⟨x,t,e⟩:=xi hp;have Ga:Rd ws s (x::(t++fF::(r++q))):=(by rw[e]at mA;exact mA);have ec:kA (cM ws f) ws s=rK ws s:=by
    unfold kA;rw[cB pz Ga,cB jT Ga,show aX x md=false from bm (tr x (by rw[e];simp)),show aX x bP=false from bm (pV x (by rw[e];simp))];rfl
   refine⟨n',s',?_,by simp only[length_append,length_cons];omega,?_⟩
   .rw[vD Ga (hx3 x (by rw[e];simp)),ec];exact h1
   .have:=hB.trans h3;rw[hB.len]at this;rw[map_cons,jr,Nat.add_comm 1];exact this
 |@whl d b r j k hd hb hr ihb ihr =>
  obtain⟨Tb,O0,ihb⟩:=ihb;obtain⟨Tr,Xl,ihr⟩:=ihr;refine⟨Wm d (j+2)::(Tb.map (k9 1)++[gt 0])++Tr.map (k9 (j+2)),by simp[O0,Xl];omega,λws f n q s hf hn hq mA=>?_⟩;simp only[length_append,length_cons]at hf hn;cases n with
  |zero=>omega
  |succ n =>
   cases f with
   |zero=>omega
   |succ f =>
    have e:(yD::uF::(d++sU::eg::(b++gC::r)))++q=yD::uF::(d++sU::eg::(b++gC::(r++q))):=(by simp);rw[e]at mA;have a1:=eo jT mA;obtain⟨t1,t2,nd,t3,t4,t5⟩:=RA hd a1.rd;rw[a1.nd]at t3 t4;have IP:b.length<ws.length+2:=by
     have h1:=congrArg List.length mA.2.1;simp only[length_drop,length_append,length_cons]at h1;omega
    have a2:=eo zs t1;obtain⟨n1,s1,h1,ku,b1,b2,N,b3,b5⟩:=ihb ws f (ws.length+2) (gC::(r++q)) (aF ws mC (gB ws (aF ws bP s))) (by omega) IP D3 a2.rd;obtain⟨n2,rfl⟩:∃n2,n1=n2+1:=⟨n1-1,by omega⟩;rw[vE b1]at h1;have a3:=eo qV b1;have eA:nz (cM ws (f+1)) ws s=aF ws k8 s1:=by
     show aF ws k8 (ji (kA (cM ws f) ws) ws (ws.length+2) (aF ws mC (gB ws (aF ws bP s))))=_;rw[h1]
    rw[<-eA]at a3;have gJ:(aF ws mC (gB ws (aF ws bP s))).nodes.length=s.nodes.length+1:=(by rw[a2.nd,t3];simp);rw[gJ]at b5;have Mg:N.length=j:=(by have:=(b5 _ (prefix_refl _)).len;rw[length_map,O0]at this;exact this);have eN:(nz (cM ws (f+1)) ws s).nodes=s.nodes++nd::N:=(by rw[a3.nd,b3,a2.nd,t3];simp);have eV:(gB ws (aF ws bP s)).vars <+: (nz (cM ws (f+1)) ws s).vars:=(a2.vs.trans b2).trans a3.vs;have eS:(xY (cM ws (f+1)) ws s).nodes=s.nodes++{ nd with ot:=s.nodes.length+(j+2) }::(N++[{ iN with nx:=s.nodes.length }]):=by
     show ei s.nodes.length (ci iN (nz (cM ws (f+1)) ws s)).nodes.length (gS (nz (cM ws (f+1)) ws s).nodes.length s.nodes.length (ci iN (nz (cM ws (f+1)) ws s)).nodes)=_;have e1:(ci iN (nz (cM ws (f+1)) ws s)).nodes=(s.nodes++nd::N)++{ iN with nx:=(s.nodes++nd::N).length+1 }::[]:=by
      show(nz (cM ws (f+1)) ws s).nodes++[_]=_;rw[eN]
     have e2:gS (s.nodes++nd::N).length s.nodes.length ((s.nodes++nd::N)++{ iN with nx:=(s.nodes++nd::N).length+1 }::[])=s.nodes++nd::(N++[{ iN with nx:=s.nodes.length }]):=by
      rw[ahi _ _ _ _ _ rfl];simp
     rw[e1,eN,e2,abk _ _ _ _ _ rfl];have e3:(s.nodes++nd::N++[({ iN with nx:=(s.nodes++nd::N).length+1 }:Nd)]).length=s.nodes.length+(j+2):=(by simp[Mg]);rw[e3]
    have hB:Ma ws s (xY (cM ws (f+1)) ws s) (r++q) ((Wm d (j+2)::(Tb.map (k9 1)++[gt 0])).map (k9 s.nodes.length)):=by
     refine⟨a3.rd,(a1.vs.trans t2).trans eV,_,eS,λvs hv=>?_⟩;have Lf:(nz (cM ws (f+1)) ws s).vars <+: vs:=hv;refine⟨RE (t5.up (eV.trans Lf)) t4 (by show _=j+2+s.nodes.length;omega),?_⟩;have h5:=b5 vs (a3.vs.trans Lf);rw[map_append,jr];rw[Nat.add_comm s.nodes.length 1]at h5;refine Et.app (by rw[Nat.add_comm s.nodes.length 1];exact h5) ⟨zq1 (zq1 ⟨rfl,rfl,?_⟩),trivial⟩;show s.nodes.length=0+s.nodes.length;omega
    obtain⟨n',s',h3,h4,h6⟩:=ihr ws (f+1) n q (xY (cM ws (f+1)) ws s) (by omega) (by omega) hq a3.rd;have ec:kA (cM ws (f+1)) ws s=xY (cM ws (f+1)) ws s:=by
     unfold kA;rw[cB pz mA,cB jT mA,show aX yD md=false from ahE,show aX yD bP=true from aT _];rfl
    refine⟨n',s',?_,by simp only[length_append,length_cons];omega,?_⟩
    .rw[vD mA ahC,ec];exact h3
    .have:=hB.trans h6;rw[hB.len]at this;rw[map_append,jr (j+2)];have e4:s.nodes.length+((Wm d (j+2)::(Tb.map (k9 1)++[gt 0])).map (k9 s.nodes.length)).length=j+2+s.nodes.length:=(by simp[O0];omega);rw[e4]at this;exact this
 |@ife d b r j k hd hb hr ihb ihr =>
  obtain⟨Tb,O0,ihb⟩:=ihb;obtain⟨Tr,Xl,ihr⟩:=ihr;refine⟨Wm d (j+1)::Tb.map (k9 1)++Tr.map (k9 (j+1)),by simp[O0,Xl];omega,λws f n q s hf hn hq mA=>?_⟩;simp only[length_append,length_cons]at hf hn;cases n with
  |zero=>omega
  |succ n =>
   cases f with
   |zero=>omega
   |succ f =>
    have e:(ts::uF::(d++sU::eg::(b++gC::r)))++q=ts::uF::(d++sU::eg::(b++gC::(r++q))):=(by simp);rw[e]at mA;have a1:=eo pz mA;obtain⟨t1,t2,nd,t3,t4,t5⟩:=RA hd a1.rd;rw[a1.nd]at t3 t4;have IP:b.length<ws.length+2:=by
     have h1:=congrArg List.length mA.2.1;simp only[length_drop,length_append,length_cons]at h1;omega
    have a2:=eo zs t1;obtain⟨n1,s1,h1,ku,b1,b2,N,b3,b5⟩:=ihb ws f (ws.length+2) (gC::(r++q)) (aF ws mC (gB ws (aF ws md s))) (by omega) IP D3 a2.rd;obtain⟨n2,rfl⟩:∃n2,n1=n2+1:=⟨n1-1,by omega⟩;rw[vE b1]at h1;have a3:=eo qV b1;have eA:cJ (cM ws (f+1)) ws s=aF ws k8 s1:=by
     show aF ws k8 (ji (kA (cM ws f) ws) ws (ws.length+2) (aF ws mC (gB ws (aF ws md s))))=_;rw[h1]
    rw[<-eA]at a3;have gJ:(aF ws mC (gB ws (aF ws md s))).nodes.length=s.nodes.length+1:=(by rw[a2.nd,t3];simp);rw[gJ]at b5;have Mg:N.length=j:=(by have:=(b5 _ (prefix_refl _)).len;rw[length_map,O0]at this;exact this);have eN:(cJ (cM ws (f+1)) ws s).nodes=s.nodes++nd::N:=(by rw[a3.nd,b3,a2.nd,t3];simp);have eV:(gB ws (aF ws md s)).vars <+: (cJ (cM ws (f+1)) ws s).vars:=(a2.vs.trans b2).trans a3.vs;have mJ:bL ws iP (cJ (cM ws (f+1)) ws s)=false:=by
     rw[dB qT a3.rd];exact Nn hr hq
    have eB:pO (cM ws (f+1)) ws s={ cJ (cM ws (f+1)) ws s with nodes:=ei s.nodes.length (cJ (cM ws (f+1)) ws s).nodes.length (cJ (cM ws (f+1)) ws s).nodes }:=by
     unfold pO;rw[if_neg (by simp[mJ])]
    have eS:(pO (cM ws (f+1)) ws s).nodes=s.nodes++{ nd with ot:=s.nodes.length+(j+1) }::N:=by
     rw[eB];show ei s.nodes.length (cJ (cM ws (f+1)) ws s).nodes.length (cJ (cM ws (f+1)) ws s).nodes=_;rw[eN,abk _ _ _ _ _ rfl];simp only[length_append,length_cons,Mg]
    have hRd:Rd ws (pO (cM ws (f+1)) ws s) (r++q):=(by rw[eB];exact a3.rd);have hB:Ma ws s (pO (cM ws (f+1)) ws s) (r++q) ((Wm d (j+1)::Tb.map (k9 1)).map (k9 s.nodes.length)):=by
     refine⟨hRd,by rw[eB];exact(a1.vs.trans t2).trans eV,_,eS,λvs hv=>?_⟩;have Lf:(cJ (cM ws (f+1)) ws s).vars <+: vs:=(by rw[eB]at hv;exact hv);refine⟨RE (t5.up (eV.trans Lf)) t4 (by show _=j+1+s.nodes.length;omega),?_⟩;have h5:=b5 vs (a3.vs.trans Lf);show Et vs (s.nodes.length+1) N ((Tb.map (k9 1)).map (k9 s.nodes.length));rw[jr,Nat.add_comm 1];exact h5
    obtain⟨n',s',h3,h4,h6⟩:=ihr ws (f+1) n q (pO (cM ws (f+1)) ws s) (by omega) (by omega) hq hRd;have ec:kA (cM ws (f+1)) ws s=pO (cM ws (f+1)) ws s:=by
     unfold kA;rw[cB pz mA,show aX ts md=true from aT _];rfl
    refine⟨n',s',?_,by simp only[length_append,length_cons];omega,?_⟩
    .rw[vD mA XP,ec];exact h3
    .have:=hB.trans h6;rw[hB.len]at this;rw[map_append,jr (j+1)];have e4:s.nodes.length+((Wm d (j+1)::Tb.map (k9 1)).map (k9 s.nodes.length)).length=j+1+s.nodes.length:=(by simp[O0];omega);rw[e4]at this;exact this
 |@ifl d b e r j i k hd hb he hr ihb ihe ihr =>
  obtain⟨Tb,O0,ihb⟩:=ihb;obtain⟨Te,hTe,ihe⟩:=ihe;obtain⟨Tr,Xl,ihr⟩:=ihr;refine⟨Wm d (j+2)::(Tb.map (k9 1)++gt (j+2+i)::Te.map (k9 (j+2)))++Tr.map (k9 (j+2+i)),by simp[O0,hTe,Xl];omega,λws f n q s hf hn hq mA=>?_⟩;simp only[length_append,length_cons]at hf hn;cases n with
  |zero=>omega
  |succ n =>
   cases f with
   |zero=>omega
   |succ f =>
    have e0:(ts::uF::(d++sU::eg::(b++gC::rF::eg::(e++gC::r))))++q=ts::uF::(d++sU::eg::(b++gC::rF::eg::(e++gC::(r++q)))):=(by simp);rw[e0]at mA;have a1:=eo pz mA;obtain⟨t1,t2,nd,t3,t4,t5⟩:=RA hd a1.rd;rw[a1.nd]at t3 t4;have IP:b.length<ws.length+2/\e.length<ws.length+2:=by
     have h1:=congrArg List.length mA.2.1;simp only[length_drop,length_append,length_cons]at h1;omega
    have a2:=eo zs t1;obtain⟨n1,s1,h1,ku,b1,b2,N,b3,b5⟩:=ihb ws f (ws.length+2) (gC::rF::eg::(e++gC::(r++q))) (aF ws mC (gB ws (aF ws md s))) (by omega) IP.1 D3 a2.rd;obtain⟨n2,rfl⟩:∃n2,n1=n2+1:=⟨n1-1,by omega⟩;rw[vE b1]at h1;have a3:=eo qV b1;have eA:cJ (cM ws (f+1)) ws s=aF ws k8 s1:=by
     show aF ws k8 (ji (kA (cM ws f) ws) ws (ws.length+2) (aF ws mC (gB ws (aF ws md s))))=_;rw[h1]
    rw[<-eA]at a3;have gJ:(aF ws mC (gB ws (aF ws md s))).nodes.length=s.nodes.length+1:=(by rw[a2.nd,t3];simp);rw[gJ]at b5;have Mg:N.length=j:=(by have:=(b5 _ (prefix_refl _)).len;rw[length_map,O0]at this;exact this);have eN:(cJ (cM ws (f+1)) ws s).nodes=s.nodes++nd::N:=(by rw[a3.nd,b3,a2.nd,t3];simp);have eV:(gB ws (aF ws md s)).vars <+: (cJ (cM ws (f+1)) ws s).vars:=(a2.vs.trans b2).trans a3.vs;have eB:(lQ s.nodes.length (cJ (cM ws (f+1)) ws s)).nodes=s.nodes++{ nd with ot:=s.nodes.length+(j+2) }::(N++[{ iN with nx:=s.nodes.length+(j+2) }]):=by
     show ei s.nodes.length (ci iN (cJ (cM ws (f+1)) ws s).adv).nodes.length (ci iN (cJ (cM ws (f+1)) ws s).adv).nodes=_;have e1:(ci iN (cJ (cM ws (f+1)) ws s).adv).nodes=s.nodes++nd::(N++[{ iN with nx:=(s.nodes++nd::N).length+1 }]):=by
      show(cJ (cM ws (f+1)) ws s).nodes++[{ iN with nx:=(cJ (cM ws (f+1)) ws s).nodes.length+1 }]=_;rw[eN];simp
     rw[e1,abk _ _ _ _ _ rfl];have e2:(s.nodes++nd::N).length+1=s.nodes.length+(j+2):=(by simp[Mg];omega);have e3:(s.nodes++nd::(N++[({ iN with nx:=s.nodes.length+(j+2) }:Nd)])).length=s.nodes.length+(j+2):=(by simp[Mg]);rw[e2,e3]
    have mJ:bL ws iP (cJ (cM ws (f+1)) ws s)=true:=(dB qT a3.rd).trans (aT _);have hRb:Rd ws (lQ s.nodes.length (cJ (cM ws (f+1)) ws s)) (eg::(e++gC::(r++q))):=db a3.rd;have a4:=eo zs hRb;obtain⟨n3,s3,h5,vY,d1,d2,N2,d3,d5⟩:=ihe ws f (ws.length+2) (gC::(r++q)) (aF ws mC (lQ s.nodes.length (cJ (cM ws (f+1)) ws s))) (by omega) IP.2 D3 a4.rd;obtain⟨n4,rfl⟩:∃n4,n3=n4+1:=⟨n3-1,by omega⟩;rw[vE d1]at h5;have a5:=eo qV d1;have eBl:cM ws (f+1) (lQ s.nodes.length (cJ (cM ws (f+1)) ws s))=aF ws k8 s3:=by
     show aF ws k8 (ji (kA (cM ws f) ws) ws (ws.length+2) (aF ws mC (lQ s.nodes.length (cJ (cM ws (f+1)) ws s))))=_;rw[h5]
    rw[<-eBl]at a5;have Z3:(aF ws mC (lQ s.nodes.length (cJ (cM ws (f+1)) ws s))).nodes.length=s.nodes.length+(j+2):=(by rw[a4.nd,eB];simp[Mg]);rw[Z3]at d5;have akI:N2.length=i:=(by have:=(d5 _ (prefix_refl _)).len;rw[length_map,hTe]at this;exact this);have eS0:pO (cM ws (f+1)) ws s=Np (cJ (cM ws (f+1)) ws s).nodes.length (cM ws (f+1) (lQ s.nodes.length (cJ (cM ws (f+1)) ws s))):=(by unfold pO;rw[if_pos mJ]);have eN5:(cM ws (f+1) (lQ s.nodes.length (cJ (cM ws (f+1)) ws s))).nodes=(s.nodes++{ nd with ot:=s.nodes.length+(j+2) }::N)++{ iN with nx:=s.nodes.length+(j+2) }::N2:=by
     rw[a5.nd,d3,a4.nd,eB];simp
    have eS:(pO (cM ws (f+1)) ws s).nodes=s.nodes++{ nd with ot:=s.nodes.length+(j+2) }::(N++{ iN with nx:=s.nodes.length+(j+2+i) }::N2):=by
     rw[eS0];show gS (cJ (cM ws (f+1)) ws s).nodes.length (cM ws (f+1) (lQ s.nodes.length (cJ (cM ws (f+1)) ws s))).nodes.length (cM ws (f+1) (lQ s.nodes.length (cJ (cM ws (f+1)) ws s))).nodes=_;rw[eN5,ahi _ _ _ _ _ (by rw[eN];simp)];have e3:(s.nodes++({ nd with ot:=s.nodes.length+(j+2) }:Nd)::N++({ iN with nx:=s.nodes.length+(j+2) }:Nd)::N2).length=s.nodes.length+(j+2+i):=(by simp[Mg,akI];omega);rw[e3];simp
    have hRd:Rd ws (pO (cM ws (f+1)) ws s) (r++q):=(by rw[eS0];exact a5.rd);have eV5:(cJ (cM ws (f+1)) ws s).vars <+: (cM ws (f+1) (lQ s.nodes.length (cJ (cM ws (f+1)) ws s))).vars:=(a4.vs.trans d2).trans a5.vs;have hB:Ma ws s (pO (cM ws (f+1)) ws s) (r++q) ((Wm d (j+2)::(Tb.map (k9 1)++gt (j+2+i)::Te.map (k9 (j+2)))).map (k9 s.nodes.length)):=by
     refine⟨hRd,by rw[eS0];exact((a1.vs.trans t2).trans eV).trans eV5,_,eS,λvs hv=>?_⟩;have hv5:(cM ws (f+1) (lQ s.nodes.length (cJ (cM ws (f+1)) ws s))).vars <+: vs:=(by rw[eS0]at hv;exact hv);have Lf:=eV5.trans hv5;refine⟨RE (t5.up (eV.trans Lf)) t4 (by show _=j+2+s.nodes.length;omega),?_⟩;have g5:=b5 vs (a3.vs.trans Lf);have g6:=d5 vs (a5.vs.trans hv5);show Et vs (s.nodes.length+1) _ ((Tb.map (k9 1)++gt (j+2+i)::Te.map (k9 (j+2))).map (k9 s.nodes.length));rw[map_append,map_cons,jr,jr,Nat.add_comm 1];refine g5.app ⟨zq1 (zq1 ⟨rfl,rfl,by show s.nodes.length+(j+2+i)=j+2+i+s.nodes.length;omega⟩),?_⟩;rw[Mg,show s.nodes.length+1+j+1=s.nodes.length+(j+2) by omega,Nat.add_comm (j+2)];exact g6
    obtain⟨n',s',h7,h8,h9⟩:=ihr ws (f+1) n q (pO (cM ws (f+1)) ws s) (by omega) (by omega) hq hRd;have ec:kA (cM ws (f+1)) ws s=pO (cM ws (f+1)) ws s:=by
     unfold kA;rw[cB pz mA,show aX ts md=true from aT _];rfl
    refine⟨n',s',?_,by simp only[length_append,length_cons];omega,?_⟩
    .rw[vD mA XP,ec];exact h7
    .have:=hB.trans h9;rw[hB.len]at this;rw[map_append,jr (j+2+i)];have e4:s.nodes.length+((Wm d (j+2)::(Tb.map (k9 1)++gt (j+2+i)::Te.map (k9 (j+2)))).map (k9 s.nodes.length)).length=j+2+i+s.nodes.length:=(by simp[O0,hTe];omega);rw[e4]at this;exact this
def plB(a:zY):Bool:=aX a.k LT||aX a.k EM
def tN(ad nx:List Int)(ns:List ByteArray)(vs:List Int)(f:List zY):Bool:=Y3 ad nx (f.filter (λa=>!plB a)) (f.filter plB).length (f.filter plB) ns vs (replicate ad.length true)
def LS(vars hid:List UInt8)(k i:Nat):ByteArray:=if k=1 then dQ (vars.getD i 0) else if k=2 then dQ (hid.getD i 0) else cD
def XS(k:Nat):ByteArray:=if k=1 then bT else if k=2 then kX else if k=3 then LT else EM
def nmA(vars hid:List UInt8)(a:cj):zY:=⟨XS a.k,LS vars hid a.lk a.li,LS vars hid a.rk a.ri⟩
def SX(vars hid:List UInt8)(k i:Nat):Prop:=k<=2/\(k=1->i<vars.length)/\(k=2->i<hid.length)
def pp(s s':PS):Prop:=s.vars <+: s'.vars/\s.hid <+: s'.hid
theorem pp.refl(s:PS):pp s s:=⟨prefix_refl _,prefix_refl _⟩
theorem pp.trans{a b c:PS}(h:pp a b)(h2:pp b c):pp a c:=⟨h.1.trans h2.1,h.2.trans h2.2⟩
theorem Jv{l l':List UInt8}(h:l <+: l'){i:Nat}(hi:i<l.length):l'.getD i 0=l.getD i 0:=by
 obtain⟨t,rfl⟩:=h;simp only[getD_eq_getElem?_getD];rw[getElem?_append_left hi]
theorem rA{s s':PS}(h:pp s s'){k i:Nat}(hb:SX s.vars s.hid k i):LS s'.vars s'.hid k i=LS s.vars s.hid k i:=by
 unfold LS;by_cases h1:k=1
 .rw[if_pos h1,if_pos h1,Jv h.1 (hb.2.1 h1)]
 .rw[if_neg h1,if_neg h1];by_cases h2:k=2
  .rw[if_pos h2,if_pos h2,Jv h.2 (hb.2.2 h2)]
  .rw[if_neg h2,if_neg h2]
theorem SX.gro{s s':PS}(h:pp s s'){k i:Nat}(hb:SX s.vars s.hid k i):SX s'.vars s'.hid k i :=
 ⟨hb.1,λh1=>zq6 (hb.2.1 h1) h.1.length_le,λh1=>zq6 (hb.2.2 h1) h.2.length_le⟩
theorem Jz(l:List UInt8)(c:UInt8):l <+: put l c:=by
 unfold put;split
 .exact prefix_append _ _
 .exact prefix_refl _
theorem VI{l:List UInt8}{c:UInt8}(h:plc l c<l.length):l.getD (plc l c) 0=c:=by
 induction l with
 |nil=>simp at h
 |cons a l ih =>
  have e:plc (a::l) c=if a=c then 0 else plc l c+1:=rfl
  rw[e]at h ⊢;by_cases hc:a=c
  .rw[if_pos hc];simpa using hc
  .rw[if_neg hc]at h ⊢;simpa using ih (by simpa using h)
theorem Jx(l:List UInt8)(c:UInt8):plc l c<(put l c).length/\(put l c).getD (plc l c) 0=c:=by
 have h1:=wS l c;unfold put;by_cases h:plc l c=l.length
 .rw[if_pos h,h];simp
 .rw[if_neg h];exact⟨by omega,VI (by omega)⟩
theorem pR(ws:List ByteArray)(k:ByteArray)(s:PS):pp s (aF ws k s):=by unfold aF;split <;> exact pp.refl s
theorem OE(ws:List ByteArray)(s:PS):pp s (bE ws s):=by
 unfold bE;split
 .exact⟨Jz _ _,prefix_refl _⟩
 .exact pp.refl s
theorem Iv(ws:List ByteArray)(s:PS):pp s (cd ws s):=by
 unfold cd;split
 .exact pp.refl s
 .exact OE ws s
theorem sd(ws:List ByteArray)(s:PS):pp s (fK ws s):=by
 unfold fK;split
 .exact⟨prefix_refl _,Jz _ _⟩
 .exact Iv ws s
theorem Iu(ws:List ByteArray)(s:PS):pp s (fB ws s):=by
 unfold fB;split
 .exact pp.refl s
 .split
  .exact pp.refl s
  .exact pR ws _ s
theorem ZB(ws:List ByteArray)(s:PS):pp s (Bh ws s) :=
 (pR ws _ s).trans ((sd ws _).trans ((pR ws _ _).trans ((sd ws _).trans (pR ws _ _))))
theorem OD(ws:List ByteArray)(s:PS):pp s (eJ ws s):=by
 unfold eJ;split
 .exact pp.refl s
 .split
  .exact ZB ws s.adv
  .exact(sd ws s).trans ((Iu ws _).trans (sd ws _))
theorem Ue(ws:List ByteArray)(n:Nat):∀s,pp s (jl ws n s).2:=by
 induction n with
 |zero=>intro s;exact pp.refl s
 |succ n ih =>
  intro s;simp only[jl];split
  .exact(OD ws s.adv).trans (ih _)
  .exact pp.refl s
theorem JR{ws:List ByteArray}{s:PS}{x:ByteArray}{r:List ByteArray}(h:Rd ws s (x::r))(hx:gQ x=true):
  LS (fK ws s).vars (fK ws s).hid (tX ws s) (tW ws s)=x/\SX (fK ws s).vars (fK ws s).hid (tX ws s) (tW ws s)/\Rd ws (fK ws s) r:=by
 have mA:Rd ws (fK ws s) r:=by
  have:=sI.ok s _ h;rw[j6.2 ⟨x,hx,rfl⟩]at this;exact this
 have SJ:=zE h;have Mj:bL ws kw s=aX x kw:=dB wm h;by_cases hu:lg x=true
 .have hK:tX ws s=2:=by unfold tX;rw[SJ,if_pos hu]
  have hI:tW ws s=plc s.hid (Cq x):=by unfold tW;rw[SJ,if_pos hu]
  have hS:(fK ws s).hid=put s.hid (Cq x):=by unfold fK;rw[SJ,if_pos hu]
  have hp:=Jx s.hid (Cq x);refine⟨?_,?_,mA⟩
  .rw[hK,hI,hS];unfold LS;rw[if_neg (by decide),if_pos rfl,hp.2];exact(GQ hu).symm
  .rw[hK,hI,hS];exact⟨by omega,λh=>by omega,λ_=>hp.1⟩
 .have hK:tX ws s=dT ws s:=by unfold tX;rw[SJ,if_neg hu]
  have hI:tW ws s=fh ws s:=by unfold tW;rw[SJ,if_neg hu]
  have hS:fK ws s=cd ws s:=by unfold fK;rw[SJ,if_neg hu]
  by_cases hn:aX x kw=true
  .have hK2:dT ws s=0:=(by unfold dT;rw[Mj,if_pos hn]);have ce:fh ws s=0:=(by unfold fh;rw[Mj,if_pos hn]);refine⟨?_,?_,mA⟩
   .rw[hK,hI,hK2,ce];unfold LS;rw[if_neg (by decide),if_neg (by decide)];exact(a8.1 hn).symm
   .rw[hK,hI,hK2,ce];exact⟨by omega,λh=>by omega,λh=>by omega⟩
  .have hl:aK x=true:=by
    simp only[gQ,Bool.or_eq_true]at hx;rcases hx with(hx|hx)|hx
    .exact absurd hx hn
    .exact hx
    .exact absurd hx hu
   have hK2:dT ws s=1:=(by unfold dT;rw[Mj,if_neg hn]);have ce:fh ws s=plc s.vars (Cq x):=(by unfold fh;rw[Mj,if_neg hn];unfold mO;rw[SJ,if_pos hl]);have bZ:(fK ws s).vars=put s.vars (Cq x):=(by rw[hS];unfold cd;rw[Mj,if_neg hn];unfold bE;rw[SJ,if_pos hl]);have hp:=Jx s.vars (Cq x);refine⟨?_,?_,mA⟩
   .rw[hK,hI,hK2,ce,bZ];unfold LS;rw[if_pos rfl,hp.2];exact(Bi hl).symm
   .rw[hK,hI,hK2,ce,bZ];exact⟨by omega,λ_=>hp.1,λh=>by omega⟩
theorem abK{ws:List ByteArray}{s:PS}{x:ByteArray}{r:List ByteArray}(h:Rd ws s (x::r))(hx:(aX x bT||aX x kX||aX x LT)=true):
  XS (j8 ws s)=x/\(1<=j8 ws s/\j8 ws s<=3)/\Rd ws (fB ws s) r:=by
 have mA:Rd ws (fB ws s) r:=by
  have:=BE.ok s _ h;rw[sH.2 ⟨x,hx,rfl⟩]at this;exact this
 have h1:bL ws gU s=aX x gU:=dB py h;have h2:bL ws tt s=aX x tt:=dB Dy h;by_cases e1:aX x gU=true
 .have:j8 ws s=1:=by unfold j8;rw[h1,if_pos e1]
  rw[this];exact⟨(a8.1 e1).symm,by omega,mA⟩
 .by_cases e2:aX x tt=true
  .have:j8 ws s=2:=(by unfold j8;rw[h1,if_neg e1,h2,if_pos e2]);rw[this];exact⟨(a8.1 e2).symm,by omega,mA⟩
  .have:j8 ws s=3:=(by unfold j8;rw[h1,if_neg e1,h2,if_neg e2]);rw[this];simp only[Bool.or_eq_true]at hx;rcases hx with(hx|hx)|hx
   .exact absurd hx e1
   .exact absurd hx e2
   .exact⟨(a8.1 hx).symm,by omega,mA⟩
theorem WZ{ws:List ByteArray}{s:PS}{k:ByteArray}{r:List ByteArray}(hk:k.toList≠[])(h:Rd ws s (k::r)):Rd ws (aF ws k s) r:=by
 have:=(df (ws:=ws) hk).ok s _ h;rw[rg]at this;exact this
def xZ(vars hid:List UInt8)(a:cj):Prop:=a.k<=4/\SX vars hid a.lk a.li/\SX vars hid a.rk a.ri
def Qt(vars hid:List UInt8)(l:List cj):List zY:=(l.filter (λa=>a.k != 0)).map (nmA vars hid)
theorem WT{ws:List ByteArray}{s:PS}{p q:List ByteArray}(h:Rd ws s (p++q))(hp:yB p=true):
  pce p=Qt (eJ ws s).vars (eJ ws s).hid [qw ws s]/\xZ (eJ ws s).vars (eJ ws s).hid (qw ws s)/\Rd ws (eJ ws s) q:=by
 have mA:Rd ws (eJ ws s) q:=by
  have:=nE.ok s _ h;rw[jY.2 ⟨p,hp,rfl⟩]at this;exact this
 match p,hp with
 |[a],hp =>
  have ea:a=qA:=a8.1 (show aX a qA=true from hp);subst ea;have Mj:bL ws pW s=true:=by
   rw[dB AY h];exact aT _
  have hA:qw ws s=⟨0,0,0,0,0⟩:=by unfold qw;rw[if_pos Mj]
  rw[hA];exact⟨rfl,⟨by show 0<=4;omega,⟨by show 0<=2;omega,λh=>(by cases h),λh=>(by cases h)⟩,⟨by show 0<=2;omega,λh=>(by cases h),λh=>(by cases h)⟩⟩,mA⟩
 |[a,b,c],hp =>
  simp only[yB,Bool.and_eq_true]at hp;obtain⟨⟨ha,hc⟩,hb⟩:=hp;have h':Rd ws s (a::b::c::q):=h;have aH:bL ws pW s=false:=by
   rw[dB AY h'];exact bm (lC ha (aq (by simp[pW,cD])) rfl rfl)
  have jQ:bL ws IU s=false:=by
   rw[dB PY h'];exact bm (lC ha (aq (by simp[IU,cD])) rfl rfl)
  obtain⟨t1,t2,t3⟩:=JR h' ha;obtain⟨r1,r2,r3⟩:=abK t3 hb;obtain⟨u1,u2,u3⟩:=JR r3 hc;have hA:qw ws s=⟨j8 ws (fK ws s),tX ws s,tW ws s,tX ws (fB ws (fK ws s)),tW ws (fB ws (fK ws s))⟩:=by
   unfold qw;rw[if_neg (by rw[aH];simp),if_neg (by rw[jQ];simp)]
  have hS:eJ ws s=fK ws (fB ws (fK ws s)):=by
   unfold eJ;rw[if_neg (by rw[aH];simp),if_neg (by rw[jQ];simp)]
  have hg:pp (fK ws s) (fK ws (fB ws (fK ws s))):=(Iu ws _).trans (sd ws _);refine⟨?_,?_,mA⟩
  .rw[hA,hS];have hk:((j8 ws (fK ws s)) != 0)=true:=(by rw[bne_iff_ne];omega);simp only[Qt,filter_cons,hk,if_true,filter_nil,map_cons,map_nil];show [(⟨b,a,c⟩:zY)]=[⟨_,_,_⟩];rw[r1,rA hg t2,t1,u1]
  .rw[hA,hS];exact⟨by show j8 ws (fK ws s)<=4;omega,t2.gro hg,u2⟩
 |[a,b,c,d,e,f],hp =>
  simp only[yB,Bool.and_eq_true,a8]at hp;obtain⟨⟨⟨⟨rfl,rfl⟩,rfl⟩,rfl⟩,hc,he⟩:=hp;have h':Rd ws s (EM::uF::c::WW::e::sU::q):=h;have aH:bL ws pW s=false:=by
   rw[dB AY h'];exact bm (aq (by simp[pW,EM]))
  have jQ:bL ws IU s=true:=by
   rw[dB PY h'];exact aT _
  have h1:=db h';have h2:Rd ws (qZ ws s.adv) (c::WW::e::sU::q):=WZ uw h1;obtain⟨t1,t2,t3⟩:=JR h2 hc;have h3:Rd ws (pZ ws s.adv) (e::sU::q):=WZ wj t3;obtain⟨u1,u2,u3⟩:=JR h3 he;have hA:qw ws s=XT ws s.adv:=by unfold qw;rw[if_neg (by rw[aH];simp),if_pos jQ]
  have hS:eJ ws s=Bh ws s.adv:=by unfold eJ;rw[if_neg (by rw[aH];simp),if_pos jQ]
  have Pd:pp (fK ws (pZ ws s.adv)) (Bh ws s.adv):=pR ws _ _;have hg:pp (fK ws (qZ ws s.adv)) (Bh ws s.adv):=(pR ws nj _).trans ((sd ws _).trans Pd);refine⟨?_,?_,mA⟩
  .rw[hA,hS];show [(⟨EM,c,e⟩:zY)]=[⟨XS 4,LS _ _ (tX ws (qZ ws s.adv)) (tW ws (qZ ws s.adv)),LS _ _ (tX ws (pZ ws s.adv)) (tW ws (pZ ws s.adv))⟩];rw[rA hg t2,t1,rA Pd u2,u1];rfl
  .rw[hA,hS];exact⟨zq4 4,t2.gro hg,u2.gro Pd⟩
theorem Vx(vars hid:List UInt8)(a b:List cj):Qt vars hid (a++b)=Qt vars hid a++Qt vars hid b:=by simp[Qt]
theorem Vy{s s':PS}(h:pp s s'){l:List cj}(hl:∀a∈l,xZ s.vars s.hid a):Qt s'.vars s'.hid l=Qt s.vars s.hid l:=by
 unfold Qt;apply map_congr_left;intro a ha;have:=hl a (mem_filter.1 ha).1;unfold nmA;rw[rA h this.2.1,rA h this.2.2]
theorem xZ.gro{s s':PS}(h:pp s s'){a:cj}(ha:xZ s.vars s.hid a):xZ s'.vars s'.hid a:=⟨ha.1,ha.2.1.gro h,ha.2.2.gro h⟩
theorem aeM{ws:List ByteArray}{f:List ByteArray}(hf:oL f):∀{n:Nat} {s:PS} {q:List ByteArray},Rd ws s (f++q)->f.length<=n->gu bK q=false ->
  ∃al,SU [] f=some al/\al=Qt (jl ws n (eJ ws s)).2.vars (jl ws n (eJ ws s)).2.hid (qw ws s::(jl ws n (eJ ws s)).1)/\∀a∈qw ws s::(jl ws n (eJ ws s)).1,xZ (jl ws n (eJ ws s)).2.vars (jl ws n (eJ ws s)).2.hid a:=by
 induction hf using oL.ind with
 |@one p hp =>
  intro n s q h hn hq;obtain⟨h1,h2,h3⟩:=WT h hp;have e:jl ws n (eJ ws s)=([],eJ ws s):=by
   cases n with
   |zero=>rfl
   |succ n=>simp only[jl];rw[dB oe h3,show gu dE q=false from hq,if_neg (by simp)]
  rw[e];refine⟨pce p,?_,h1,λa ha=>?_⟩
  .have:=JE (yS hp) [] [];rw[append_nil]at this;rw[this];simp only[SU,nil_append,if_pos hp]
  .simp only[mem_singleton]at ha;subst ha;exact h2
 |@more p r hp _ ih =>
  intro n s q h hn hq;rw[append_assoc]at h;obtain⟨h1,h2,h3⟩:=WT h hp;have h3':Rd ws (eJ ws s) (bK::(r++q)):=h3;simp only[length_append,length_cons]at hn;cases n with
  |zero=>omega
  |succ n =>
   have e:jl ws (n+1) (eJ ws s)=(qw ws (eJ ws s).adv::(jl ws n (eJ ws (eJ ws s).adv)).1,(jl ws n (eJ ws (eJ ws s).adv)).2):=by
    simp only[jl];rw[dB oe h3',show gu dE (bK::(r++q))=true from aT _,if_pos rfl]
   obtain⟨al,g1,g2,g3⟩:=ih (n:=n) (db h3') (by omega) hq;rw[e];have hg:pp (eJ ws s) (jl ws n (eJ ws (eJ ws s).adv)).2:=(OD ws (eJ ws s).adv).trans (Ue ws n _);refine⟨pce p++al,?_,?_,λa ha=>?_⟩
   .rw[JE (yS hp)];simp only[SU,nil_append,aT,if_true,if_pos hp,g1];rfl
   .rw[show qw ws s::(qw ws (eJ ws s).adv::(jl ws n (eJ ws (eJ ws s).adv)).1)=[qw ws s]++(qw ws (eJ ws s).adv::(jl ws n (eJ ws (eJ ws s).adv)).1) from rfl,Vx,<-g2,h1];rw[Vy hg (λa ha=>by simp only[mem_singleton]at ha;subst ha;exact h2)]
   .rcases mem_cons.1 ha with rfl|ha
    .exact h2.gro hg
    .exact g3 a ha
structure tZ(s:PS):Prop where
 nv:s.vars.Nodup
 nh:s.hid.Nodup
 lv:∀c∈s.vars,aK (dQ c)=true
 lh:∀c∈s.hid,lg (dQ c)=true
theorem VK{l:List UInt8}{c:UInt8}(h:c∈l):plc l c<l.length:=by
 induction l with
 |nil=>cases h
 |cons a l ih =>
  show(if a=c then 0 else plc l c+1)<_;by_cases e:a=c
  .rw[if_pos e];simp
  .rw[if_neg e];rcases mem_cons.1 h with h|h
   .exact absurd h.symm e
   .have:=ih h;simp;omega
theorem Jy{l:List UInt8}{c x:UInt8}(h:x∈put l c):x∈l\/x=c:=by
 unfold put at h;split at h
 .rcases mem_append.1 h with h|h
  .exact zq0 h
  .exact zq1 (by simpa using h)
 .exact zq0 h
theorem zG{l:List UInt8}{c:UInt8}(h:l.Nodup):(put l c).Nodup:=by
 unfold put;split
 .rename_i he;rw[nodup_append];refine⟨h,by simp,λa ha b hb=>?_⟩;simp only[mem_singleton]at hb;subst hb;rintro rfl;have:=VK ha;omega
 .exact h
theorem Js{l:List UInt8}(h:l.Nodup){i:Nat}(hi:i<l.length):plc l (l.getD i 0)=i:=by
 induction l generalizing i with
 |nil=>simp at hi
 |cons a l ih =>
  have hn:=nodup_cons.1 h;cases i with
  |zero=>show(if a=a then 0 else _)=0;rw[if_pos rfl]
  |succ i =>
   have lS:i<l.length:=(by simpa using hi);show(if a=l.getD i 0 then 0 else plc l (l.getD i 0)+1)=i+1;rw[if_neg,ih hn.2 lS];rintro rfl;apply hn.1;have:l.getD i 0=l[i]:=(by simp[lS]);rw[this];exact getElem_mem lS
theorem qa{ws:List ByteArray}{k:ByteArray}{s:PS}(h:tZ s):tZ (aF ws k s):=by unfold aF;split <;> exact⟨h.nv,h.nh,h.lv,h.lh⟩
theorem Qi{ws:List ByteArray}{s:PS}(h:tZ s):tZ (bE ws s):=by
 unfold bE;split
 .rename_i hl;refine⟨zG h.nv,h.nh,λc hc=>?_,h.lh⟩;rcases Jy hc with hc|rfl
  .exact h.lv c hc
  .rw[<-Bi hl];exact hl
 .exact⟨h.nv,h.nh,h.lv,h.lh⟩
theorem Je{ws:List ByteArray}{s:PS}(h:tZ s):tZ (cd ws s):=by
 unfold cd;split
 .exact⟨h.nv,h.nh,h.lv,h.lh⟩
 .exact Qi h
theorem Bl{ws:List ByteArray}{s:PS}(h:tZ s):tZ (fK ws s):=by
 unfold fK;split
 .rename_i hl;refine⟨h.nv,zG h.nh,h.lv,λc hc=>?_⟩;rcases Jy hc with hc|rfl
  .exact h.lh c hc
  .rw[<-GQ hl];exact hl
 .exact Je h
theorem Vk{ws:List ByteArray}{s:PS}(h:tZ s):tZ (fB ws s):=by
 unfold fB;split
 .exact⟨h.nv,h.nh,h.lv,h.lh⟩
 .split
  .exact⟨h.nv,h.nh,h.lv,h.lh⟩
  .exact qa h
theorem Qg{ws:List ByteArray}{s:PS}(h:tZ s):tZ (eJ ws s):=by
 unfold eJ;split
 .exact⟨h.nv,h.nh,h.lv,h.lh⟩
 .split
  .have h1:tZ s.adv:=⟨h.nv,h.nh,h.lv,h.lh⟩;exact qa (Bl (qa (Bl (qa h1))))
  .exact Bl (Vk (Bl h))
theorem Vj{ws:List ByteArray}(n:Nat):∀{s:PS},tZ s->tZ (jl ws n s).2:=by
 induction n with
 |zero=>intro s h;exact h
 |succ n ih =>
  intro s h;simp only[jl];split
  .exact ih (Qg ⟨h.nv,h.nh,h.lv,h.lh⟩)
  .exact h
theorem Qh{ws:List ByteArray}{s:PS}(h:tZ s):tZ (rH ws s):=Vj _ (Qg h)
def SgN(x:List UInt8)(W:List (List UInt8)):Prop:=∀r,je (x++r)=(je r).map (W++·)
section
variable {x x':List UInt8} {W W':List (List UInt8)}
theorem Rj{c:UInt8}(h1:mg c=false)(h2:c≠45)(h3:c≠33)(h4:xh c.toNat=true)(h5:¬ (c=32\/c=10)):SgN [c] [[c]]:=λr=>by
 have hl:¬ 0<bF (c::r):=by unfold bF;rw[takeWhile_cons,h1];simp
 have h6:¬ ((c::r).take 2=[45,62]\/(c::r).take 2=[33,61]):=by
  rw[take_succ_cons];rintro(e|e) <;> injection e with e _
  .exact h2 e
  .exact h3 e
 have hw:aR (c::r)=1:=by
  unfold aR;rw[if_neg hl,if_neg h6];show(if xh c.toNat=true then 1 else 0)=1;rw[h4];rfl
 rw[show [c]++r=c::r from rfl,lJ c r h5 (by rw[hw];simp),hw];rfl
def bA(x:List UInt8):ByteArray:=⟨x.toArray⟩
def w3(x k y:List UInt8):List (List UInt8):=[x,k,y]
def w6(x y:List UInt8):List (List UInt8):=[[108,115],[40],x,[44],y,[41]]
end
