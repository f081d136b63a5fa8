import Derived.Test.YtciihepbeacppaaGreatEF
namespace Go.Proofs.YtciihepbeacppaaGreat
open Go.RowKit List
set_option linter.unusedVariables false
def xp(vs:List UInt8)(x:ByteArray)(i:Nat):Prop:=aI x=true/\vs[i]?=some (zE x)
def Pd(vs:List UInt8)(y:ByteArray)(k i:Nat):Prop:=(y=b9/\k=0)\/(k=1/\xp vs y i)
theorem xp.up{vs vs':List UInt8}{x:ByteArray}{i:Nat}(h:xp vs x i)(hp:vs <+: vs'):xp vs' x i:=by
 obtain⟨r,rfl⟩:=hp;refine⟨h.1,?_⟩;rw[getElem?_append_left (List.getElem?_eq_some_iff.1 h.2).1];exact h.2
theorem Pd.up{vs vs':List UInt8}{x:ByteArray}{k i:Nat}(h:Pd vs x k i)(hp:vs <+: vs'):Pd vs' x k i:=by
 rcases h with h|h
 .exact zq0 h
 .exact zq1 ⟨h.1,h.2.up hp⟩
def TI(vs:List UInt8)(nd:Nd)(i:oe):Prop :=
 i.op=qV/\((i.cond=bG/\nd.op=7)\/(i.cond=bM/\nd.op=8/\xp vs i.x nd.v/\Pd vs i.y nd.ak nd.ai)\/(i.cond=jB/\nd.op=9/\xp vs i.x nd.v/\Pd vs i.y nd.ak nd.ai))
def SI(vs:List UInt8)(nd:Nd)(i:oe):Prop :=
 (i.op=b9/\nd.op=1/\xp vs i.x nd.v/\nd.ak=0) \/
 (i.op=Ac/\nd.op=1/\xp vs i.x nd.v/\nd.ak=1/\xp vs i.y nd.ai) \/
 (i.op=kG/\nd.op=4/\xp vs i.x nd.v) \/
 (i.op=Bb/\nd.op=2/\xp vs i.x nd.v/\nd.ak=1/\xp vs i.y nd.ai) \/
 (i.op=uk/\nd.op=3/\xp vs i.x nd.v/\Pd vs i.y nd.ak nd.ai) \/
 (i.op=eX/\nd.op=5/\xp vs i.x nd.v) \/
 (i.op=fj/\nd.op=6)
def NI(vs:List UInt8)(j:Nat)(nd:Nd)(i:oe):Prop :=
 (SI vs nd i/\nd.nx=j+1)\/(TI vs nd i/\nd.nx=j+1/\nd.ot=i.to)\/(i.op=BZ/\nd.op=10/\nd.nx=i.to)
def BV(vs:List UInt8):Nat->List Nd->List oe->Prop
 |_,[],[]=>True
 |n,a::N,b::C=>NI vs n a b/\BV vs (n+1) N C
 |_,_,_=>False
theorem BV.len{vs:List UInt8}:∀{n:Nat} {N:List Nd} {C:List oe},BV vs n N C->N.length=C.length
 |_,[],[],_=>rfl
 |_,_::_,_::_,h=>by simp[h.2.len]
 |_,[],_::_,h=>by cases h
 |_,_::_,[],h=>by cases h
theorem BV.app{vs:List UInt8}{N':List Nd}{C':List oe}:∀{n:Nat} {N:List Nd} {C:List oe},BV vs n N C->BV vs (n+N.length) N' C'->BV vs n (N++N') (C++C')
 |_,[],[],_,h=>h
 |n,_::N,_::_,h,h'=>⟨h.1,h.2.app (by rw[length_cons,show n+(N.length+1)=n+1+N.length by omega]at h';exact h')⟩
 |_,[],_::_,h,_=>by cases h
 |_,_::_,[],h,_=>by cases h
theorem BV.get{vs:List UInt8}:∀{n:Nat} {N:List Nd} {C:List oe},BV vs n N C->∀j nd i,N[j]?=some nd->C[j]?=some i->NI vs (n+j) nd i
 |_,[],[],_,_,_,_,h1,_=>by simp at h1
 |n,_::_,_::_,h,0,_,_,h1,h2=>by
  simp only[getElem?_cons_zero,Option.some.injEq]at h1 h2;subst h1;subst h2;exact h.1
 |n,_::_,_::_,h,j+1,_,_,h1,h2=>by
  simp only[getElem?_cons_succ]at h1 h2;have:=h.2.get j _ _ h1 h2;rw[show n+1+j=n+(j+1) by omega]at this;exact this
 |_,[],_::_,h,_,_,_,_,_=>by cases h
 |_,_::_,[],h,_,_,_,_,_=>by cases h
theorem wN{α:Type}(f:α->α)(t:α)(R:List α):∀A:List α,(A++t::R).modify A.length f=A++f t::R
 |[]=>rfl
 |a::A=>by simp[modify_succ_cons,wN f t R A]
theorem tL{α:Type}(f:α->α)(t:α)(R A:List α){n:Nat}(h:n=A.length):(A++t::R).modify n f=A++f t::R:=by subst h;exact wN f t R A
structure xq(ws:List ByteArray)(s s':PS)(r:List ByteArray):Prop where
 rd:Rd ws s' r
 nd:s'.nodes=s.nodes
 vs:s.vars <+: s'.vars
theorem xq.trans{ws:List ByteArray}{s s' s'':PS}{r r':List ByteArray}(h:xq ws s s' r)(k:xq ws s' s'' r'):xq ws s s'' r':=⟨k.rd,k.nd.trans h.nd,h.vs.trans k.vs⟩
theorem il{ws:List ByteArray}{s:PS}{x:ByteArray}{r:List ByteArray}(h:Rd ws s (x::r)):xq ws s s.adv r:=⟨cM h,rfl,prefix_refl _⟩
theorem ci{ws:List ByteArray}{s:PS}{k x:ByteArray}{r:List ByteArray}(hk:k.toList≠[])(h:Rd ws s (x::r)):bH ws k s=aV x k:=cV hk h
theorem dI{ws:List ByteArray}{s:PS}{k:ByteArray}{r:List ByteArray}(hk:k.toList≠[])(h:Rd ws s (k::r)):xq ws s (aF ws k s) r:=by
 unfold aF;rw[ci hk h,aT,if_pos rfl];exact il h
theorem Ny(l:List UInt8)(c:UInt8):l <+: put l c:=by
 unfold put;split
 .exact prefix_append _ _
 .exact prefix_refl _
theorem No(l:List UInt8)(c:UInt8)(h:plc l c≠l.length):l[plc l c]?=some c:=by
 induction l with
 |nil=>exact absurd rfl h
 |cons x r ih =>
  simp only[plc]at h ⊢;by_cases hx:x=c
  .rw[if_pos hx];simp[hx]
  .rw[if_neg hx]at h ⊢;rw[getElem?_cons_succ];exact ih (by simpa using h)
theorem Nw(l:List UInt8)(c:UInt8):(put l c)[plc l c]?=some c:=by
 unfold put;by_cases h:plc l c=l.length
 .rw[if_pos h,h];simp
 .rw[if_neg h];exact No l c h
theorem uj{ws:List ByteArray}{s:PS}{x:ByteArray}{r:List ByteArray}(h:Rd ws s (x::r))(hx:aI x=true):xq ws s (bz ws s) r/\xp (bz ws s).vars x (lq ws s):=by
 have e1:bz ws s={ s with pos:=s.pos+1,vars:=put s.vars (zE x) }:=by unfold bz;rw[wT h,if_pos hx]
 have e2:lq ws s=plc s.vars (zE x):=by unfold lq;rw[wT h,if_pos hx]
 rw[e1,e2];exact⟨⟨⟨h.1,(cM h).2⟩,rfl,Ny _ _⟩,hx,Nw _ _⟩
theorem jq:aI b9=false:=rfl
theorem zh{ws:List ByteArray}{s:PS}{x:ByteArray}{r:List ByteArray}(h:Rd ws s (x::r))(hx:x=b9\/aI x=true):xq ws s (bU ws s) r/\Pd (bU ws s).vars x (du ws s) (d7 ws s):=by
 rcases hx with rfl|hx
 .have e:bH ws jg s=true:=(ci tB h).trans (aT _);unfold bU du d7;rw[e,if_pos rfl,if_pos rfl];exact⟨il h,zq0 ⟨rfl,rfl⟩⟩
 .have e:bH ws jg s=false:=(ci tB h).trans (bm (dY hx jq));unfold bU du d7;rw[e,if_neg (by simp),if_neg (by simp),if_neg (by simp)];exact⟨(uj h hx).1,zq1 ⟨rfl,(uj h hx).2⟩⟩
theorem N0{ws:List ByteArray}{s t:PS}{r:List ByteArray}(nd:Nd)(h:xq ws s t r):Rd ws (bY nd t) r/\(bY nd t).nodes=s.nodes++[{ nd with nx:=s.nodes.length+1 }]/\s.vars <+: (bY nd t).vars:=by
 refine⟨h.rd,?_,h.vs⟩;show t.nodes++[{ nd with nx:=t.nodes.length+1 }]=_;rw[h.nd]
theorem adO{ws:List ByteArray}{s:PS}{c q:List ByteArray}(hc:nB c)(h:Rd ws s (c++q)):xq ws s (q9 ws s) q/\TI (q9 ws s).vars (zx ws s) (Jn c)/\(zx ws s).ot=0/\(Jn c).to=0:=by
 cases hc using nB.ind with
 |star =>
  have e:bH ws cY s=true:=(ci mw h).trans (aT _);unfold q9 zx;rw[e,if_pos rfl,if_pos rfl];exact⟨il h,⟨rfl,zq0 ⟨rfl,rfl⟩⟩,rfl,rfl⟩
 |@two a b c ha hb hc =>
  have e:bH ws cY s=false:=(ci mw h).trans (bm (dY ha rfl));have h1:=uj h ha;have Hf:Rd ws (bz ws s) (b::c::q):=h1.1.rd;have hT:xq ws (bz ws s) (v7 ws (bz ws s)) (c::q)/\((b=jB/\OL ws (bz ws s)=9)\/(b=bM/\OL ws (bz ws s)=8)):=by
   unfold v7 OL;rcases hb with rfl|rfl
   .have e2:bH ws qR (bz ws s)=false:=(ci AU Hf).trans (bm (am (by simp[bM,qR])));rw[e2,if_neg (by simp),if_neg (by simp)];exact⟨dI nj Hf,zq1 ⟨rfl,rfl⟩⟩
   .have e2:bH ws qR (bz ws s)=true:=(ci AU Hf).trans (aT _);rw[e2,if_pos rfl,if_pos rfl];exact⟨il Hf,zq0 ⟨rfl,rfl⟩⟩
  have h3:=zh hT.1.rd hc;unfold q9 zx;rw[e,if_neg (by simp),if_neg (by simp)];refine⟨(h1.1.trans hT.1).trans h3.1,⟨rfl,?_⟩,rfl,rfl⟩;rcases hT.2 with⟨rfl,h9⟩|⟨rfl,h8⟩
  .exact zq1 (zq1 ⟨rfl,h9,h1.2.up (hT.1.vs.trans h3.1.vs),h3.2⟩)
  .exact zq1 (zq0 ⟨rfl,h8,h1.2.up (hT.1.vs.trans h3.1.vs),h3.2⟩)
theorem TI.up{vs vs':List UInt8}{nd:Nd}{i:oe}(h:TI vs nd i)(hp:vs <+: vs'):TI vs' nd i:=by
 obtain⟨h0,h1⟩:=h;refine⟨h0,?_⟩;rcases h1 with h1|⟨a,b,c,d⟩|⟨a,b,c,d⟩
 .exact zq0 h1
 .exact zq1 (zq0 ⟨a,b,c.up hp,d.up hp⟩)
 .exact zq1 (zq1 ⟨a,b,c.up hp,d.up hp⟩)
theorem SI.up{vs vs':List UInt8}{nd:Nd}{i:oe}(h:SI vs nd i)(hp:vs <+: vs'):SI vs' nd i:=by
 rcases h with⟨a,b,c,d⟩|⟨a,b,c,d,e⟩|⟨a,b,c⟩|⟨a,b,c,d,e⟩|⟨a,b,c,d⟩|⟨a,b,c⟩|h
 .exact zq0 ⟨a,b,c.up hp,d⟩
 .exact zq1 (zq0 ⟨a,b,c.up hp,d,e.up hp⟩)
 .exact zq1 (zq1 (zq0 ⟨a,b,c.up hp⟩))
 .exact zq1 (zq1 (zq1 (zq0 ⟨a,b,c.up hp,d,e.up hp⟩)))
 .exact zq1 (zq1 (zq1 (zq1 (zq0 ⟨a,b,c.up hp,d.up hp⟩))))
 .exact zq1 (zq1 (zq1 (zq1 (zq1 (zq0 ⟨a,b,c.up hp⟩)))))
 .exact zq1 (zq1 (zq1 (zq1 (zq1 (zq1 h)))))
theorem N1{ws:List ByteArray}{s:PS}{c q:List ByteArray}(hc:nB c)(h:Rd ws s (lw::(c++kS::q))):
  Rd ws (fB ws s) q/\s.vars <+: (fB ws s).vars/\∃nd,(fB ws s).nodes=s.nodes++[nd]/\nd.nx=s.nodes.length+1/\TI (fB ws s).vars nd (Jn c):=by
 have h1:=dI rS h;have h2:=adO hc h1.rd;have h3:=dI oT h2.1.rd;obtain⟨g1,g2,g3⟩:=N0 (zx ws (aF ws fh s)) ((h1.trans h2.1).trans h3);exact⟨g1,g3,_,g2,rfl,h2.2.1.up h3.vs⟩
structure NdE(a b:Nd):Prop where
 op:b.op=a.op
 nx:b.nx=a.nx
 ot:a.op=7\/a.op=8\/a.op=9->b.ot=a.ot
 ef:∀f,cN b f=cN a f
section
variable {vs:List UInt8}
theorem xp.fn(hn:vs.Nodup){x:ByteArray}{i j:Nat}(h:xp vs x i)(h':xp vs x j):j=i:=by
 have hi:i<vs.length:=(List.getElem?_eq_some_iff.1 h.2).1;exact((getElem?_inj hi hn).1 (h.2.trans h'.2.symm)).symm
theorem Pd.fn(hn:vs.Nodup){y:ByteArray}{k i k' i':Nat}(h:Pd vs y k i)(h':Pd vs y k' i')(f:CF):qE f k' i'=qE f k i:=by
 rcases h with⟨rfl,rfl⟩|⟨rfl,h⟩ <;> rcases h' with⟨h1,rfl⟩|⟨rfl,h'⟩
 .rfl
 .have:=h'.1;rw[jq]at this;cases this
 .have:=h.1;rw[h1,jq]at this;cases this
 .rw[h.fn hn h']
theorem sR{a b:Nd}(ho:b.op=a.op)(hv:a.op≠0->a.op≠6->a.op≠7->a.op≠10->b.v=a.v)(hc:a.op=1\/a.op=3\/a.op=8\/a.op=9->∀f,qE f b.ak b.ai=qE f a.ak a.ai)(hi:a.op=2->b.ai=a.ai)(f:CF):cN b f=cN a f:=by
 unfold cN;rw[ho];by_cases o0:a.op=0
 .rw[if_pos o0,if_pos o0]
 rw[if_neg o0,if_neg o0];by_cases o1:a.op=1
 .rw[if_pos o1,if_pos o1,hv (by omega) (by omega) (by omega) (by omega),hc (zq0 o1)]
 rw[if_neg o1,if_neg o1];by_cases o2:a.op=2
 .rw[if_pos o2,if_pos o2,hi o2];have e:(λg=>jd g b)=λg=>jd g a:=funext λg=>by unfold jd;rw[hv (by omega) (by omega) (by omega) (by omega),hi o2]
  rw[e]
 rw[if_neg o2,if_neg o2];by_cases o3:a.op=3
 .have Io:=hv (by omega) (by omega) (by omega) (by omega);have e:(λg=>uU g b)=λg=>uU g a:=funext λg=>by unfold uU;rw[Io,hc (zq1 (zq0 o3))]
  rw[if_pos o3,if_pos o3,Io,e]
 rw[if_neg o3,if_neg o3];by_cases o4:a.op=4
 .rw[if_pos o4,if_pos o4,hv (by omega) (by omega) (by omega) (by omega)]
 rw[if_neg o4,if_neg o4];by_cases o5:a.op=5
 .rw[if_pos o5,if_pos o5,hv (by omega) (by omega) (by omega) (by omega)]
 rw[if_neg o5,if_neg o5];by_cases o7:a.op=7
 .rw[if_pos o7,if_pos o7]
 rw[if_neg o7,if_neg o7];have rg:(a.op=8\/a.op=9)->og f b=og f a:=λh89=>by
  unfold og;simp only;rw[hv (by omega) (by omega) (by omega) (by omega),hc (by omega)]
 by_cases o8:a.op=8
 .rw[if_pos o8,if_pos o8,rg (zq0 o8)]
 rw[if_neg o8,if_neg o8];by_cases o9:a.op=9
 .rw[if_pos o9,if_pos o9,rg (zq1 o9)]
 rw[if_neg o9,if_neg o9]
theorem Y7{x y z:ByteArray}(h:z=x)(h':z=y)(hd:x.data.toList≠y.data.toList):False:=hd (by rw[<-h,<-h'])
theorem adN(hn:vs.Nodup){a b:Nd}{i:oe}(h:SI vs a i)(h':SI vs b i):b.op=a.op/\(∀f,cN b f=cN a f)/\¬ (a.op=7\/a.op=8\/a.op=9):=by
 rcases h with⟨a1,a2,a3,a4⟩|⟨a1,a2,a3,a4,a5⟩|⟨a1,a2,a3⟩|⟨a1,a2,a3,a4,a5⟩|⟨a1,a2,a3,a4⟩|⟨a1,a2,a3⟩|⟨a1,a2⟩ <;>
 rcases h' with⟨b1,b2,b3,b4⟩|⟨b1,b2,b3,b4,b5⟩|⟨b1,b2,b3⟩|⟨b1,b2,b3,b4,b5⟩|⟨b1,b2,b3,b4⟩|⟨b1,b2,b3⟩|⟨b1,b2⟩ <;>
 first
 |(refine(Y7 a1 b1 ?_).elim;simp[b9,Ac,kG,Bb,uk,eX,fj];done)
 |(refine⟨by rw[a2,b2],sR (by rw[a2,b2]) (λ_ _ _ _=>?_) (λho f=>?_) (λho=>?_),by omega⟩ <;>
   first
   |exact a3.fn hn b3
   |(exfalso;omega)
   |exact a5.fn hn b5
   |exact a4.fn hn b4 f
   |(rw[a4,b4,a5.fn hn b5])
   |(rw[a4,b4];rfl))
theorem adP(hn:vs.Nodup){a b:Nd}{i:oe}(h:TI vs a i)(h':TI vs b i):b.op=a.op/\∀f,cN b f=cN a f:=by
 obtain⟨-,h⟩:=h;obtain⟨-,h'⟩:=h';rcases h with⟨a1,a2⟩|⟨a1,a2,a3,a4⟩|⟨a1,a2,a3,a4⟩ <;> rcases h' with⟨b1,b2⟩|⟨b1,b2,b3,b4⟩|⟨b1,b2,b3,b4⟩ <;>
 first
 |(refine(Y7 a1 b1 ?_).elim;simp[bG,bM,jB];done)
 |(refine⟨by rw[a2,b2],sR (by rw[a2,b2]) (λ_ _ _ _=>?_) (λho f=>?_) (λho=>?_)⟩ <;>
   first
   |exact a3.fn hn b3
   |(exfalso;omega)
   |exact a4.fn hn b4 f)
theorem BE{a:Nd}{i:oe}(h:SI vs a i)(e:i.op=qV\/i.op=BZ):False:=by
 rcases h with⟨a1,-⟩|⟨a1,-⟩|⟨a1,-⟩|⟨a1,-⟩|⟨a1,-⟩|⟨a1,-⟩|⟨a1,-⟩ <;> rcases e with e|e <;> exact Y7 a1 e (by simp[b9,Ac,kG,Bb,uk,eX,fj,qV,BZ])
theorem M4(hn:vs.Nodup){j:Nat}{a b:Nd}{i:oe}(h:NI vs j a i)(h':NI vs j b i):NdE a b:=by
 rcases h with⟨a1,a2⟩|⟨a1,a2,a3⟩|⟨a1,a2,a3⟩ <;> rcases h' with⟨b1,b2⟩|⟨b1,b2,b3⟩|⟨b1,b2,b3⟩
 .obtain⟨h1,h2,h3⟩:=adN hn a1 b1;exact⟨h1,by rw[a2,b2],λht=>absurd ht h3,h2⟩
 .exact(BE a1 (zq0 b1.1)).elim
 .exact(BE a1 (zq1 b1)).elim
 .exact(BE b1 (zq0 a1.1)).elim
 .obtain⟨h1,h2⟩:=adP hn a1 b1;exact⟨h1,by rw[a2,b2],λ_=>by rw[a3,b3],h2⟩
 .exact(Y7 a1.1 b1 (by simp[qV,BZ])).elim
 .exact(BE b1 (zq1 a1)).elim
 .exact(Y7 b1.1 a1 (by simp[qV,BZ])).elim
 .exact⟨by rw[a2,b2],by rw[a3,b3],λht=>by omega,sR (by rw[a2,b2]) (λ_ _ _ h=>absurd a2 h) (λho=>by omega) (λho=>by omega)⟩
end
structure PE(c c2:Cd)(m:Nat):Prop where
 ag:∀i,i<m->NdE (c.nds.getD i aK) (c2.nds.getD i aK)
 hd:∀i,i<m->c2.hd.getD i false=c.hd.getD i false
 lp:c2.lp=c.lp
structure gT(m:Nat)(s s2:Sr):Prop where
 kn:∀i,i<m->bf s2 i=bf s i
 wr:∀i,i<m->s2.wr.getD i []=s.wr.getD i []
section
variable {c c2:Cd} {m N N2 n:Nat} {f:CF} {s s2 s3:Sr}
theorem gT.refl(m:Nat)(s:Sr):gT m s s:=⟨λ_ _=>rfl,λ_ _=>rfl⟩
theorem gT.trans(h:gT m s s2)(h':gT m s2 s3):gT m s s3:=⟨λi hi=>(h'.kn i hi).trans (h.kn i hi),λi hi=>(h'.wr i hi).trans (h.wr i hi)⟩
theorem gT.symm(h:gT m s s2):gT m s2 s:=⟨λi hi=>(h.kn i hi).symm,λi hi=>(h.wr i hi).symm⟩
theorem yD:(bq c n f s).wr=s.wr:=by unfold bq;split <;> rfl
theorem yC(hn:n<s.kn.length)(i:Nat):bf (bq c n f s) i=if n=i then (if (bf s n).any (λe=>Cm (cG c n f) e.f)=true then bf s n else (bf s n).filter (λe=>!Cm e.f (cG c n f))++[⟨cG c n f,false⟩]) else bf s i:=by
 unfold bq;by_cases h:(bf s n).any (λe=>Cm (cG c n f) e.f)=true
 .rw[if_pos h,if_pos h];show bf s i=_;split
  .rename_i e;rw[e]
  .rfl
 .rw[if_neg h,if_neg h];exact lT hn i
theorem o6(hm:m<=n)(hn:n<s.kn.length):gT m s (bq c n f s):=by
 refine⟨λi hi=>?_,λi _=>by rw[yD]⟩;rw[yC hn,if_neg (by omega)]
theorem FA(hT:PE c c2 m)(hR:gT m s s2)(hn:n<s.kn.length)(gl:n<s2.kn.length):gT m (bq c n f s) (bq c2 n f s2):=by
 by_cases hm:n<m
 .refine⟨λi hi=>?_,λi hi=>by rw[yD,yD];exact hR.wr i hi⟩;have e:cG c2 n f=cG c n f:=by unfold cG;rw[hT.hd n hm]
  rw[yC hn,yC gl,e,hR.kn n hm,hR.kn i hi]
 .exact((o6 (by omega) hn).symm.trans hR).trans (o6 (by omega) gl)
theorem Fw(hT:PE c c2 m)(hn:n<N)(gl:n<N2):∀(l:List CF) {s s2:Sr},cy l->gT m s s2->eM N s->eM N2 s2->gT m (l.foldl (λs g=>bq c n g s) s) (l.foldl (λs g=>bq c2 n g s) s2)
 |[],_,_,_,h,_,_=>h
 |g::l,s,s2,hl,h,h1,h2=>by
  rw[foldl_cons,foldl_cons];exact Fw hT hn gl l (λx hx=>hl x (by simp[hx])) (FA hT h (by rw[h1.kn];exact hn) (by rw[h2.kn];exact gl)) (mz (c:=c) (hl g (by simp)) h1 hn).2.1 (mz (c:=c2) (hl g (by simp)) h2 gl).2.1
theorem AX(hm:m<=n)(hn:n<N):∀(l:List CF) {s:Sr},cy l->eM N s->gT m s (l.foldl (λs g=>bq c n g s) s)
 |[],s,_,_=>gT.refl m s
 |g::l,s,hl,h1=>by
  rw[foldl_cons];exact(o6 hm (by rw[h1.kn];exact hn)).trans (AX hm hn l (λx hx=>hl x (by simp[hx])) (mz (c:=c) (hl g (by simp)) h1 hn).2.1)
theorem EN:∀(l:List CF) {r r2:List CF × Sr},r2.1=r.1->(l.foldl (k8 c2) r2).1=(l.foldl (k8 c) r).1
 |[],_,_,h=>h
 |g::l,r,r2,h=>by
  rw[foldl_cons,foldl_cons];refine EN l ?_;unfold k8;rw[h];split
  .rfl
  .exact h
theorem EP(g:CF)(i:Nat):∀(l:List Nat) {r r2:List CF × Sr},r2.1=r.1->(l.foldl (mo c2 g i) r2).1=(l.foldl (mo c g i) r).1
 |[],_,_,h=>h
 |a::l,r,r2,h=>by
  rw[foldl_cons,foldl_cons];refine EP g i l ?_;unfold mo;split
  .exact EN _ h
  .exact h
theorem EQ(g:CF):∀(l:List Nat) {r r2:List CF × Sr},r2.1=r.1->(l.foldl (ez c2 g) r2).1=(l.foldl (ez c g) r).1
 |[],_,_,h=>h
 |a::l,r,r2,h=>by
  rw[foldl_cons,foldl_cons];exact EQ g l (EP g a _ h)
theorem EJ:∀(n k:Nat) {res:List CF} {r r2:List CF × Sr},r2.1=r.1->(fU c n k res r).2.fu=false->(fU c2 n k res r2).2.fu=false->(fU c2 n k res r2).1=(fU c n k res r).1
 |0,_,_,_,_,_,_,_=>rfl
 |n+1,k,res,r,r2,h,h1,h2=>by
  have f1:r.2.fu=false:=by
   cases hf:r.2.fu with
   |false=>rfl
   |true=>rw[CQ (n+1) k hf]at h1;cases h1
  have f2:r2.2.fu=false:=by
   cases hf:r2.2.fu with
   |false=>rfl
   |true=>rw[CQ (n+1) k hf]at h2;cases h2
  unfold fU at h1 h2 ⊢;rw[f1]at h1 ⊢;rw[f2,h]at h2;rw[f2,h];by_cases hk:k<r.1.length/\False=False
  .have yd:k<r.1.length/\(false=false):=⟨hk.1,rfl⟩;rw[if_pos yd]at h1 h2;rw[if_pos yd,if_pos yd];have e:(pO c2 (r.1.getD k ⟨[],[],[]⟩) r2 res).1=(pO c (r.1.getD k ⟨[],[],[]⟩) r res).1:=(by unfold pO;split <;> rfl);have e2:(pO c2 (r.1.getD k ⟨[],[],[]⟩) r2 res).2.1=(pO c (r.1.getD k ⟨[],[],[]⟩) r res).2.1:=by
    unfold pO;split
    .exact h
    .exact EQ _ _ h
   rw[e]at h2 ⊢;exact EJ n (k+1) e2 h1 h2
  .have yd:¬ (k<r.1.length/\(false=false)):=λhh=>hk ⟨hh.1,rfl⟩;rw[if_neg yd,if_neg yd]
theorem Ox(hR:gT m s s2)(hs:eM N s)(dF:eM N2 s2){a a2 k:Nat}(ha:a<N)(E1:a2<N2)(h:a2=a\/(m<=a/\m<=a2)):gT m (gV a k s) (gV a2 k s2):=by
 refine⟨hR.kn,λi hi=>?_⟩;have e1:(gV a k s).wr.getD i []=if a=i then (s.wr.getD a []).set k true else s.wr.getD i []:=b8 _ _ _ _ _ (by rw[hs.wr];exact ha)
 have e2:(gV a2 k s2).wr.getD i []=if a2=i then (s2.wr.getD a2 []).set k true else s2.wr.getD i []:=b8 _ _ _ _ _ (by rw[dF.wr];exact E1)
 rw[e1,e2];rcases h with rfl|⟨h1,h2⟩
 .by_cases e:a2=i
  .rw[if_pos e,if_pos e,e,hR.wr i hi]
  .rw[if_neg e,if_neg e];exact hR.wr i hi
 .rw[if_neg (by omega),if_neg (by omega)];exact hR.wr i hi
theorem sU{fuel a:Nat}(hf:Td f)(hs:eM N s)(ha:a<N):cy (fU c fuel 0 [] ([f],gV a 2 s)).1/\eM N (fU c fuel 0 [] ([f],gV a 2 s)).2/\(∀i,bf (fU c fuel 0 [] ([f],gV a 2 s)).2 i=bf s i)/\(fU c fuel 0 [] ([f],gV a 2 s)).2.wr=(gV a 2 s).wr:=by
 obtain⟨g1,g2⟩:=zp hs ha (k:=2) (by omega);obtain⟨k1,k2,k3⟩:=lD (c:=c) fuel 0 (res:=[]) (r:=([f],gV a 2 s)) (λg hg=>by rw[mem_singleton.1 hg];exact hf) (λg hg=>by simp at hg);exact⟨k1,⟨by rw[k2];exact g2.kn,by rw[k3];exact g2.wr,λr hr=>by rw[k3]at hr;exact g2.rw r hr,λl hl=>by rw[k2]at hl;exact g2.td l hl⟩,λi=>by unfold bf;rw[k2];rfl,k3⟩
theorem m6.nfu(h:m6 s s2)(hf:s2.fu=false):s.fu=false:=by
 cases hs:s.fu with
 |false=>rfl
 |true=>rw[h.fu hs]at hf;cases hf
theorem JU(hT:PE c c2 m){fuel a a2 b:Nat}(hf:Td f)(hR:gT m s s2)(hs:eM N s)(dF:eM N2 s2)(ha:a<N)(E1:a2<N2)(hb:b<N)(aR:b<N2)(h:a2=a\/(m<=a/\m<=a2))(f1:(cZ c fuel a b f s).fu=false)(f2:(cZ c2 fuel a2 b f s2).fu=false):gT m (cZ c fuel a b f s) (cZ c2 fuel a2 b f s2):=by
 unfold cZ at f1 f2 ⊢;rw[hT.lp]at f2 ⊢;by_cases hc:c.lp=false\/fA f=[]
 .rw[if_pos hc,if_pos hc];exact FA hT hR (by rw[hs.kn];exact hb) (by rw[dF.kn];exact aR)
 .rw[if_neg hc]at f1 f2;rw[if_neg hc,if_neg hc];simp only at f1 f2 ⊢;obtain⟨k1,k2,k3,k4⟩:=sU (c:=c) (fuel:=fuel) hf hs ha;obtain⟨q1,q2,q3,q4⟩:=sU (c:=c2) (fuel:=fuel) hf dF E1;have hw:=Ox (k:=2) hR hs dF ha E1 h;have V2:gT m (fU c fuel 0 [] ([f],gV a 2 s)).2 (fU c2 fuel 0 [] ([f],gV a2 2 s2)).2:=⟨λi hi=>by rw[k3,q3];exact hR.kn i hi,λi hi=>by rw[k4,q4];exact hw.wr i hi⟩;have e:=EJ (c:=c) (c2:=c2) fuel 0 (res:=[]) (r:=([f],gV a 2 s)) (r2:=([f],gV a2 2 s2)) rfl ((rU (c:=c) (n:=b) _ k1 k2 hb).1.nfu f1) ((rU (c:=c2) (n:=b) _ q1 q2 aR).1.nfu f2);rw[e];exact Fw hT hb aR _ k1 V2 k2 q2
theorem PJ{fuel a b:Nat}(hf:Td f)(hs:eM N s)(ha:a<N)(hb:b<N)(hma:m<=a)(hmb:m<=b):gT m s (cZ c fuel a b f s):=by
 unfold cZ;split
 .exact o6 hmb (by rw[hs.kn];exact hb)
 .simp only;obtain⟨k1,k2,k3,k4⟩:=sU (c:=c) (fuel:=fuel) hf hs ha;refine gT.trans ⟨λi _=>k3 i,λi hi=>?_⟩ (AX hmb hb _ k1 k2);rw[k4];have e1:(gV a 2 s).wr.getD i []=if a=i then (s.wr.getD a []).set 2 true else s.wr.getD i []:=b8 _ _ _ _ _ (by rw[hs.wr];exact ha)
  rw[e1,if_neg (by omega)]
theorem CA(hT:PE c c2 m){fuel a b:Nat}(ha:a<N)(E1:a<N2):∀(l:List CF) {s s2:Sr},(l≠[]->b<N)->(l≠[]->b<N2)->cy l->gT m s s2->eM N s->eM N2 s2->(l.foldl (λs g=>cZ c fuel a b g s) s).fu=false->(l.foldl (λs g=>cZ c2 fuel a b g s) s2).fu=false ->
  gT m (l.foldl (λs g=>cZ c fuel a b g s) s) (l.foldl (λs g=>cZ c2 fuel a b g s) s2)
 |[],_,_,_,_,_,h,_,_,_,_=>h
 |g::l,s,s2,hb,aR,hl,h,h1,h2,f1,f2=>by
  rw[foldl_cons]at f1 f2;rw[foldl_cons,foldl_cons];have b1:=hb (by simp);have b2:=aR (by simp);have o1:=nF (c:=c) (fuel:=fuel) (hl g (by simp)) h1 ha b1;have o2:=nF (c:=c2) (fuel:=fuel) (hl g (by simp)) h2 E1 b2;have l1:=(iE (c:=c) (fuel:=fuel) ha l (λ_=>b1) (λx hx=>hl x (by simp[hx])) o1.2.1).1;have l2:=(iE (c:=c2) (fuel:=fuel) E1 l (λ_=>b2) (λx hx=>hl x (by simp[hx])) o2.2.1).1;exact CA hT ha E1 l (λ_=>b1) (λ_=>b2) (λx hx=>hl x (by simp[hx])) (JU hT (hl g (by simp)) h h1 h2 ha E1 b1 b2 (zq0 rfl) (l1.nfu f1) (l2.nfu f2)) o1.2.1 o2.2.1 f1 f2
theorem xE{fuel a b:Nat}(ha:a<N)(hma:m<=a):∀(l:List CF) {s:Sr},(l≠[]->b<N/\m<=b)->cy l->eM N s->gT m s (l.foldl (λs g=>cZ c fuel a b g s) s)
 |[],s,_,_,_=>gT.refl m s
 |g::l,s,hb,hl,h1=>by
  rw[foldl_cons];have b1:=hb (by simp);exact(PJ (hl g (by simp)) h1 ha b1.1 hma b1.2).trans (xE ha hma l (λ_=>b1) (λx hx=>hl x (by simp[hx])) (nF (c:=c) (fuel:=fuel) (hl g (by simp)) h1 ha b1.1).2.1)
theorem D3(hR:gT m s s2)(hs:eM N s)(dF:eM N2 s2){a k:Nat}(ha:a<N)(E1:a<N2)(b:Bool):gT m (wrI b a k s) (wrI b a k s2):=by
 unfold wrI;split
 .exact Ox hR hs dF ha E1 (zq0 rfl)
 .exact hR
theorem zn(hs:eM N s){a k:Nat}(ha:a<N)(hma:m<=a)(b:Bool):gT m s (wrI b a k s):=by
 unfold wrI;split
 .refine⟨λ_ _=>rfl,λi hi=>?_⟩;have e1:(gV a k s).wr.getD i []=if a=i then (s.wr.getD a []).set k true else s.wr.getD i []:=b8 _ _ _ _ _ (by rw[hs.wr];exact ha)
  rw[e1,if_neg (by omega)]
 .exact gT.refl m s
end
section
variable {c c2:Cd} {m N N2 n:Nat} {f:CF} {s s2:Sr}
theorem Yw(hT:PE c c2 m){fuel:Nat}(hN:c.nds.length=N)(mS:c2.nds.length=N2)(hO:sE c.nds)(re:sE c2.nds)(hm:n<m)(hn:n<N)(gl:n<N2)(hf:Td f)(hR:gT m s s2)(hs:eM N s)(dF:eM N2 s2)(f1:(mf c fuel n f s).fu=false)(f2:(mf c2 fuel n f s2).fu=false):
  gT m (mf c fuel n f s) (mf c2 fuel n f s2):=by
 obtain⟨hv,ha⟩:=hO.v n;obtain⟨t1,t2⟩:=lB hv ha hf;have hA:=hT.ag n hm;have iN:n<c.nds.length:=by rw[hN];exact hn
 have acG:n<c2.nds.length:=by rw[mS];exact gl
 have bV:(cN (c.nds.getD n aK) f).nx≠[]->(c.nds.getD n aK).nx<N:=λh=>by rw[<-hN];exact hO.nx n iN (nI h)
 have vn:(cN (c.nds.getD n aK) f).ot≠[]->(c.nds.getD n aK).ot<N:=λh=>by rw[<-hN];exact hO.ot n iN (ky h)
 have abY:(cN (c.nds.getD n aK) f).nx≠[]->(c.nds.getD n aK).nx<N2:=λh=>by rw[<-mS,<-hA.nx];exact re.nx n acG (by rw[hA.op];exact nI h)
 have abX:(cN (c.nds.getD n aK) f).ot≠[]->(c.nds.getD n aK).ot<N2:=λh=>by rw[<-mS,<-hA.ot (ky h)];exact re.ot n acG (by rw[hA.op];exact ky h)
 have eot:∀s:Sr,(cN (c.nds.getD n aK) f).ot.foldl (λs g=>cZ c2 fuel n (c2.nds.getD n aK).ot g s) s=(cN (c.nds.getD n aK) f).ot.foldl (λs g=>cZ c2 fuel n (c.nds.getD n aK).ot g s) s:=λs=>by
  by_cases h:(cN (c.nds.getD n aK) f).ot=[]
  .rw[h];rfl
  .rw[hA.ot (ky h)]
 unfold mf at f1 f2 ⊢;simp only at f1 f2 ⊢;rw[hA.ef,hA.op,hA.nx,eot]at f2 ⊢;obtain⟨-,a2,-⟩:=dC (b:=decide ((c.nds.getD n aK).op=0)&&!decide (fA f=[])) (k:=2) hs hn (by omega);obtain⟨-,b2,-⟩:=dC (b:=(cN (c.nds.getD n aK) f).nu) (k:=3) a2 hn (by omega);obtain⟨-,d2,-⟩:=dC (b:=(cN (c.nds.getD n aK) f).da) (k:=4) b2 hn (by omega);obtain⟨-,e2,-⟩:=sZ (cN (c.nds.getD n aK) f).fu d2;obtain⟨-,a3,-⟩:=dC (b:=decide ((c.nds.getD n aK).op=0)&&!decide (fA f=[])) (k:=2) dF gl (by omega);obtain⟨-,b3,-⟩:=dC (b:=(cN (c.nds.getD n aK) f).nu) (k:=3) a3 gl (by omega);obtain⟨-,d3,-⟩:=dC (b:=(cN (c.nds.getD n aK) f).da) (k:=4) b3 gl (by omega);obtain⟨-,e3,-⟩:=sZ (cN (c.nds.getD n aK) f).fu d3;have g2:=(iE (c:=c) (fuel:=fuel) (b:=(c.nds.getD n aK).nx) hn (cN (c.nds.getD n aK) f).nx bV t1 e2).2.1;have g3:=(iE (c:=c2) (fuel:=fuel) (b:=(c.nds.getD n aK).nx) gl (cN (c.nds.getD n aK) f).nx abY t1 e3).2.1;have k1:=(iE (c:=c) (fuel:=fuel) (b:=(c.nds.getD n aK).ot) hn (cN (c.nds.getD n aK) f).ot vn t2 g2).1;have k2:=(iE (c:=c2) (fuel:=fuel) (b:=(c.nds.getD n aK).ot) gl (cN (c.nds.getD n aK) f).ot abX t2 g3).1;have hw:=D3 (D3 (D3 hR hs dF hn gl (k:=2) (decide ((c.nds.getD n aK).op=0)&&!decide (fA f=[]))) a2 a3 hn gl (k:=3) (cN (c.nds.getD n aK) f).nu) b2 b3 hn gl (k:=4) (cN (c.nds.getD n aK) f).da;exact CA hT hn gl _ vn abX t2 (CA hT hn gl _ bV abY t1 ⟨hw.kn,hw.wr⟩ e2 e3 (k1.nfu f1) (k2.nfu f2)) g2 g3 f1 f2
def SL(c:Cd)(m:Nat):Prop:=∀n,m<=n->n<c.nds.length->((c.nds.getD n aK).op≠0->m<=(c.nds.getD n aK).nx)/\((c.nds.getD n aK).op=7\/(c.nds.getD n aK).op=8\/(c.nds.getD n aK).op=9->m<=(c.nds.getD n aK).ot)
theorem Sm(hB:SL c m){fuel:Nat}(hN:c.nds.length=N)(hO:sE c.nds)(hm:m<=n)(hn:n<N)(hf:Td f)(hs:eM N s):gT m s (mf c fuel n f s):=by
 obtain⟨hv,ha⟩:=hO.v n;obtain⟨t1,t2⟩:=lB hv ha hf;have iN:n<c.nds.length:=by rw[hN];exact hn
 have bV:(cN (c.nds.getD n aK) f).nx≠[]->(c.nds.getD n aK).nx<N/\m<=(c.nds.getD n aK).nx:=λh=>⟨by rw[<-hN];exact hO.nx n iN (nI h),(hB n hm iN).1 (nI h)⟩;have vn:(cN (c.nds.getD n aK) f).ot≠[]->(c.nds.getD n aK).ot<N/\m<=(c.nds.getD n aK).ot:=λh=>⟨by rw[<-hN];exact hO.ot n iN (ky h),(hB n hm iN).2 (ky h)⟩;unfold mf;simp only;obtain⟨-,a2,-⟩:=dC (b:=decide ((c.nds.getD n aK).op=0)&&!decide (fA f=[])) (k:=2) hs hn (by omega);obtain⟨-,b2,-⟩:=dC (b:=(cN (c.nds.getD n aK) f).nu) (k:=3) a2 hn (by omega);obtain⟨-,d2,-⟩:=dC (b:=(cN (c.nds.getD n aK) f).da) (k:=4) b2 hn (by omega);obtain⟨-,e2,-⟩:=sZ (cN (c.nds.getD n aK) f).fu d2;have g2:=(iE (c:=c) (fuel:=fuel) (b:=(c.nds.getD n aK).nx) hn (cN (c.nds.getD n aK) f).nx (λh=>(bV h).1) t1 e2).2.1;have hw:gT m s (fuS (cN (c.nds.getD n aK) f).fu (wrI (cN (c.nds.getD n aK) f).da n 4 (wrI (cN (c.nds.getD n aK) f).nu n 3 (wrI (decide ((c.nds.getD n aK).op=0)&&!decide (fA f=[])) n 2 s)))):=by
  have:=((zn (k:=2) hs hn hm (decide ((c.nds.getD n aK).op=0)&&!decide (fA f=[]))).trans (zn (k:=3) a2 hn hm (cN (c.nds.getD n aK) f).nu)).trans (zn (k:=4) b2 hn hm (cN (c.nds.getD n aK) f).da);exact⟨this.kn,this.wr⟩
 exact(hw.trans (xE hn hm _ bV t1 e2)).trans (xE hn hm _ vn t2 g2)
theorem Oi(hT:PE c c2 m){fuel:Nat}(hN:c.nds.length=N)(mS:c2.nds.length=N2)(hO:sE c.nds)(re:sE c2.nds)(hm:n<m)(hn:n<N)(gl:n<N2):∀(l:List CF) {s s2:Sr},cy l->gT m s s2->eM N s->eM N2 s2->(mg c fuel n l s).fu=false->(mg c2 fuel n l s2).fu=false->gT m (mg c fuel n l s) (mg c2 fuel n l s2)
 |[],_,_,_,h,_,_,_,_=>h
 |g::l,s,s2,hl,h,h1,h2,f1,f2=>by
  have o1:=zg (fuel:=fuel) hN hO hn (hl g (by simp)) h1;have o2:=zg (fuel:=fuel) mS re gl (hl g (by simp)) h2;have l1:=(qB (fuel:=fuel) hN hO hn l (λx hx=>hl x (by simp[hx])) o1.2.1).1;have l2:=(qB (fuel:=fuel) mS re gl l (λx hx=>hl x (by simp[hx])) o2.2.1).1;have q1:=(qB (fuel:=fuel) hN hO hn (g::l) hl h1).1.nfu f1;have q2:=(qB (fuel:=fuel) mS re gl (g::l) hl h2).1.nfu f2;unfold mg at f1 f2 ⊢;rw[if_neg (by rw[q1];simp)]at f1;rw[if_neg (by rw[q2];simp)]at f2;rw[if_neg (by rw[q1];simp),if_neg (by rw[q2];simp)];exact Oi hT hN mS hO re hm hn gl l (λx hx=>hl x (by simp[hx])) (Yw hT hN mS hO re hm hn gl (hl g (by simp)) h h1 h2 (l1.nfu f1) (l2.nfu f2)) o1.2.1 o2.2.1 f1 f2
theorem GB(hB:SL c m){fuel:Nat}(hN:c.nds.length=N)(hO:sE c.nds)(hm:m<=n)(hn:n<N):∀(l:List CF) {s:Sr},cy l->eM N s->gT m s (mg c fuel n l s)
 |[],s,_,_=>gT.refl m s
 |g::l,s,hl,h1=>by
  unfold mg;split
  .exact gT.refl m s
  .exact(Sm hB hN hO hm hn (hl g (by simp)) h1).trans (GB hB hN hO hm hn l (λx hx=>hl x (by simp[hx])) (zg (fuel:=fuel) hN hO hn (hl g (by simp)) h1).2.1)
theorem vi0(hs:eM N s)(hn:n<N):eM N { s with kn:=s.kn.set n ((bf s n).map (λe:fS=>(⟨e.f,true⟩:fS))) }/\cy (lH (bf s n))/\∀i,bf { s with kn:=s.kn.set n ((bf s n).map (λe:fS=>(⟨e.f,true⟩:fS))) } i=if n=i then (bf s n).map (λe=>⟨e.f,true⟩) else bf s i:=by
 have f7:n<s.kn.length:=by rw[hs.kn];exact hn
 refine⟨⟨by show(s.kn.set n _).length=N;rw[length_set];exact hs.kn,hs.wr,hs.rw,λl hl e he=>?_⟩,λg hg=>?_,λi=>lT f7 i⟩
 .rcases mem_or_eq_of_mem_set (show l∈s.kn.set n _ from hl) with h1|rfl
  .exact hs.td l h1 e he
  .obtain⟨x,hx,rfl⟩:=mem_map.1 he;exact hs.td.at n x hx
 .obtain⟨e,he,rfl⟩:=mem_map.1 hg;exact hs.td.at n e (mem_filter.1 he).1
theorem YD(hT:PE c c2 m){fuel:Nat}(hN:c.nds.length=N)(mS:c2.nds.length=N2)(hO:sE c.nds)(re:sE c2.nds)(hm:n<m)(hn:n<N)(gl:n<N2)(hR:gT m s s2)(hs:eM N s)(dF:eM N2 s2)(f1:(mZ c fuel n s).fu=false)(f2:(mZ c2 fuel n s2).fu=false):gT m (mZ c fuel n s) (mZ c2 fuel n s2):=by
 obtain⟨a1,a2,a3⟩:=vi0 hs hn;obtain⟨b1,b2,b3⟩:=vi0 dF gl;unfold mZ at f1 f2 ⊢;rw[hR.kn n hm]at f2 b1 b3 ⊢;exact Oi hT hN mS hO re hm hn gl _ a2 ⟨λi hi=>by rw[a3,b3,hR.kn i hi],hR.wr⟩ a1 b1 f1 f2
theorem SD(hB:SL c m){fuel:Nat}(hN:c.nds.length=N)(hO:sE c.nds)(hm:m<=n)(hn:n<N)(hs:eM N s):gT m s (mZ c fuel n s):=by
 obtain⟨a1,a2,a3⟩:=vi0 hs hn;unfold mZ;have h0:gT m s { s with kn:=s.kn.set n ((bf s n).map (λe:fS=>(⟨e.f,true⟩:fS))) }:=⟨λi hi=>by rw[a3,if_neg (by omega)],λ_ _=>rfl⟩;exact h0.trans (GB hB hN hO hm hn _ a2 a1)
theorem DE{k:Nat}(h:rq s=some k):k<s.kn.length/\(bf s k).any (λe=>!e.d)=true/\∀j,j<k->(bf s j).any (λe=>!e.d)=false:=by
 unfold rq at h;obtain⟨h1,h2,h3⟩:=findIdx?_eq_some_iff_getElem.1 h;have hk:∀j,(hj:j<s.kn.length)->bf s j=s.kn[j]:=λj hj=>by unfold bf;rw[getD_eq_getElem?_getD,getElem?_eq_getElem hj];rfl
 refine⟨h1,by rw[hk k h1];exact h2,λj hj=>?_⟩;rw[hk j (by omega)];simpa using h3 j hj
theorem XY{k:Nat}(h1:k<s.kn.length)(h2:(bf s k).any (λe=>!e.d)=true)(h3:∀j,j<k->(bf s j).any (λe=>!e.d)=false):rq s=some k:=by
 have hk:∀j,(hj:j<s.kn.length)->bf s j=s.kn[j]:=λj hj=>by unfold bf;rw[getD_eq_getElem?_getD,getElem?_eq_getElem hj];rfl
 unfold rq;refine findIdx?_eq_some_iff_getElem.2 ⟨h1,by rw[<-hk k h1];exact h2,λj hj=>?_⟩;have:=h3 j hj;rw[hk j (by omega)]at this;simpa using this
theorem XX(h:rq s=none)(j:Nat):(bf s j).any (λe=>!e.d)=false:=by
 unfold rq at h;rw[findIdx?_eq_none_iff]at h;by_cases hj:j<s.kn.length
 .have hk:bf s j=s.kn[j]:=by unfold bf;rw[getD_eq_getElem?_getD,getElem?_eq_getElem hj];rfl
  rw[hk];simpa using h _ (getElem_mem hj)
 .unfold bf;rw[getD_eq_getElem?_getD,getElem?_eq_none (by omega)];rfl
def DnS(m:Nat)(s:Sr):Prop:=∀i,i<m->(bf s i).any (λe=>!e.d)=false
theorem zd(hB:SL c m){fuel:Nat}(hN:c.nds.length=N)(hO:sE c.nds):∀(k:Nat) {s:Sr},DnS m s->eM N s->gT m s (jY c fuel k s)
 |0,s,_,_=>⟨λ_ _=>rfl,λ_ _=>rfl⟩
 |k+1,s,hD,hs=>by
  unfold jY;cases hp:rq s with
  |none=>exact gT.refl m s
  |some n =>
   simp only;split
   .exact gT.refl m s
   .obtain⟨p1,p2,-⟩:=DE hp;have hm:m<=n:=by
     apply Classical.byContradiction;intro hc;rw[hD n (by omega)]at p2;cases p2
    have hn:n<N:=(by rw[<-hs.kn];exact p1);have h1:=SD hB (fuel:=fuel) hN hO hm hn hs;exact h1.trans (zd hB hN hO k (λi hi=>by rw[h1.kn i hi];exact hD i hi) (zl (fuel:=fuel) hN hO hn hs).2.1)
theorem NM(hT:PE c c2 m){fuel:Nat}(hB:SL c m)(uE:SL c2 m)(hN:c.nds.length=N)(mS:c2.nds.length=N2)(hO:sE c.nds)(re:sE c2.nds)(hmN:m<=N)(hmN2:m<=N2):∀(k k2:Nat) {s s2:Sr},gT m s s2->eM N s->eM N2 s2->(jY c fuel k s).ok=true->(jY c2 fuel k2 s2).ok=true->(jY c fuel k s).fu=false->(jY c2 fuel k2 s2).fu=false->gT m (jY c fuel k s) (jY c2 fuel k2 s2)
 |0,_,_,_,_,_,_,h,_,_,_=>by simp[jY]at h
 |k+1,k2,s,s2,hR,hs,dF,o1,o2,f1,f2=>by
  have hsN:∀j,j<m->j<s.kn.length:=λj hj=>by rw[hs.kn];omega
  have hsN2:∀j,j<m->j<s2.kn.length:=λj hj=>by rw[dF.kn];omega
  have q1:=(kL (fuel:=fuel) hN hO (k+1) hs).1.nfu f1;have q2:=(kL (fuel:=fuel) mS re k2 dF).1.nfu f2;by_cases hD:DnS m s
  .have VN:DnS m s2:=λi hi=>by rw[hR.kn i hi];exact hD i hi
   exact((zd hB hN hO (k+1) hD hs).symm.trans hR).trans (zd uE mS re k2 VN dF)
  .obtain⟨n,hp,hm⟩:∃n,rq s=some n/\n<m:=by
    cases hp:rq s with
    |none=>exact absurd (λi _=>XX hp i) hD
    |some n =>
     refine⟨n,rfl,?_⟩;apply Classical.byContradiction;intro hc;exact hD (λi hi=>(DE hp).2.2 i (by omega))
   obtain⟨p1,p2,p3⟩:=DE hp;have WL:rq s2=some n:=XY (hsN2 n hm) (by rw[hR.kn n hm];exact p2) (λj hj=>by rw[hR.kn j (by omega)];exact p3 j hj);cases k2 with
   |zero=>simp[jY]at o2
   |succ k2 =>
    have hn:n<N:=(by omega);have gl:n<N2:=(by omega);have e1:jY c fuel (k+1) s=jY c fuel k (mZ c fuel n s):=by
     show(match rq s with|none=>s|some k'=>if s.fu=true then s else jY c fuel k (mZ c fuel k' s))=_;rw[hp];simp only;rw[if_neg (by rw[q1];simp)]
    have e2:jY c2 fuel (k2+1) s2=jY c2 fuel k2 (mZ c2 fuel n s2):=by
     show(match rq s2 with|none=>s2|some k'=>if s2.fu=true then s2 else jY c2 fuel k2 (mZ c2 fuel k' s2))=_;rw[WL];simp only;rw[if_neg (by rw[q2];simp)]
    rw[e1]at o1 f1 ⊢;rw[e2]at o2 f2 ⊢;have v1:=zl (fuel:=fuel) hN hO hn hs;have v2:=zl (fuel:=fuel) mS re gl dF;have g1:=(kL (fuel:=fuel) hN hO k v1.2.1).1.nfu f1;have g2:=(kL (fuel:=fuel) mS re k2 v2.2.1).1.nfu f2;exact NM hT hB uE hN mS hO re hmN hmN2 k k2 (YD hT hN mS hO re hm hn gl hR hs dF g1 g2) v1.2.1 v2.2.1 o1 o2 f1 f2
end
def aaM(ws:List ByteArray)(s s':PS)(q:List ByteArray)(nd:Nd):Prop:=Rd ws s' q/\s.vars <+: s'.vars/\s'.nodes=s.nodes++[nd]/\nd.nx=s.nodes.length+1
theorem kM{ws:List ByteArray}{s:PS}{q:List ByteArray}(h:xq ws s (gp ws s) (l9::q)):aaM ws s (qT ws s) q { jt ws s with nx:=s.nodes.length+1 }:=by
 obtain⟨g1,g2,g3⟩:=N0 (jt ws s) (h.trans (dI yy h.rd));exact⟨g1,g3,g2,rfl⟩
theorem mH{ws:List ByteArray}{s:PS}{q:List ByteArray}(h:xq ws s (gp ws s) (l9::q)):(gp ws s).vars <+: (qT ws s).vars:=(dI yy h.rd).vs
theorem tF{a:ByteArray}(h:aI a=true):aV a fj=false:=bm (dY h rfl)
theorem tE{a:ByteArray}(h:aI a=true):aV a eX=false:=bm (dY h rfl)
theorem Ug{ws:List ByteArray}{s:PS}{p q:List ByteArray}(hp:k7 p)(h:Rd ws s (p++l9::q)):
  ∃nd i,aaM ws s (qT ws s) q nd/\rsI p=some i/\SI (qT ws s).vars nd i:=by
 cases hp using k7.ind with
 |skip =>
  have e:bH ws f8 s=true:=(ci mu h).trans (aT _);have hA:xq ws s (gp ws s) (l9::q):=by unfold gp;rw[if_pos e];exact il h
  refine⟨_,_,kM hA,(by show(if aV fj fj=true then _ else _)=_;rw[if_pos (aT _)]),?_⟩;refine zq1 (zq1 (zq1 (zq1 (zq1 (zq1 ⟨rfl,?_⟩)))));show(jt ws s).op=6;unfold jt;rw[if_pos e]
 |@free b hb =>
  have e1:bH ws f8 s=false:=(ci mu h).trans He;have e2:bH ws ie s=true:=(ci oV h).trans (aT _);have h1:=il h;have h2:=uj h1.rd hb;have hA:xq ws s (gp ws s) (l9::q):=by unfold gp;rw[if_neg (by simp[e1]),if_pos e2];exact h1.trans h2.1
  refine⟨_,_,kM hA,(by show(if (aV eX eX&&aI b)=true then _ else _)=_;rw[if_pos (by rw[aT,hb];rfl)]),?_⟩;refine zq1 (zq1 (zq1 (zq1 (zq1 (zq0 ⟨rfl,?_,?_⟩)))))
  .show(jt ws s).op=5;unfold jt;rw[if_neg (by simp[e1]),if_pos e2]
  .show xp _ b (jt ws s).v;have ev:(jt ws s).v=lq ws s.adv:=(by unfold jt;rw[if_neg (by simp[e1]),if_pos e2]);rw[ev];refine h2.2.up ?_;have:(gp ws s).vars=(bz ws s.adv).vars:=(by unfold gp;rw[if_neg (by simp[e1]),if_pos e2]);rw[<-this];exact mH hA
 |@val a c ha hc =>
  have e1:bH ws f8 s=false:=(ci mu h).trans (tF ha);have e2:bH ws ie s=false:=(ci oV h).trans (tE ha);have h1:=uj h ha;have Hf:Rd ws (bz ws s) (bM::c::l9::q):=h1.1.rd;have e3:bH ws gL (bz ws s)=false:=(ci kE Hf).trans EG;have h2:=dI nj Hf;have eS:gp ws s=mR ws (aF ws fQ (bz ws s)):=by unfold gp;rw[if_neg (by simp[e1]),if_neg (by simp[e2]),if_neg (by simp[e3])]
  have eN:jt ws s=uD ws (lq ws s) (aF ws fQ (bz ws s)):=by unfold jt;rw[if_neg (by simp[e1]),if_neg (by simp[e2]),if_neg (by simp[e3])]
  have hn:∀x,rsI [a,bM,x]=if (aV x b9||aV x kG)=true then some ⟨x,a,em,em,0,false⟩ else if aI x=true then some ⟨Ac,a,x,em,0,false⟩ else none:=by
   intro x;show(if (aI a&&aV bM bM)=true then _ else _)=_;rw[if_pos (by rw[ha,aT];rfl)]
  rcases hc with rfl|hc
  .have e4:bH ws mV (aF ws fQ (bz ws s))=true:=(ci yx h2.rd).trans (aT _);have hA:xq ws s (gp ws s) (l9::q):=(by rw[eS];unfold mR;rw[if_pos e4];exact(h1.1.trans h2).trans (il h2.rd));refine⟨_,_,kM hA,(by rw[hn,if_pos (by rw[aT];simp)]),?_⟩;have ev:jt ws s=⟨4,lq ws s,0,0,0,0⟩:=(by rw[eN];unfold uD;rw[if_pos e4]);rw[ev];refine zq1 (zq1 (zq0 ⟨rfl,rfl,h1.2.up ?_⟩));have:(gp ws s).vars=(aF ws fQ (bz ws s)).vars:=(by rw[eS];unfold mR;rw[if_pos e4];rfl);exact(this ▸ h2.vs).trans (mH hA)
  .have hc':aV c kG=false:=by
    rcases hc with rfl|hc
    .exact RD
    .exact bm (dY hc rfl)
   have e4:bH ws mV (aF ws fQ (bz ws s))=false:=(ci yx h2.rd).trans hc';have h3:=zh h2.rd hc;have e5:BW ws (aF ws fQ (bz ws s))=false:=(by unfold BW;rw[(ci kE h3.1.rd).trans NQ,Bool.and_false]);have eS2:gp ws s=bU ws (aF ws fQ (bz ws s)):=(by rw[eS];unfold mR;rw[if_neg (by simp[e4]),if_neg (by simp[e5])]);have hA:xq ws s (gp ws s) (l9::q):=(by rw[eS2];exact(h1.1.trans h2).trans h3.1);have ev:jt ws s=⟨1,lq ws s,du ws (aF ws fQ (bz ws s)),d7 ws (aF ws fQ (bz ws s)),0,0⟩:=(by rw[eN];unfold uD;rw[if_neg (by simp[e4]),if_neg (by simp[e5])]);have Ip:xp (qT ws s).vars a (lq ws s):=h1.2.up ((h2.vs.trans h3.1.vs).trans (by rw[<-eS2];exact mH hA));have wE:=h3.2.up (show(bU ws (aF ws fQ (bz ws s))).vars <+: (qT ws s).vars by rw[<-eS2];exact mH hA);rcases hc with rfl|hc
   .refine⟨_,_,kM hA,(by rw[hn,if_pos (by rw[aT];rfl)]),?_⟩;rw[ev];have Zx:du ws (aF ws fQ (bz ws s))=0:=by
     rcases wE with h0|⟨_,h0⟩
     .exact h0.2
     .exact absurd h0.1 (by rw[jq];simp)
    exact zq0 ⟨rfl,rfl,Ip,Zx⟩
   .refine⟨_,_,kM hA,(by rw[hn,if_neg (by rw[hc',bm (dY hc jq)];simp),if_pos hc]),?_⟩;rw[ev];rcases wE with h0|⟨h0,h00⟩
    .exact absurd hc (by rw[h0.1,jq];simp)
    .exact zq1 (zq0 ⟨rfl,rfl,Ip,h0,h00⟩)
 |@load a c ha hc =>
  have e1:bH ws f8 s=false:=(ci mu h).trans (tF ha);have e2:bH ws ie s=false:=(ci oV h).trans (tE ha);have h1:=uj h ha;have Hf:Rd ws (bz ws s) (bM::c::aW::nW::l9::q):=h1.1.rd;have e3:bH ws gL (bz ws s)=false:=(ci kE Hf).trans EG;have h2:=dI nj Hf;have eS:gp ws s=mR ws (aF ws fQ (bz ws s)):=by unfold gp;rw[if_neg (by simp[e1]),if_neg (by simp[e2]),if_neg (by simp[e3])]
  have eN:jt ws s=uD ws (lq ws s) (aF ws fQ (bz ws s)):=by unfold jt;rw[if_neg (by simp[e1]),if_neg (by simp[e2]),if_neg (by simp[e3])]
  have e4:bH ws mV (aF ws fQ (bz ws s))=false:=(ci yx h2.rd).trans (bm (dY hc rfl));have h3:=zh h2.rd (zq1 hc);have LY:du ws (aF ws fQ (bz ws s))=1:=by
   rcases h3.2 with h0|h0
   .exact absurd hc (by rw[h0.1,jq];simp)
   .exact h0.1
  have e5:BW ws (aF ws fQ (bz ws s))=true:=by unfold BW;rw[LY,ci kE h3.1.rd];rw[show aV aW gL=true from aT _];rfl
  have h4:=il h3.1.rd;have h5:=dI Iu h4.rd;have eS2:gp ws s=aF ws kN (bU ws (aF ws fQ (bz ws s))).adv:=by rw[eS];unfold mR;rw[if_neg (by simp[e4]),if_pos e5]
  have hA:xq ws s (gp ws s) (l9::q):=by rw[eS2];exact(((h1.1.trans h2).trans h3.1).trans h4).trans h5
  have ev:jt ws s=⟨2,lq ws s,du ws (aF ws fQ (bz ws s)),d7 ws (aF ws fQ (bz ws s)),0,0⟩:=by rw[eN];unfold uD;rw[if_neg (by simp[e4]),if_pos e5]
  have tj:(bU ws (aF ws fQ (bz ws s))).vars <+: (qT ws s).vars:=(h4.vs.trans h5.vs).trans (by rw[<-eS2];exact mH hA);refine⟨_,⟨Bb,a,c,em,0,false⟩,kM hA,?_,?_⟩
  .show(if (aI a&&aV bM bM&&aI c&&aV aW aW&&aV nW nW)=true then _ else _)=_;rw[if_pos (by simp[ha,hc,aT])]
  .rw[ev];rcases h3.2 with h0|⟨h0,h00⟩
   .exact absurd hc (by rw[h0.1,jq];simp)
   .exact zq1 (zq1 (zq1 (zq0 ⟨rfl,rfl,h1.2.up ((h2.vs.trans h3.1.vs).trans tj),h0,h00.up tj⟩)))
 |@store a e ha he =>
  have e1:bH ws f8 s=false:=(ci mu h).trans (tF ha);have e2:bH ws ie s=false:=(ci oV h).trans (tE ha);have h1:=uj h ha;have Hf:Rd ws (bz ws s) (aW::nW::bM::e::l9::q):=h1.1.rd;have e3:bH ws gL (bz ws s)=true:=(ci kE Hf).trans (aT _);have h2:=il Hf;have h3:=dI Iu h2.rd;have h4:=dI nj h3.rd;have h5:=zh h4.rd he;have eS:gp ws s=bU ws (xh ws (bz ws s)):=by unfold gp;rw[if_neg (by simp[e1]),if_neg (by simp[e2]),if_pos e3]
  have hA:xq ws s (gp ws s) (l9::q):=by rw[eS];exact(((h1.1.trans h2).trans h3).trans h4).trans h5.1
  have ev:jt ws s=⟨3,lq ws s,du ws (xh ws (bz ws s)),d7 ws (xh ws (bz ws s)),0,0⟩:=by unfold jt;rw[if_neg (by simp[e1]),if_neg (by simp[e2]),if_pos e3]
  have tj:(bU ws (xh ws (bz ws s))).vars <+: (qT ws s).vars:=by rw[<-eS];exact mH hA
  refine⟨_,⟨uk,a,e,em,0,false⟩,kM hA,?_,?_⟩
  .show(if (aI a&&aV aW bM&&aI nW&&aV bM aW&&aV e nW)=true then _ else if (aI a&&aV aW aW&&aV nW nW&&aV bM bM&&(aI e||aV e b9))=true then _ else _)=_;rw[if_neg (by rw[Vm];simp),if_pos];rcases he with rfl|he
   .simp[ha,aT]
   .simp[ha,he,aT]
  .rw[ev];exact zq1 (zq1 (zq1 (zq1 (zq0 ⟨rfl,rfl,h1.2.up ((((h2.vs.trans h3.vs).trans h4.vs).trans h5.1.vs).trans tj),h5.2.up tj⟩))))
