import Derived.Test.YtciihepbeacppaaGreatM25
set_option maxRecDepth 100000
set_option maxHeartbeats 0
namespace Go.Proofs.YtciihepbeacppaaGreat
open Tryz Go.RowKit List World Below
set_option linter.unusedVariables false
def Mo(s t:PS):Prop:=t.nodes=s.nodes/\s.vars.length<=t.vars.length/\s.hid.length<=t.hid.length
theorem Mo.refl(s:PS):Mo s s:=⟨rfl,zq4 _,zq4 _⟩
theorem Mo.trans{s t u:PS}(h:Mo s t)(h':Mo t u):Mo s u:=⟨h'.1.trans h.1,zq3 h.2.1 h'.2.1,zq3 h.2.2 h'.2.2⟩
def Lw(L i:Nat):Prop:=i=0\/i<L
theorem Lw.up{L L' i:Nat}(h:Lw L i)(hL:L<=L'):Lw L' i:=h.imp id (λh=>by omega)
section
variable {ws:List ByteArray} {s:PS}
theorem eV:Mo s s.adv:=⟨rfl,zq4 _,zq4 _⟩
theorem bD(k:ByteArray):Mo s (bB ws k s):=by unfold bB;split <;> exact⟨rfl,zq4 _,zq4 _⟩
theorem lX(l:List UInt8)(c:UInt8):l.length<=(put l c).length/\plc l c<(put l c).length:=by
 unfold put;have:=EN l c;split
 .simp;omega
 .exact⟨zq4 _,by omega⟩
theorem uC:Mo s (cG ws s):=by
 unfold cG;split
 .exact⟨rfl,(lX _ _).1,zq4 _⟩
 .exact⟨rfl,zq4 _,zq4 _⟩
theorem uB:Lw (cG ws s).vars.length (rg ws s):=by
 unfold rg cG;split
 .exact zq1 (lX _ _).2
 .exact zq0 rfl
theorem fq:Mo s (dS ws s):=by
 unfold dS;split
 .exact eV
 .exact uC
theorem r7:Lw (dS ws s).vars.length (gU ws s):=by
 unfold gU dS;split
 .exact zq0 rfl
 .exact uB
theorem qc:Mo s (kD ws s):=by
 unfold kD;split
 .exact⟨rfl,zq4 _,(lX _ _).1⟩
 .exact fq
theorem Dt:Mo s (CJ ws s):=by
 unfold CJ;split
 .exact eV
 .exact bD _
theorem XB:Mo s (vh ws s):=by
 unfold vh;split
 .exact eV
 .exact(uC.trans Dt).trans fq
theorem E6:Mo s (Pm ws s):=((bD _).trans XB).trans (bD _)
theorem K7:Mo s (sG ws s):=by
 unfold sG;split
 .exact eV
 .split
  .exact(fq.trans eV).trans (bD _)
  .exact fq
theorem EZ:Mo s (EY ws s):=(eV.trans (bD _)).trans (bD _)
theorem O1:Mo s (mx ws s):=by
 unfold mx;split
 .exact eV
 .split
  .exact eV.trans uC
  .split
   .exact(uC.trans EZ).trans fq
   .exact(uC.trans (bD _)).trans K7
theorem XA:Lw (vh ws s).vars.length (zO ws s).v/\Lw (vh ws s).vars.length (zO ws s).ai/\(1<=(zO ws s).op/\(zO ws s).op<=9):=by
 unfold zO vh;split
 .exact⟨zq0 rfl,zq0 rfl,by decide⟩
 .refine⟨uB.up (Dt.trans fq).2.1,r7,?_⟩;show 1<=Rk ws (cG ws s)/\Rk ws (cG ws s)<=9;unfold Rk;split <;> decide
theorem Xo{v:Nat}(hv:Lw s.vars.length v):Lw (sG ws s).vars.length (zL ws v s).v/\Lw (sG ws s).vars.length (zL ws v s).ai/\(1<=(zL ws v s).op/\(zL ws v s).op<=6)/\(zL ws v s).ot=0:=by
 unfold zL sG;split
 .exact⟨hv,zq0 rfl,by show 1<=(4:Nat)/\(4:Nat)<=6;decide,rfl⟩
 .split
  .exact⟨hv.up ((fq.trans eV).trans (bD _)).2.1,r7.up (eV.trans (bD _)).2.1,by show 1<=(2:Nat)/\(2:Nat)<=6;decide,rfl⟩
  .exact⟨hv.up fq.2.1,r7,by show 1<=(1:Nat)/\(1:Nat)<=6;decide,rfl⟩
theorem Z2:Lw (mx ws s).vars.length (nj ws s).v/\Lw (mx ws s).vars.length (nj ws s).ai/\(1<=(nj ws s).op/\(nj ws s).op<=6)/\(nj ws s).ot=0:=by
 unfold nj mx;split
 .exact⟨zq0 rfl,zq0 rfl,by decide,rfl⟩
 .split
  .exact⟨uB,zq0 rfl,by show 1<=(5:Nat)/\(5:Nat)<=6;decide,rfl⟩
  .split
   .exact⟨uB.up (EZ.trans fq).2.1,r7,by show 1<=(3:Nat)/\(3:Nat)<=6;decide,rfl⟩
   .exact Xo (uB.up (bD _).2.1)
def r9(L b E:Nat)(M:List Nd):Prop:=∀k nd,M[k]?=some nd->Lw L nd.v/\Lw L nd.ai/\(1<=nd.op/\nd.op<=10)/\(nd.nx<=E/\nd.ot<=E)/\(uU nd=true->b+k<nd.ot)/\(nd.op≠10->nd.nx=b+k+1)/\(nd.op=10->nd.nx≠b+k)
theorem r9.nil(L b E:Nat):r9 L b E []:=λk nd h=>by simp at h
theorem r9.up{L L' b E E':Nat}{M:List Nd}(h:r9 L b E M)(hL:L<=L')(hE:E<=E'):r9 L' b E' M:=λk nd hk=>⟨(h k nd hk).1.up hL,(h k nd hk).2.1.up hL,(h k nd hk).2.2.1,by have:=(h k nd hk).2.2.2.1;omega,(h k nd hk).2.2.2.2⟩
theorem r9.app{L b E:Nat}{M N:List Nd}(h:r9 L b E M)(h':r9 L (b+M.length) E N):r9 L b E (M++N):=by
 intro k nd hk;by_cases hl:k<M.length
 .rw[getElem?_append_left hl]at hk;exact h k nd hk
 .rw[getElem?_append_right (by omega)]at hk;have:=h' _ nd hk;rw[show b+M.length+(k-M.length)=b+k by omega]at this;exact this
theorem r9.one{L b E:Nat}{nd:Nd}(h:Lw L nd.v/\Lw L nd.ai/\(1<=nd.op/\nd.op<=10)/\(nd.nx<=E/\nd.ot<=E)/\(uU nd=true->b<nd.ot)/\(nd.op≠10->nd.nx=b+1)/\(nd.op=10->nd.nx≠b)):r9 L b E [nd]:=by
 intro k nd' hk;cases k with
 |zero =>
  have:nd=nd':=by simpa using hk
  subst this;exact h
 |succ k=>simp at hk
def Ex(s t:PS):Prop:=∃M,t.nodes=s.nodes++M/\s.vars.length<=t.vars.length/\s.hid.length<=t.hid.length/\r9 t.vars.length s.nodes.length t.nodes.length M
theorem Mo.ex{t:PS}(h:Mo s t):Ex s t:=⟨[],by rw[h.1,append_nil],h.2.1,h.2.2,r9.nil _ _ _⟩
theorem Ex.trans{t u:PS}(h:Ex s t)(h':Ex t u):Ex s u:=by
 obtain⟨M,h1,h2,Gf,h3⟩:=h;obtain⟨N,g1,g2,g2',g3⟩:=h';refine⟨M++N,by rw[g1,h1,append_assoc],zq3 h2 g2,zq3 Gf g2',(h3.up g2 (by rw[g1,length_append];omega)).app ?_⟩;rw[h1,length_append]at g3;exact g3
theorem Z0:Ex s (Kr ws s):=by
 have hm:Mo s (bB ws lj (mx ws s)):=O1.trans (bD _);obtain⟨h1,h2,h3,h4⟩:=@Z2 ws s;have hv:=(@bD ws (mx ws s) lj).2.1;have hn:(Kr ws s).nodes=s.nodes++[{ nj ws s with nx:=s.nodes.length+1 }]:=by
  show(bB ws lj (mx ws s)).nodes++[{ nj ws s with nx:=(bB ws lj (mx ws s)).nodes.length+1 }]=_;rw[hm.1]
 refine⟨[{ nj ws s with nx:=s.nodes.length+1 }],hn,hm.2.1,hm.2.2,?_⟩;rw[hn,length_append];refine r9.one ⟨h1.up hv,h2.up hv,by show 1<=(nj ws s).op/\(nj ws s).op<=10;omega,⟨zq4 _,by show(nj ws s).ot<=_;rw[h4];exact zq5 _⟩,λh=>?_,λ_=>rfl,λh=>?_⟩
 .exfalso;have h':(nj ws s).op=7\/(nj ws s).op=8\/(nj ws s).op=9:=by simpa[uU] using h
  omega
 .exfalso;have h':(nj ws s).op=10:=h;omega
theorem nh{α:Type}(f:α->α)(t:α)(R:List α):∀(A:List α) {k:Nat},k=A.length->(A++t::R).modify k f=A++f t::R
 |[],k,h=>by subst h;rfl
 |a::A,k,h=>by subst h;simp[modify_succ_cons,nh f t R A rfl]
theorem qb(A R:List Nd)(t:Nd)(k n:Nat)(h:k=A.length):eB k n (A++t::R)=A++{ t with ot:=n }::R:=nh _ t R A h
theorem xx(A R:List Nd)(t:Nd)(k n:Nat)(h:k=A.length):gK k n (A++t::R)=A++{ t with nx:=n }::R:=nh _ t R A h
theorem Pp{blk:PS->PS}(hb:∀t,Ex t (blk t))(k:ByteArray):∃(tn:Nd) (M:List Nd),(blk (jq ws (bB ws k s))).nodes=s.nodes++tn::M/\s.vars.length<=(blk (jq ws (bB ws k s))).vars.length/\s.hid.length<=(blk (jq ws (bB ws k s))).hid.length/\r9 (blk (jq ws (bB ws k s))).vars.length (s.nodes.length+1) (s.nodes.length+1+M.length) M/\Lw (blk (jq ws (bB ws k s))).vars.length tn.v/\Lw (blk (jq ws (bB ws k s))).vars.length tn.ai/\(1<=tn.op/\tn.op<=9)/\tn.nx=s.nodes.length+1:=by
 obtain⟨M,h1,h2,Gf,h3⟩:=hb (jq ws (bB ws k s));have hm:Mo s (Pm ws (bB ws k s)):=(bD _).trans E6;have ht:(jq ws (bB ws k s)).nodes=s.nodes++[{ zO ws (bB ws fI (bB ws k s)) with nx:=s.nodes.length+1 }]:=by
  show(Pm ws (bB ws k s)).nodes++[{ zO ws (bB ws fI (bB ws k s)) with nx:=(Pm ws (bB ws k s)).nodes.length+1 }]=_;rw[hm.1]
 obtain⟨g1,g2,g3⟩:=@XA ws (bB ws fI (bB ws k s));have hv:(vh ws (bB ws fI (bB ws k s))).vars.length<=(blk (jq ws (bB ws k s))).vars.length:=zq3 (@bD ws (vh ws (bB ws fI (bB ws k s))) jh).2.1 h2;refine⟨{ zO ws (bB ws fI (bB ws k s)) with nx:=s.nodes.length+1 },M,by rw[h1,ht,append_assoc];rfl,zq3 hm.2.1 h2,zq3 hm.2.2 Gf,?_,g1.up hv,g2.up hv,g3,rfl⟩;rw[h1,length_append,ht,length_append]at h3;exact h3
theorem zB{L b m E:Nat}{tn:Nd}(h1:Lw L tn.v)(h2:Lw L tn.ai)(h3:1<=tn.op/\tn.op<=9)(h4:tn.nx=b+1)(h:b<m)(hm:m<=E):r9 L b E [{ tn with ot:=m }] :=
 r9.one ⟨h1,h2,by show 1<=tn.op/\tn.op<=10;omega,⟨by show tn.nx<=E;omega,hm⟩,λ_=>h,λ_=>h4,λe=>by have:tn.op=10:=e;omega⟩
theorem Gy{L b m E:Nat}(h:m≠b)(hm:m<=E):r9 L b E [{ lh with nx:=m }] :=
 r9.one ⟨zq0 rfl,zq0 rfl,by show 1<=(10:Nat)/\(10:Nat)<=10;decide,⟨hm,zq5 _⟩,λe=>by simp[uU,lh]at e,λe=>absurd rfl e,λ_=>h⟩
theorem Xs{blk:PS->PS}(hb:∀t,Ex t (blk t)):Ex s (Kd blk ws s):=by
 obtain⟨tn,M,h1,h2,Gf,h3,h4,h5,h6,h7⟩:=@Pp ws s blk hb Gz;unfold Kd;have hA:fO blk ws s=blk (jq ws (bB ws Gz s)):=rfl;rw[<-hA]at h1 h2 Gf h3 h4 h5;have hl:(fO blk ws s).nodes.length=s.nodes.length+1+M.length:=by rw[h1];simp;omega
 obtain⟨m,hm⟩:∃m,m=(fO blk ws s).nodes.length:=⟨_,rfl⟩;split
 .obtain⟨N,g1,g2,g2',g3⟩:=hb (sK s.nodes.length (fO blk ws s));have hB:(sK s.nodes.length (fO blk ws s)).nodes=s.nodes++{ tn with ot:=m+1 }::(M++[{ lh with nx:=m+1 }]):=by
   show eB s.nodes.length ((fO blk ws s).nodes++[{ lh with nx:=(fO blk ws s).nodes.length+1 }]).length ((fO blk ws s).nodes++[{ lh with nx:=(fO blk ws s).nodes.length+1 }])=_;rw[length_append,length_singleton,<-hm];rw[show(fO blk ws s).nodes++[{ lh with nx:=m+1 }]=s.nodes++tn::(M++[{ lh with nx:=m+1 }]) by rw[h1];simp];exact qb _ _ _ _ _ rfl
  have hBv:(sK s.nodes.length (fO blk ws s)).vars=(fO blk ws s).vars:=rfl;have hBh:(sK s.nodes.length (fO blk ws s)).hid=(fO blk ws s).hid:=rfl;have Vr:(sK s.nodes.length (fO blk ws s)).nodes.length=s.nodes.length+1+M.length+1:=by rw[hB];simp;omega
  rw[hBv]at g2;rw[hBh]at g2';rw[Vr]at g3;obtain⟨u,hu⟩:∃u,u=blk (sK s.nodes.length (fO blk ws s)):=⟨_,rfl⟩;rw[<-hu]at g1 g2 g2' g3 ⊢;have S1:u.nodes.length=s.nodes.length+1+M.length+1+N.length:=by rw[g1,length_append,Vr]
  have hn:(Q7 (fO blk ws s).nodes.length u).nodes=s.nodes++({ tn with ot:=m+1 }::(M++{ lh with nx:=u.nodes.length }::N)):=by
   show gK (fO blk ws s).nodes.length u.nodes.length u.nodes=_;have e:u.nodes=(s.nodes++{ tn with ot:=m+1 }::M)++{ lh with nx:=m+1 }::N:=(by rw[g1,hB];simp);have e2:=xx (s.nodes++{ tn with ot:=m+1 }::M) N { lh with nx:=m+1 } (fO blk ws s).nodes.length u.nodes.length (by rw[hl];simp;omega);rw[<-e]at e2;rw[e2];simp
  have gz:(Q7 (fO blk ws s).nodes.length u).nodes.length=u.nodes.length:=by show(gK _ _ _).length=_;exact ek _ _ _
  refine⟨{ tn with ot:=m+1 }::(M++{ lh with nx:=u.nodes.length }::N),hn,zq3 h2 g2,zq3 Gf g2',?_⟩;show r9 u.vars.length s.nodes.length (Q7 (fO blk ws s).nodes.length u).nodes.length ([{ tn with ot:=m+1 }]++(M++([{ lh with nx:=u.nodes.length }]++N)));rw[gz];refine(zB (h4.up g2) (h5.up g2) h6 h7 (by omega) (by omega)).app ((h3.up g2 (by omega)).app ((Gy ?_ (zq4 _)).app ?_))
  .rw[S1];simp;omega
  .show r9 u.vars.length (s.nodes.length+1+M.length+1) u.nodes.length N;exact g3
 .have hn:({ fO blk ws s with nodes:=eB s.nodes.length (fO blk ws s).nodes.length (fO blk ws s).nodes }:PS).nodes=s.nodes++({ tn with ot:=m }::M):=by
   show eB s.nodes.length (fO blk ws s).nodes.length (fO blk ws s).nodes=_;rw[<-hm,h1];exact qb _ _ _ _ _ rfl
  refine⟨{ tn with ot:=m }::M,hn,h2,Gf,?_⟩;rw[hn,show(s.nodes++({ tn with ot:=m }::M)).length=s.nodes.length+1+M.length by simp;omega];exact(zB h4 h5 h6 h7 (by omega) (by omega)).app h3
theorem Zo{blk:PS->PS}(hb:∀t,Ex t (blk t)):Ex s (CW blk ws s):=by
 obtain⟨tn,M,h1,h2,Gf,h3,h4,h5,h6,h7⟩:=@Pp ws s blk hb fT;have hA:rN blk ws s=blk (jq ws (bB ws fT s)):=rfl;rw[<-hA]at h1 h2 Gf h3 h4 h5;have hl:(rN blk ws s).nodes.length=s.nodes.length+1+M.length:=by rw[h1];simp;omega
 obtain⟨m,hm⟩:∃m,m=(rN blk ws s).nodes.length:=⟨_,rfl⟩;have hn:(CW blk ws s).nodes=s.nodes++({ tn with ot:=m+1 }::(M++[{ lh with nx:=s.nodes.length }])):=by
  show eB s.nodes.length ((rN blk ws s).nodes++[{ lh with nx:=(rN blk ws s).nodes.length+1 }]).length (gK (rN blk ws s).nodes.length s.nodes.length ((rN blk ws s).nodes++[{ lh with nx:=(rN blk ws s).nodes.length+1 }]))=_;rw[length_append,length_singleton,xx _ _ _ _ _ rfl,<-hm];rw[show(rN blk ws s).nodes++[{ lh with nx:=s.nodes.length }]=s.nodes++tn::(M++[{ lh with nx:=s.nodes.length }]) by rw[h1];simp];exact qb _ _ _ _ _ rfl
 have gz:(CW blk ws s).nodes.length=s.nodes.length+1+M.length+1:=by rw[hn];simp;omega
 refine⟨_,hn,h2,Gf,?_⟩;rw[gz];show r9 (rN blk ws s).vars.length s.nodes.length _ ([{ tn with ot:=m+1 }]++(M++[{ lh with nx:=s.nodes.length }]));exact(zB h4 h5 h6 h7 (by omega) (by omega)).app ((h3.up (zq4 _) (by omega)).app (Gy (by simp;omega) (by omega)))
theorem Xy{blk:PS->PS}(hb:∀t,Ex t (blk t)):Ex s (vf blk ws s):=by
 unfold vf;split
 .exact Xs hb
 .split
  .exact Zo hb
  .exact Z0
theorem Lr{c:PS->PS}(hc:∀t,Ex t (c t)):∀(n:Nat) (s:PS),Ex s (mV c ws n s)
 |0,s=>(Mo.refl s).ex
 |n+1,s=>by
  unfold mV;split
  .exact(Mo.refl s).ex
  .exact(hc s).trans (Lr hc n (c s))
theorem Le:∀(f:Nat) (s:PS),Ex s (FG ws f s)
 |0,s=>(Mo.refl s).ex
 |f+1,s=>((bD _).ex.trans (Lr (λt=>Xy (Le f)) _ _)).trans (bD _).ex
end
def Xk(t:PS)(k i:Nat):Prop:=t.failed=true\/(k=0/\i=0)\/(k=1/\i<t.vars.length)\/(k=2/\i<t.hid.length)
structure C4(s t:PS):Prop where
 v:s.vars.length<=t.vars.length
 h:s.hid.length<=t.hid.length
 f:s.failed=true->t.failed=true
theorem C4.trans{s t u:PS}(h:C4 s t)(h':C4 t u):C4 s u:=⟨zq3 h.v h'.v,zq3 h.h h'.h,λe=>h'.f (h.f e)⟩
theorem Xk.up{s t:PS}{k i:Nat}(h:Xk s k i)(hg:C4 s t):Xk t k i:=by
 have h1:=hg.v;have h2:=hg.h;rcases h with h|h|h|h
 .exact zq0 (hg.f h)
 .exact zq1 (zq0 h)
 .exact zq1 (zq1 (zq0 (by omega)))
 .exact zq1 (zq1 (zq1 (by omega)))
section
variable {ws:List ByteArray} {s:PS}
theorem Wl:C4 s (kD ws s):=⟨qc.2.1,qc.2.2,tW.bad s⟩
theorem Vm{k:ByteArray}(hk:k.toList≠[]):C4 s (bB ws k s):=⟨(bD k).2.1,(bD k).2.2,(tV hk).bad s⟩
theorem zn:Mo s (iJ ws s):=by
 unfold iJ;split
 .exact eV
 .split
  .exact eV
  .exact bD _
theorem ZV:C4 s (iJ ws s):=⟨zn.2.1,zn.2.2,G6.bad s⟩
theorem Us:Xk (kD ws s) (E5 ws s) (E4 ws s):=by
 unfold kD E5 E4;split
 .exact zq1 (zq1 (zq1 ⟨rfl,(lX _ _).2⟩))
 .unfold dS fE gU;split
  .exact zq1 (zq0 ⟨rfl,rfl⟩)
  .unfold cG rg;split
   .exact zq1 (zq1 (zq0 ⟨rfl,(lX _ _).2⟩))
   .exact zq0 rfl
def Wo(t:PS)(a:bt):Prop:=Xk t a.lk a.li/\Xk t a.rk a.ri/\a.k<=4
theorem Wo.up{t u:PS}{a:bt}(h:Wo t a)(hg:C4 t u):Wo u a:=⟨h.1.up hg,h.2.1.up hg,h.2.2⟩
theorem Zm:Mo s (GI ws s):=by
 have h1:Mo s (vM ws s):=bD _;have h2:Mo (vM ws s) (tI ws s):=qc.trans (bD _);have h3:Mo (tI ws s) (GI ws s):=qc.trans (bD _);exact(h1.trans h2).trans h3
theorem K9:Mo s (mm ws s):=by
 unfold mm;split
 .exact eV
 .split
  .exact eV.trans Zm
  .exact(qc.trans zn).trans qc
theorem aco:C4 s (mm ws s):=⟨K9.2.1,K9.2.2,oH.bad s⟩
theorem V9:C4 (kD ws (tI ws s)) (GI ws s):=by unfold GI;exact Vm Bz
theorem ae6:C4 (kD ws (vM ws s)) (GI ws s):=by
 have h:C4 (kD ws (vM ws s)) (tI ws s):=by unfold tI;exact Vm BB
 exact(h.trans Wl).trans V9
theorem akP:Wo (GI ws s) (Zl ws s):=⟨Us.up ae6,Us.up V9,zq4 4⟩
theorem acp:Wo (mm ws s) (FD ws s):=by
 unfold mm FD;split
 .exact⟨zq1 (zq0 ⟨rfl,rfl⟩),zq1 (zq0 ⟨rfl,rfl⟩),by decide⟩
 .split
  .exact akP
  .refine⟨(Us (ws:=ws) (s:=s)).up (ZV.trans Wl),Us,?_⟩;show ua ws (kD ws s)<=4;unfold ua;split
   .decide
   .split <;> decide
theorem Vp:∀(n:Nat) (s:PS),C4 s (pj ws n s).2/\∀a∈(pj ws n s).1,Wo (pj ws n s).2 a
 |0,s=>⟨⟨zq4 _,zq4 _,id⟩,λa ha=>by simp[pj]at ha⟩
 |n+1,s=>by
  unfold pj;split
  .obtain⟨h1,h2⟩:=Vp n (mm ws s.adv);have h3:C4 s.adv (mm ws s.adv):=aco;refine⟨⟨zq3 h3.v h1.v,zq3 h3.h h1.h,λe=>h1.f (h3.f e)⟩,λa ha=>?_⟩;rcases mem_cons.1 ha with rfl|ha
   .exact acp.up h1
   .exact h2 a ha
  .exact⟨⟨zq4 _,zq4 _,id⟩,λa ha=>by simp at ha⟩
theorem aio:∀a∈foA ws s,Wo (F9 ws s) a:=by
 obtain⟨h1,h2⟩:=Vp (ws:=ws) (ws.length+1) (mm ws s);intro a ha;rcases mem_cons.1 ha with rfl|ha
 .exact acp.up h1
 .exact h2 a ha
end
section
variable {w W:World} {S:Nat} {c:Cd} {c0 hv kv wv:Value} {KV WV:List Value} {K:List (List En)} {s:Sr} {x:FE}
theorem Sh.wcs{wB wC gA cA m n:Nat}(h:Sh w S c c0 hv kv (.slice (some ⟨wB,0,none⟩) m wC) KV WV K s)(hn:n<K.length)(hW:WV.getD n aH=.slice (some ⟨gA,0,none⟩) 5 cA):w.cell? ⟨S,4,none⟩=some (.slice (some ⟨wB,0,none⟩) m wC)/\w.cell? ⟨wB,n,none⟩=some (.slice (some ⟨gA,0,none⟩) 5 cA)/\(∀t,t<5->w.cell? ⟨gA,t,none⟩=some (.bool ((s.wr.getD n []).getD t false)))/\∀t,w.frozen? ⟨gA,t,none⟩=false:=by
 obtain⟨g,cap,g2,cap2,h1,h2,h3,h4,h5⟩:=h.wc hn;rw[hW]at h2;simp only[Value.slice.injEq,Option.some.injEq,Addr.mk.injEq,and_true,true_and]at h1 h2;obtain⟨rfl,-,-⟩:=h1;obtain⟨rfl,rfl⟩:=h2;exact⟨h.bs.cell 4 rfl,h3,h4,h5⟩
theorem Lp.turn{w W:World}{QS:List Value}{K0:List (List En)}{v tv:Value}{L Lt:List FE}{j Y O:Nat}(h:Lp w W S c c0 hv kv wv QS WV K0 [] KV K s v L j (Y::O::a6 tv Lt))(ht:Fl W 0 tv Lt)(hT:∀y∈Lt,Td y.f)(hn:∀k∈a6 tv Lt,w.heap.size<=k)(hY:Y ∉ a6 tv Lt):Lp w W S c c0 hv kv wv QS WV K0 [] KV K s tv Lt 0 [Y]:=by
 have e:kU tv Lt 0=a6 tv Lt:=by simp[kU,a6]
 refine⟨h.sh,h.kl,h.go,⟨ht.pend,hT,λk hk=>?_⟩,λk hk=>?_,λk hk=>zq1 ?_⟩
 .rw[e]at hk;exact(h.ap k (mem_cons_of_mem _ (mem_cons_of_mem _ hk))).1
 .rw[mem_singleton]at hk;subst hk;obtain⟨a1,-,a3⟩:=h.ap k (by simp);exact⟨a1,by rw[e];exact hY,a3⟩
 .rw[e]at hk;exact hn k hk
theorem Uq{Q:Nat}{ws:List ByteArray}{ps:PS}{al:List bt}{vv pv nvv:Value}(h:Sh w S c (.pointer (some ⟨Q,0,none⟩)) hv kv wv KV WV K s)(hC:Cp w Q ws ps al vv pv nvv)(fs:c.nds=ps.nodes)(hN:J9 c.nds)(hF:dm w x.A x.f x.av x.ov)(hT:Td x.f)(hd:∀k∈x.bs,k ∉ cD S hv kv wv KV WV){n:Nat}(hn:n<K.length)(vt:K.length<=100000){fuel:Nat}(aY:(qB c fuel n x.f s).ok=true):
  Calls prog 173 #[.pointer (some ⟨S,0,none⟩),.int .i64 n,.pointer (some ⟨x.A,0,none⟩)] w λe w'=>e=.returned (.tuple #[])/\fM w S c (.pointer (some ⟨Q,0,none⟩)) hv kv wv KV WV K [] (qB c fuel n x.f s) w':=by
 have gz:=h.nl;obtain⟨nd,cH⟩:∃nd,nd=c.nds.getD n bj:=⟨_,rfl⟩;have yF:=hN.v n;have dV:=hN.op n;have qu:=hN.nx n (by omega);have Qj:=hN.ot n (by omega);rw[<-cH]at yF dV qu Qj;have hndA:Oc ps.nodes n=nd:=by rw[cH,fs];rfl
 have HAT:Hid (Calls prog 103 #[.pointer (some ⟨Q,0,none⟩),.int .i64 n] w λe w'=>e=.returned (.agg #[.int .i64 (nd.op:Int),.int .i64 (nd.v:Int),.int .i64 (nd.ak:Int),.int .i64 (nd.ai:Int),.int .i64 (nd.nx:Int),.int .i64 (nd.ot:Int)])/\Below w.heap.size w w'):=ab (by
  have h1:=Dl n hC (by rw[<-fs];omega);rw[hndA]at h1;exact h1)
 obtain⟨⟨onx,oot,nu,da,fu⟩,ho⟩:∃o,o=d7 nd x.f:=⟨_,rfl⟩;have htd:(∀x∈onx,Td x)/\∀x∈oot,Td x:=by
  have h1:=pG yF.1 yF.2 hT;rw[<-ho]at h1;exact h1
 obtain⟨b1,aO⟩:∃b1,b1=(decide (nd.op=0)&&!decide (fJ x.f=[])):=⟨_,rfl⟩;have aE:qB c fuel n x.f s=oot.foldl (λs g=>eo c fuel n nd.ot g s) (onx.foldl (λs g=>eo c fuel n nd.nx g s) (fuS fu (wrI da n 4 (wrI nu n 3 (wrI b1 n 2 s))))):=by
  unfold qB;simp only;rw[<-cH,<-ho,<-aO]
 rw[aE]at aY ⊢;have aep:onx≠[]->nd.nx<K.length:=λe=>by rw[<-gz];exact qu (Dy (by rw[<-ho];exact e))
 have aeA:oot≠[]->nd.ot<K.length:=λe=>by rw[<-gz];exact Qj (Dz (by rw[<-ho];exact e))
 obtain⟨wB,wC,gA,cA,By,So,-,-,-⟩:=h.wc hn;subst By;have c0':=h.bs.cell 0 rfl;have H:=ab h;have HF:=ab hF;have HT:=ab hT;have HD:=ab hd;have HO:=ab ho;have cY:=ab aO;have Fp:=ab htd;have nz:=ab (zq2 aep aeA);have kj:=ab aY;have QQ:=ab So;have HV4:=ab (zq2 yF dV);obtain⟨dQ,cW⟩:∃dQ:World->Prop,dQ=λw'=>fM w S c (.pointer (some ⟨Q,0,none⟩)) hv kv (.slice (some ⟨wB,0,none⟩) K.length wC) KV WV K [] (oot.foldl (λs g=>eo c fuel n nd.ot g s) (onx.foldl (λs g=>eo c fuel n nd.nx g s) (fuS fu (wrI da n 4 (wrI nu n 3 (wrI b1 n 2 s)))))) w':=⟨_,rfl⟩;have eU:=ab cW;rw[show(fun(e:Ending) (w':World)=>e=.returned (.tuple #[])/\fM w S c (.pointer (some ⟨Q,0,none⟩)) hv kv (.slice (some ⟨wB,0,none⟩) K.length wC) KV WV K [] (oot.foldl (λs g=>eo c fuel n nd.ot g s) (onx.foldl (λs g=>eo c fuel n nd.nx g s) (fuS fu (wrI da n 4 (wrI nu n 3 (wrI b1 n 2 s)))))) w')=(λe w'=>e=.returned (.tuple #[])/\dQ w') by rw[cW]];have i1:(0:Int)<=(n:Int):=by omega
 have i2:(n:Int)<(K.length:Int):=by omega
 clear h hC fs hN hF hT hd cH yF dV qu Qj hndA htd aE aep aeA aY So ho aO cW gz;go_enter func173,ntmps173;go_wp2_with fail
 refine(uh HAT).mono ?_;rintro e w1 ⟨rfl,St⟩;obtain⟨W2,d9⟩:∃W2,W2=w1.alloc (.cells #[Value.int .i64 (nd.op:Int),.int .i64 (nd.v:Int),.int .i64 (nd.ak:Int),.int .i64 (nd.ai:Int),.int .i64 (nd.nx:Int),.int .i64 (nd.ot:Int)] 186):=⟨_,rfl⟩;have aT:Below w1.heap.size w1 W2:=by rw[d9];exact af w1 _
 have ir:Bk W2 w1.heap.size 186 nd.cells:=by rw[d9];exact Bk.new w1 _ _
 have ax:=St.trans (aT.mono St.size);obtain⟨Y,mF⟩:∃Y,Y=w1.heap.size:=⟨_,rfl⟩;rw[<-mF]at ir;have hYw:w.heap.size<=Y:=by rw[mF];exact St.size
 have y0:=ir.cell 0 rfl;have H2:=ab (zq2 ax (zq2 ir hYw));have zH:=ab (tJ ((uh HF).below ax) (uh HT).ok);clear aT ir ax St hYw HAT c0';go_upto_region 1 with fail;rw[<-d9,<-mF];clear d9 mF;go_cut [26] (λbv wx=>bv=.bool b1/\Hid (Below W2.heap.size W2 wx))
 case first =>
  by_cases Jg:nd.op=0
  .have d0:((nd.op:Int)==(0:Int))=true:=(by simp[Jg]);by_cases qU:fJ x.f=[]
   .have d1:decide (0<(fJ x.f).length)=false:=(by rw[qU];rfl);have Kx:Hid (b1=false):=ab (by rw[uh cY];simp[qU]);clear Jg qU;go_wp2_with fail
    refine(uh zH).mono ?_;rintro e w3 ⟨lv,rfl,mH,bF⟩;obtain⟨la,lc,gF,-,-⟩:=ah mH;subst gF;have mN:=ab bF;clear mH bF;go_wp2_with fail
    go_meet
    exact⟨by rw[uh Kx],mN⟩
   .have d1:decide (0<(fJ x.f).length)=true:=by
     have:(fJ x.f).length≠0:=λe=>qU (length_eq_zero_iff.1 e);rw[decide_eq_true_eq];omega
    have Kx:Hid (b1=true):=ab (by rw[uh cY];simp[Jg,qU]);clear Jg qU;go_wp2_with fail
    refine(uh zH).mono ?_;rintro e w3 ⟨lv,rfl,mH,bF⟩;obtain⟨la,lc,gF,-,-⟩:=ah mH;subst gF;have mN:=ab bF;clear mH bF;go_wp2_with fail
    go_meet
    exact⟨by rw[uh Kx],mN⟩
  .have d0:((nd.op:Int)==(0:Int))=false:=(by simp;omega);have Kx:Hid (b1=false):=ab (by rw[uh cY];simp[Jg]);clear Jg;go_wp2_with fail
   go_meet
   exact⟨by rw[uh Kx],ab (Below.refl _ _)⟩
 case rest =>
  obtain⟨rfl,DN⟩:=hcut;have h3:=((uh H).below (uh H2).1).below (uh DN);have bF:=(uh H2).1.trans ((uh DN).mono (uh H2).1.size);have hY3:=(uh H2).2.1.below (uh DN);have yr:=(uh HF).below bF;have H3:=ab (zq2 h3 (zq2 (fL.below (F:=(cD S hv kv (.slice (some ⟨wB,0,none⟩) K.length wC) KV WV)) (D:=dK K) (X:=[]) bF) (zq2 hY3 yr)));clear h3 bF hY3 yr zH y0;go_upto_if 26 with fail
  go_cut [] (λwx=>Hid (Sh wx S c (.pointer (some ⟨Q,0,none⟩)) hv kv (.slice (some ⟨wB,0,none⟩) K.length wC) KV WV K (wrI b1 n 2 s)/\fL w wx (cD S hv kv (.slice (some ⟨wB,0,none⟩) K.length wC) KV WV) (cD S hv kv (.slice (some ⟨wB,0,none⟩) K.length wC) KV WV) (dK K) (dK K) []/\Bk wx Y 186 nd.cells/\dm wx x.A x.f x.av x.ov))
  case first =>
   cases b1
   rotate_left
   .obtain⟨h3,hg3,hY3,yr⟩:=uh H3;obtain⟨d4,dw,dt,dz⟩:=h3.wcs hn (uh QQ);have dt':=dt 2 (by omega);have dz':=dz 2;obtain⟨hb,uM⟩:=h3.bad hn (t:=2) (by omega) (uh QQ);have hYg:Y≠gA:=λe=>by
     have h1:=(uh H).lt gA uM;have h2:=(uh H2).2.2;omega
    have HN:Hid (Sh (wc.setCell ⟨gA,2,none⟩ (.bool true)) S c (.pointer (some ⟨Q,0,none⟩)) hv kv (.slice (some ⟨wB,0,none⟩) K.length wC) KV WV K (wrI true n 2 s)/\fL w (wc.setCell ⟨gA,2,none⟩ (.bool true)) (cD S hv kv (.slice (some ⟨wB,0,none⟩) K.length wC) KV WV) (cD S hv kv (.slice (some ⟨wB,0,none⟩) K.length wC) KV WV) (dK K) (dK K) []/\Bk (wc.setCell ⟨gA,2,none⟩ (.bool true)) Y 186 nd.cells/\dm (wc.setCell ⟨gA,2,none⟩ (.bool true)) x.A x.f x.av x.ov):=ab (by
     rw[show(wrI true n 2 s)=mf n 2 s from rfl];exact⟨hb,hg3.trans (fL.stp (X:=[]) ((am.refl [gA] wc).setCell (p:=⟨gA,2,none⟩) (zq0 (by simp)) (.bool true)) (λk hk=>zq0 (by rw[mem_singleton]at hk;rw[hk];exact uM))) (λk hk=>by simp at hk),hY3.setO (p:=⟨gA,2,none⟩) (λe=>hYg e.symm) _,yr.of_eq (λk hk=>heap_setCell _ _ _ _ (λe=>uh HD k hk (by rw[show k=gA from e];exact uM)))⟩)
    clear h3 hg3 hY3 yr dt dz hb uM hYg H3;go_wp2_with fail
    go_meet
    exact HN
   .have HN:Hid (Sh wc S c (.pointer (some ⟨Q,0,none⟩)) hv kv (.slice (some ⟨wB,0,none⟩) K.length wC) KV WV K (wrI false n 2 s)/\fL w wc (cD S hv kv (.slice (some ⟨wB,0,none⟩) K.length wC) KV WV) (cD S hv kv (.slice (some ⟨wB,0,none⟩) K.length wC) KV WV) (dK K) (dK K) []/\Bk wc Y 186 nd.cells/\dm wc x.A x.f x.av x.ov):=ab (by
     rw[show(wrI false n 2 s)=s from rfl];exact uh H3)
    clear H3;go_wp2_with fail
    go_meet
    exact HN
  case rest =>
   obtain⟨h4,Kk,VB,pL⟩:=uh hcut;have y0:=VB.cell 0 rfl;have y1:=VB.cell 1 rfl;have y2:=VB.cell 2 rfl;have y3:=VB.cell 3 rfl;have y4:=VB.cell 4 rfl;have y5:=VB.cell 5 rfl;have Ff:=ab (LN (n:=nd) pL (uh HT) (uh HV4).1.1 (uh HV4).1.2 (uh HV4).2);unfold Qp at Ff;have H4:=ab (zq2 h4 (zq2 Kk VB));clear h4 Kk VB pL hcut H3;go_wp2_with fail
   refine(uh Ff).mono ?_;rintro e w5 ⟨O,rfl,nv,tv,Ln,Lt,qW,jg,vH,bZ,b6⟩;rw[<-uh HO]at qW jg vH;simp only at qW jg vH;have zV:=(uh H4).2.2.lt;have s9:∀k,w.heap.size<=k->(k ∉ (cD S hv kv (.slice (some ⟨wB,0,none⟩) K.length wC) KV WV)/\k ∉ dK K)/\w.heap.size<=k:=λk hk=>⟨⟨λe=>by have:=(uh H).lt k e;omega,λe=>by have:=(uh H).drlt k e;omega⟩,hk⟩;have HX:Hid (Sx w w5 S c (.pointer (some ⟨Q,0,none⟩)) hv kv (.slice (some ⟨wB,0,none⟩) K.length wC) KV WV K (wrI b1 n 2 s) O nu da fu nv tv Ln Lt Y nd):=ab ⟨(uh H4).1.below b6,(uh H4).2.1.trans (fL.below (X:=[]) b6) (λk hk=>by simp at hk),qW,(uh H4).2.2.below b6,λk hk=>by
    rcases mem_cons.1 hk with p|p
    .rw[p];exact s9 Y (uh H2).2.2
    .exact s9 k (zq3 (uh H4).2.1.st.size (bZ k p)),λe=>by have:=bZ Y e;omega⟩
   have HM:=ab (zq2 jg vH);clear qW jg vH bZ b6 zV s9 H4 Ff y0 y1 y2 y3 y4 y5;have o2:=(uh HX).oo.bk.cell 2 rfl;go_upto_if 41 with fail
   go_cut [] (λwx=>Hid (Sx w wx S c (.pointer (some ⟨Q,0,none⟩)) hv kv (.slice (some ⟨wB,0,none⟩) K.length wC) KV WV K (wrI nu n 3 (wrI b1 n 2 s)) O nu da fu nv tv Ln Lt Y nd))
   case first =>
    cases nu
    .go_wp2_with fail
     go_meet
     exact HX
    .obtain⟨d4,dw,dt,dz⟩:=(uh HX).sh.wcs hn (uh QQ);have dt':=dt 3 (by omega);have dz':=dz 3;have HN:=ab ((uh HX).bad hn (t:=3) (by omega) (uh QQ));clear dt dz;go_wp2_with fail
     go_meet
     exact HN
   case rest =>
   clear o2 HX;have HX:=ab (uh hcut);clear hcut;have o3:=(uh HX).oo.bk.cell 3 rfl;go_upto_if 53 with fail
   go_cut [] (λwx=>Hid (Sx w wx S c (.pointer (some ⟨Q,0,none⟩)) hv kv (.slice (some ⟨wB,0,none⟩) K.length wC) KV WV K (wrI da n 4 (wrI nu n 3 (wrI b1 n 2 s))) O nu da fu nv tv Ln Lt Y nd))
   case first =>
    cases da
    .go_wp2_with fail
     go_meet
     exact HX
    .obtain⟨d4,dw,dt,dz⟩:=(uh HX).sh.wcs hn (uh QQ);have dt':=dt 4 (by omega);have dz':=dz 4;have HN:=ab ((uh HX).bad hn (t:=4) (by omega) (uh QQ));clear dt dz;go_wp2_with fail
     go_meet
     exact HN
   case rest =>
   clear o3 HX;have HX:=ab (uh hcut);clear hcut;have o4:=(uh HX).oo.bk.cell 4 rfl;go_upto_if 65 with fail
   go_cut [] (λwx=>Hid (Sx w wx S c (.pointer (some ⟨Q,0,none⟩)) hv kv (.slice (some ⟨wB,0,none⟩) K.length wC) KV WV K (fuS fu (wrI da n 4 (wrI nu n 3 (wrI b1 n 2 s)))) O nu da fu nv tv Ln Lt Y nd))
   case first =>
    cases fu
    .go_wp2_with fail
     go_meet
     exact ab (by rw[show fuS false (wrI da n 4 (wrI nu n 3 (wrI b1 n 2 s)))=(wrI da n 4 (wrI nu n 3 (wrI b1 n 2 s))) by unfold fuS;rw[Bool.or_false]];exact uh HX)
    .have e8:=(uh HX).sh.bs.cell 8 rfl;have z8:=(uh HX).sh.bs.frz 8;have HN:=ab (uh HX).full;go_wp2_with fail
     go_meet
     exact ab (by rw[show fuS true (wrI da n 4 (wrI nu n 3 (wrI b1 n 2 s)))={ (wrI da n 4 (wrI nu n 3 (wrI b1 n 2 s))) with fu:=true } by unfold fuS;rw[Bool.or_true]];exact uh HN)
   case rest =>
   clear o4 HX;obtain⟨s2,ce⟩:∃s2,s2=(fuS fu (wrI da n 4 (wrI nu n 3 (wrI b1 n 2 s)))):=⟨_,rfl⟩;rw[<-ce]at hcut eU kj;obtain⟨s3,dP⟩:∃s3,s3=onx.foldl (λs g=>eo c fuel n nd.nx g s) s2:=⟨_,rfl⟩;rw[<-dP]at eU kj;have hX:=uh hcut;have htLn:∀y∈Ln,Td y.f:=λy hy=>(uh Fp).1 _ (by rw[<-(uh HM).1];exact mem_map_of_mem hy);have htLt:∀y∈Lt,Td y.f:=λy hy=>(uh Fp).2 _ (by rw[<-(uh HM).2];exact mem_map_of_mem hy);have Km:=hX.lp htLn;have bA:Hid ((∀k∈a6 tv Lt,w.heap.size<=k)/\Y ∉ a6 tv Lt/\∀y∈Lt,Td y.f):=ab ⟨λk hk=>(hX.on k (by simp only[dU,mem_cons,mem_append];exact zq1 (zq1 (zq1 hk)))).2,λe=>hX.yn (by simp only[dU,mem_cons,mem_append];exact zq1 (zq1 e)),htLt⟩;obtain⟨na,nc,zY,ajV,ajW⟩:=ah hX.oo.nx.row;obtain⟨ta,tc,htv,akm,akn⟩:=ah hX.oo.ot.row;have oc:=hX.oo.bk.cell 0 rfl;have bR:Hid (Lp w wc S c (.pointer (some ⟨Q,0,none⟩)) hv kv (.slice (some ⟨wB,0,none⟩) K.length wC) KV WV K [] KV K s2 nv Ln 0 (Y::O::a6 tv Lt)/\((Ln.drop 0).map (·.f)).foldl (λs g=>eo c fuel n nd.nx g s) s2=s3/\Bk wc Y 186 nd.cells/\Bk wc O 280 [nv,tv,.bool nu,.bool da,.bool fu]/\Fl wc 0 tv Lt):=ab ⟨Km,by rw[drop_zero,(uh HM).1,dP],hX.bx,hX.oo.bk,hX.oo.ot⟩;subst zY;subst htv;have apu:Ln.length<=9223372036854775807:=(by omega);have apv:Lt.length<=9223372036854775807:=(by omega);clear hX Km htLn htLt ce dP hcut ajV ajW akm akn;go_wp2_with fail
   go_loopg [74] Ln.length (λgn iv wx=>∃(j:Nat) (KV':List Value) (K':List (List En)) (s':Sr),j+gn=Ln.length/\iv=.int .i64 j/\Hid (Lp w wx S c (.pointer (some ⟨Q,0,none⟩)) hv kv (.slice (some ⟨wB,0,none⟩) K.length wC) KV WV K [] KV' K' s' (.slice na Ln.length nc) Ln j (Y::O::a6 (.slice ta Lt.length tc) Lt)/\((Ln.drop j).map (·.f)).foldl (λs g=>eo c fuel n nd.nx g s) s'=s3/\Bk wx Y 186 nd.cells/\Bk wx O 280 [.slice na Ln.length nc,.slice ta Lt.length tc,.bool nu,.bool da,.bool fu]/\Fl wx 0 (.slice ta Lt.length tc) Lt))
   case atStart=>exact⟨0,KV,K,s2,by omega,rfl,bR⟩
   case round =>
    clear bR oc;obtain⟨j,KV',K',s',wU,rfl,hI⟩:=hrel;obtain⟨G1,wK⟩:∃G1,G1=gk:=⟨_,rfl⟩;by_cases ar:j<Ln.length
    .have gx:decide ((j:Int)<(Ln.length:Int))=true:=(by simp;omega);obtain⟨h1,h2,h3,h4,h5⟩:=uh hI;obtain⟨g2,cap2,cS,aq⟩:=h1.pn.pe.cell ar;simp only[Value.slice.injEq,true_and]at cS;obtain⟨rfl,rfl⟩:=cS;obtain⟨n1,-,-,-,n5⟩:=h1.pn.pe.next ar;have NB:=h1.pn.td _ (getElem_mem ar);have tj:∀k∈Ln[j].bs,k ∉ cD S hv kv (.slice (some ⟨wB,0,none⟩) K.length wC) KV' WV/\k ∉ dK K':=λk hk=>h1.pn.fd k (n5 k hk);have lO:Ln.drop j=Ln[j]::Ln.drop (j+1):=drop_eq_getElem_cons ar;rw[lO,map_cons,foldl_cons]at h2;have n8:(eo c fuel n nd.nx Ln[j].f s').ok=true:=gf _ (by rw[h2];exact gf _ (uh kj));have aM:onx≠[]:=λe=>by
      have h9:=congrArg List.length (uh HM).1;rw[e,length_map,length_nil]at h9;omega
     have hnn:=(uh nz).1 aM;have gy:=h1.kl;have y4:=h3.cell 4 rfl;have Yb:∀w' ,fM wr S c (.pointer (some ⟨Q,0,none⟩)) hv kv (.slice (some ⟨wB,0,none⟩) K.length wC) KV' WV K' Ln[j].bs (eo c fuel n nd.nx Ln[j].f s') w'->∃qH K2,Lp w w' S c (.pointer (some ⟨Q,0,none⟩)) hv kv (.slice (some ⟨wB,0,none⟩) K.length wC) KV WV K [] qH K2 (eo c fuel n nd.nx Ln[j].f s') (.slice (some ⟨g2,0,none⟩) Ln.length nc) Ln (j+1) (Y::O::a6 (.slice ta Lt.length tc) Lt)/\Bk w' Y 186 nd.cells/\Bk w' O 280 [.slice (some ⟨g2,0,none⟩) Ln.length nc,.slice ta Lt.length tc,.bool nu,.bool da,.bool fu]/\Fl w' 0 (.slice ta Lt.length tc) Lt:=λw' hP=>by
      obtain⟨qH,K2,q1,q2⟩:=h1.next ar hP;exact⟨qH,K2,q1,h3.of_eq (q2 Y (by simp)),h4.of_eq (q2 O (by simp)),h5.of_eq (λk hk=>q2 k (mem_cons_of_mem _ (mem_cons_of_mem _ hk)))⟩
     obtain⟨y,hy⟩:∃y,y=Ln[j]:=⟨_,rfl⟩;rw[<-hy]at aq n1 NB tj h2 n8 Yb;have Gw:y.p=.pointer (some ⟨y.A,0,none⟩):=rfl;rw[Gw]at aq;have Qw:=ab (pA h1.sh n1 NB tj (a:=n) (n:=nd.nx) (by omega) (by omega) (by omega) n8);have vY:=ab (zq2 Yb h2);have k1:(0:Int)<=(j:Int):=(by omega);have k2:(j:Int)<(Ln.length:Int):=(by omega);clear h1 h2 h3 h4 h5 n1 n5 NB tj lO n8 aM hnn gy Yb hy Gw hI;go_wp2_with fail
     refine(uh Qw).mono ?_;rintro e w6 ⟨rfl,hP⟩;obtain⟨qH,K2,q1,q2,q3,q4⟩:=(uh vY).1 w6 hP;have HN:=ab (zq2 q1 (zq2 (uh vY).2 (zq2 q2 (zq2 q3 q4))));clear hP q1 q2 q3 q4 Qw vY y4 aq;go_wp2_with fail
     go_roundg (G1-1)
     case rel=>exact⟨j+1,qH,K2,_,by omega,by go_num,HN⟩
     case measure=>omega
    .have gx:decide ((j:Int)<(Ln.length:Int))=false:=(by simp;omega);obtain⟨h1,h2,h3,h4,h5⟩:=uh hI;rw[drop_eq_nil_of_le (by omega)]at h2;have dP:s'=s3:=h2;subst dP;have o1:=h4.cell 1 rfl;have mi:Hid (Lp w wr S c (.pointer (some ⟨Q,0,none⟩)) hv kv (.slice (some ⟨wB,0,none⟩) K.length wC) KV WV K [] KV' K' s' (.slice ta Lt.length tc) Lt 0 [Y]/\((Lt.drop 0).map (·.f)).foldl (λs g=>eo c fuel n nd.ot g s) s'=oot.foldl (λs g=>eo c fuel n nd.ot g s) s'/\Bk wr Y 186 nd.cells):=ab ⟨h1.turn h5 (uh bA).2.2 (uh bA).1 (uh bA).2.1,by rw[drop_zero,(uh HM).2],h3⟩;clear h1 h2 h3 h4 h5 hI;go_wp2_with fail
     go_loopg [90] Lt.length (λgn iv wx=>∃(j:Nat) (qH:List Value) (K2:List (List En)) (s2:Sr),j+gn=Lt.length/\iv=.int .i64 j/\Hid (Lp w wx S c (.pointer (some ⟨Q,0,none⟩)) hv kv (.slice (some ⟨wB,0,none⟩) K.length wC) KV WV K [] qH K2 s2 (.slice ta Lt.length tc) Lt j [Y]/\((Lt.drop j).map (·.f)).foldl (λs g=>eo c fuel n nd.ot g s) s2=oot.foldl (λs g=>eo c fuel n nd.ot g s) s'/\Bk wx Y 186 nd.cells))
     case atStart=>exact⟨0,KV',K',s',by omega,rfl,mi⟩
     case round =>
      clear mi o1;obtain⟨i,qH,K2,sb,ap9,rfl,hI⟩:=hrel;obtain⟨G2,AY⟩:∃G2,G2=gk:=⟨_,rfl⟩;by_cases bf:i<Lt.length
      .have DX:decide ((i:Int)<(Lt.length:Int))=true:=(by simp;omega);obtain⟨h1,h2,h3⟩:=uh hI;obtain⟨g2,cap2,cS,aq⟩:=h1.pn.pe.cell bf;simp only[Value.slice.injEq,true_and]at cS;obtain⟨rfl,rfl⟩:=cS;obtain⟨n1,-,-,-,n5⟩:=h1.pn.pe.next bf;have NB:=h1.pn.td _ (getElem_mem bf);have tj:∀k∈Lt[i].bs,k ∉ cD S hv kv (.slice (some ⟨wB,0,none⟩) K.length wC) qH WV/\k ∉ dK K2:=λk hk=>h1.pn.fd k (n5 k hk);have lO:Lt.drop i=Lt[i]::Lt.drop (i+1):=drop_eq_getElem_cons bf;rw[lO,map_cons,foldl_cons]at h2;have n8:(eo c fuel n nd.ot Lt[i].f sb).ok=true:=gf _ (by rw[h2];exact uh kj);have aM:oot≠[]:=λe=>by
        have h9:=congrArg List.length (uh HM).2;rw[e,length_map,length_nil]at h9;omega
       have hnn:=(uh nz).2 aM;have gy:=h1.kl;have y5:=h3.cell 5 rfl;have Yb:∀w' ,fM wr S c (.pointer (some ⟨Q,0,none⟩)) hv kv (.slice (some ⟨wB,0,none⟩) K.length wC) qH WV K2 Lt[i].bs (eo c fuel n nd.ot Lt[i].f sb) w'->∃Xe K3,Lp w w' S c (.pointer (some ⟨Q,0,none⟩)) hv kv (.slice (some ⟨wB,0,none⟩) K.length wC) KV WV K [] Xe K3 (eo c fuel n nd.ot Lt[i].f sb) (.slice (some ⟨g2,0,none⟩) Lt.length tc) Lt (i+1) [Y]/\Bk w' Y 186 nd.cells:=λw' hP=>by
        obtain⟨Xe,K3,q1,q2⟩:=h1.next bf hP;exact⟨Xe,K3,q1,h3.of_eq (q2 Y (by simp))⟩
       obtain⟨y,hy⟩:∃y,y=Lt[i]:=⟨_,rfl⟩;rw[<-hy]at aq n1 NB tj h2 n8 Yb;have Gw:y.p=.pointer (some ⟨y.A,0,none⟩):=rfl;rw[Gw]at aq;have Qw:=ab (pA h1.sh n1 NB tj (a:=n) (n:=nd.ot) (by omega) (by omega) (by omega) n8);have vY:=ab (zq2 Yb h2);have k1:(0:Int)<=(i:Int):=(by omega);have k2:(i:Int)<(Lt.length:Int):=(by omega);clear h1 h2 h3 n1 n5 NB tj lO n8 aM hnn gy Yb hy Gw hI;go_wp2_with fail
       refine(uh Qw).mono ?_;rintro e w6 ⟨rfl,hP⟩;obtain⟨Xe,K3,q1,q2⟩:=(uh vY).1 w6 hP;have HN:=ab (zq2 q1 (zq2 (uh vY).2 q2));clear hP q1 q2 Qw vY y5 aq;go_wp2_with fail
       go_roundg (G2-1)
       case rel=>exact⟨i+1,Xe,K3,_,by omega,by go_num,HN⟩
       case measure=>omega
      .have DX:decide ((i:Int)<(Lt.length:Int))=false:=(by simp;omega);have hP:dQ wr:=by
        obtain⟨h1,h2,h3⟩:=uh hI;rw[drop_eq_nil_of_le (by omega)]at h2;rw[uh eU,<-h2];exact h1.end'
       have HP:=ab hP;clear hP hI;go_wp2_with fail
       go_end0
       exact⟨rfl,uh HP⟩
end
theorem Fa(b:Bool)(n k:Nat)(s:Sr):(wrI b n k s).ok=s.ok:=by unfold wrI;split <;> rfl
theorem Pb{c:Cd}{fuel n:Nat}{f:CF}{s:Sr}(h:(qB c fuel n f s).ok=true):s.ok=true:=by
 unfold qB at h;simp only at h;have h1:=gf _ (gf _ h);have h2:(wrI (d7 (c.nds.getD n bj) f).da n 4 (wrI (d7 (c.nds.getD n bj) f).nu n 3 (wrI (decide ((c.nds.getD n bj).op=0)&&!decide (fJ f=[])) n 2 s))).ok=true:=h1;rw[Fa,Fa,Fa]at h2;exact h2
theorem oW{c:Cd}{fuel n:Nat}:∀(l:List CF) {s:Sr},(pu c fuel n l s).ok=true->s.ok=true
 |[],_,h=>h
 |f::l,s,h=>by
  unfold pu at h;split at h
  .exact h
  .exact Pb (oW l h)
def En.dn(e:En):En:={ e with d:=true }
theorem En.dn_of{e:En}(h:e.d=true):e.dn=e:=by cases e;simp only at h;subst h;rfl
def eI(l:List En)(k:Nat):List En:=(l.take k).map En.dn++l.drop k
theorem cB(l:List En)(k:Nat):(eI l k).length=l.length:=by unfold eI;simp;omega
theorem LP(l:List En):eI l 0=l:=rfl
theorem Rt{l:List En}{k:Nat}(h:l.length<=k):eI l k=l.map En.dn:=by unfold eI;rw[take_of_length_le h,drop_eq_nil_of_le h,append_nil]
theorem yh{l:List En}{k:Nat}(h:k<l.length):(eI l k)[k]?=some l[k]:=by
 unfold eI;rw[getElem?_append_right (by simp;omega),getElem?_drop];simp[Nat.min_eq_left (Nat.le_of_lt h),h]
theorem nP{l:List En}{k:Nat}(h:k<l.length):eI l (k+1)=(eI l k).set k l[k].dn:=by
 unfold eI;have e:((l.take k).map En.dn).length=k:=by simp;omega
 rw[set_append_right _ _ (by omega),e,Nat.sub_self,take_succ_eq_append_getElem h,map_append,drop_eq_getElem_cons h,set_cons_zero];simp
theorem LO{l:List En}{k:Nat}(h:k<l.length)(hd:l[k].d=true):eI l (k+1)=eI l k:=by
 rw[nP h,En.dn_of hd];apply ext_getElem?;intro i;rw[getElem?_set];split
 .rename_i e;subst e;rw[if_pos (by rw[cB];exact h),yh h]
 .rfl
theorem FP{l:List En}{k:Nat}{e:En}(h:e∈eI l k):∃e0∈l,e.bs=e0.bs/\(∀w,e0.ok w->e.ok w):=by
 unfold eI at h;rcases mem_append.1 h with h|h
 .obtain⟨e0,h0,rfl⟩:=mem_map.1 h;exact⟨e0,mem_of_mem_take h0,rfl,λw h=>h⟩
 .exact⟨e,mem_of_mem_drop h,rfl,λw h=>h⟩
theorem lD{α:Type}{l:List α}{d:α}{n:Nat}(h:n<l.length):l.set n (l.getD n d)=l:=by
 apply ext_getElem?;intro i;rw[getElem?_set];split
 .rename_i e;subst e;simp[h]
 .rfl
section
variable {w W:World} {S:Nat} {c:Cd} {c0 hv kv wv:Value} {KV WV:List Value} {K:List (List En)} {s:Sr} {n:Nat} {l:List En}
theorem Sh.done{k g cap:Nat}(h:Sh w S c c0 hv kv wv KV WV (K.set n (eI l k)) { s with kn:=s.kn.set n ((eI l k).map En.m) })(hn:n<K.length)(hk:k<l.length)(hg:KV.getD n aH=.slice (some ⟨g,0,none⟩) l.length cap):
  Sh (w.setCell ⟨g,k*2+1,none⟩ (.bool true)) S c c0 hv kv wv KV WV (K.set n (eI l (k+1))) { s with kn:=s.kn.set n ((eI l (k+1)).map En.m) }/\g∈cD S hv kv wv KV WV:=by
 have wM:(K.set n (eI l k)).length=K.length:=length_set;have hKV:=h.kvl;rw[wM]at hKV;have od:(mK S hv kv wv KV WV)[4+n]?=some (some g):=by rw[vO (by omega),hg];rfl
 have uM:g∈cD S hv kv wv KV WV:=bI od;have aF:=h.ke n (by rw[wM];exact hn);have e2:(K.set n (eI l k)).getD n []=eI l k:=by simp[hn]
 rw[e2,hg,cB]at aF;have aE:=(aF.stored (k*2+1) (.bool true)).1;have aq:(ph (eI l k)).set (k*2+1) (.bool true)=ph (eI l (k+1)):=by
  have h1:=FQ (L:=eI l k) (i:=k) (by rw[cB];exact hk) l[k].dn;rw[<-nP hk]at h1;rw[<-h1];congr 1;symm;apply ext_getElem?;intro i;rw[getElem?_set];split
  .rename_i e;subst e;have h3:=(nQ (L:=eI l k) (i:=k) (by rw[cB];exact hk)).1;have h4:=yh hk;rw[getElem?_eq_getElem (by rw[cB];exact hk)]at h4;injection h4 with h4;rw[h4]at h3;rw[if_pos (by rw[Rw,cB];omega),h3];rfl
  .rfl
 rw[aq]at aE;have pP:=h.put (n:=n) (by rw[wM];exact hn) (w':=w.setCell ⟨g,k*2+1,none⟩ (.bool true)) (v':=.slice (some ⟨g,0,none⟩) l.length cap) (l':=eI l (k+1)) (λi j _ h4 hi=>heap_setCell _ _ _ _ (λe=>h4 (by
   rw[show j=g from e]at hi;exact h.nd i _ g hi od))) (by
   rw[wM,<-hg,lD (by omega)];refine a8 (wM ▸ h.kr) (p:=⟨g,k*2+1,none⟩) (λe=>?_) _;have:=h.nd 2 (4+n) g (congrArg some e) od;omega) (by rw[cB];exact aE) (λj hj=>zq0 (by rw[hg];exact hj)) (λj hj=>heap_setCell _ _ _ _ (λe=>h.da j hj (by rw[show j=g from e];exact uM))) (λe he=>by
   have cf:KV.set n (.slice (some ⟨g,0,none⟩) l.length cap)=KV:=(by rw[<-hg,lD (by omega)]);obtain⟨e0,h0,qP,ho0⟩:=FP he;obtain⟨i,hi,Nc⟩:=mem_iff_getElem.1 h0;have kz:∃e1∈eI l k,e1.bs=e0.bs/\(∀w',e1.ok w'->e0.ok w'):=by
    by_cases hik:i<k
    .refine⟨e0.dn,mem_append_left _ (mem_map_of_mem (mem_iff_getElem?.2 ⟨i,?_⟩)),rfl,λw' h=>h⟩;rw[getElem?_take,if_pos hik,getElem?_eq_getElem hi,Nc]
    .refine⟨e0,mem_append_right _ (mem_iff_getElem?.2 ⟨i-k,?_⟩),rfl,λw' h=>h⟩;rw[getElem?_drop,show k+(i-k)=i by omega,getElem?_eq_getElem hi,Nc]
   obtain⟨e1,h1,aO,ho1⟩:=kz;have hl:eI l k∈K.set n (eI l k):=mem_iff_getElem?.2 ⟨n,by rw[getElem?_set_self hn]⟩;have Be:∀j∈e.bs,j∈dK (K.set n (eI l k)):=λj hj=>bi.2 ⟨_,hl,e1,h1,by rw[aO,<-qP];exact hj⟩;refine⟨(ho0 w (ho1 w (h.dr _ hl e1 h1))).of_eq (λj hj=>heap_setCell _ _ _ _ (λe'=>h.da j (Be j hj) (by rw[show j=g from e'];exact uM))),λj hj hm=>?_⟩;rw[cf]at hm;exact h.da j (Be j hj) hm)
 have cf:KV.set n (.slice (some ⟨g,0,none⟩) l.length cap)=KV:=by rw[<-hg,lD (by omega)]
 rw[cf,set_set]at pP;refine⟨pP.as (s':={ s with kn:=s.kn.set n ((eI l (k+1)).map En.m) }) ?_ rfl rfl rfl rfl,uM⟩;show s.kn.set n _=(s.kn.set n _).set n _;rw[set_set]
theorem AL(hl:l=K.getD n [])(hn:n<K.length)(k:Nat):∀j,j∈dK (K.set n (eI l k))↔j∈dK K:=by
 have hlK:l∈K:=by rw[hl,bp hn];exact getElem_mem hn
 intro j;constructor
 .intro hj;obtain⟨l2,h2,e,he,hj⟩:=bi.1 hj;rcases mem_or_eq_of_mem_set h2 with p|p
  .exact bi.2 ⟨l2,p,e,he,hj⟩
  .subst p;obtain⟨e0,h0,qP,-⟩:=FP he;exact bi.2 ⟨l,hlK,e0,h0,by rw[<-qP];exact hj⟩
 .intro hj;obtain⟨l2,h2,e,he,hj⟩:=bi.1 hj;obtain⟨i,hi,Nc⟩:=mem_iff_getElem.1 h2;by_cases kz:i=n
  .subst kz;have uQ:l2=l:=(by rw[hl,bp hn];exact Nc.symm);subst uQ;obtain⟨q,hq,hqe⟩:=mem_iff_getElem.1 he;have hm:eI l2 k∈K.set i (eI l2 k):=mem_iff_getElem?.2 ⟨i,by rw[getElem?_set_self hi]⟩;by_cases hqk:q<k
   .refine bi.2 ⟨_,hm,e.dn,mem_append_left _ (mem_map_of_mem (mem_iff_getElem?.2 ⟨q,?_⟩)),hj⟩;rw[getElem?_take,if_pos hqk,getElem?_eq_getElem hq,hqe]
   .refine bi.2 ⟨_,hm,e,mem_append_right _ (mem_iff_getElem?.2 ⟨q-k,?_⟩),hj⟩;rw[getElem?_drop,show k+(q-k)=q by omega,getElem?_eq_getElem hq,hqe]
  .exact bi.2 ⟨l2,mem_iff_getElem?.2 ⟨i,by rw[getElem?_set_ne (λe=>kz e.symm),getElem?_eq_getElem hi,Nc]⟩,e,he,hj⟩
end
