import Derived.Test.YtciihepbeacppaaGreatM26
set_option maxRecDepth 100000
set_option maxHeartbeats 0
namespace Go.Proofs.YtciihepbeacppaaGreat
open Tryz Go.RowKit List World Below
set_option linter.unusedVariables false
def Mo(s t:PS):Prop:=t.nodes=s.nodes/\s.vars.length<=t.vars.length/\s.hid.length<=t.hid.length
theorem Mo.refl(s:PS):Mo s s:=⟨rfl,zq4 _,zq4 _⟩
theorem Mo.trans{s t u:PS}(h:Mo s t)(h':Mo t u):Mo s u:=⟨h'.1.trans h.1,zq3 h.2.1 h'.2.1,zq3 h.2.2 h'.2.2⟩
def Lw(L i:Nat):Prop:=i=0\/i<L
theorem Lw.up{L L' i:Nat}(h:Lw L i)(hL:L<=L'):Lw L' i:=h.imp id (λh=>by omega)
section
variable {ws:List ByteArray} {s:PS}
theorem fE:Mo s s.adv:=⟨rfl,zq4 _,zq4 _⟩
theorem cE(k:ByteArray):Mo s (aF ws k s):=by unfold aF;split <;> exact⟨rfl,zq4 _,zq4 _⟩
theorem pB(l:List UInt8)(c:UInt8):l.length<=(put l c).length/\plc l c<(put l c).length:=by
 unfold put;have:=tV l c;split
 .simp;omega
 .exact⟨zq4 _,by omega⟩
theorem uy:Mo s (bz ws s):=by
 unfold bz;split
 .exact⟨rfl,(pB _ _).1,zq4 _⟩
 .exact⟨rfl,zq4 _,zq4 _⟩
theorem ux:Lw (bz ws s).vars.length (lq ws s):=by
 unfold lq bz;split
 .exact zq1 (pB _ _).2
 .exact zq0 rfl
theorem iz:Mo s (bU ws s):=by
 unfold bU;split
 .exact fE
 .exact uy
theorem si:Lw (bU ws s).vars.length (d7 ws s):=by
 unfold d7 bU;split
 .exact zq0 rfl
 .exact ux
theorem qz:Mo s (eu ws s):=by
 unfold eu;split
 .exact⟨rfl,zq4 _,(pB _ _).1⟩
 .exact iz
theorem Ke:Mo s (v7 ws s):=by
 unfold v7;split
 .exact fE
 .exact cE _
theorem Vk:Mo s (q9 ws s):=by
 unfold q9;split
 .exact fE
 .exact(uy.trans Ke).trans iz
theorem YA:Mo s (Jq ws s):=((cE _).trans Vk).trans (cE _)
theorem U7:Mo s (mR ws s):=by
 unfold mR;split
 .exact fE
 .split
  .exact(iz.trans fE).trans (cE _)
  .exact iz
theorem NS:Mo s (xh ws s):=(fE.trans (cE _)).trans (cE _)
theorem Ym:Mo s (gp ws s):=by
 unfold gp;split
 .exact fE
 .split
  .exact fE.trans uy
  .split
   .exact(uy.trans NS).trans iz
   .exact(uy.trans (cE _)).trans U7
theorem Vj:Lw (q9 ws s).vars.length (zx ws s).v/\Lw (q9 ws s).vars.length (zx ws s).ai/\(1<=(zx ws s).op/\(zx ws s).op<=9):=by
 unfold zx q9;split
 .exact⟨zq0 rfl,zq0 rfl,by decide⟩
 .refine⟨ux.up (Ke.trans iz).2.1,si,?_⟩;show 1<=OL ws (bz ws s)/\OL ws (bz ws s)<=9;unfold OL;split <;> decide
theorem U6{v:Nat}(hv:Lw s.vars.length v):Lw (mR ws s).vars.length (uD ws v s).v/\Lw (mR ws s).vars.length (uD ws v s).ai/\(1<=(uD ws v s).op/\(uD ws v s).op<=6)/\(uD ws v s).ot=0:=by
 unfold uD mR;split
 .exact⟨hv,zq0 rfl,by show 1<=(4:Nat)/\(4:Nat)<=6;decide,rfl⟩
 .split
  .exact⟨hv.up ((iz.trans fE).trans (cE _)).2.1,si.up (fE.trans (cE _)).2.1,by show 1<=(2:Nat)/\(2:Nat)<=6;decide,rfl⟩
  .exact⟨hv.up iz.2.1,si,by show 1<=(1:Nat)/\(1:Nat)<=6;decide,rfl⟩
theorem Yl:Lw (gp ws s).vars.length (jt ws s).v/\Lw (gp ws s).vars.length (jt ws s).ai/\(1<=(jt ws s).op/\(jt ws s).op<=6)/\(jt ws s).ot=0:=by
 unfold jt gp;split
 .exact⟨zq0 rfl,zq0 rfl,by decide,rfl⟩
 .split
  .exact⟨ux,zq0 rfl,by show 1<=(5:Nat)/\(5:Nat)<=6;decide,rfl⟩
  .split
   .exact⟨ux.up (NS.trans iz).2.1,si,by show 1<=(3:Nat)/\(3:Nat)<=6;decide,rfl⟩
   .exact U6 (ux.up (cE _).2.1)
def sk(L b E:Nat)(M:List Nd):Prop:=∀k nd,M[k]?=some nd->Lw L nd.v/\Lw L nd.ai/\(1<=nd.op/\nd.op<=10)/\(nd.nx<=E/\nd.ot<=E)/\(uT nd=true->b+k<nd.ot)/\(nd.op≠10->nd.nx=b+k+1)/\(nd.op=10->nd.nx≠b+k)
theorem sk.nil(L b E:Nat):sk L b E []:=λk nd h=>by simp at h
theorem sk.up{L L' b E E':Nat}{M:List Nd}(h:sk L b E M)(hL:L<=L')(hE:E<=E'):sk L' b E' M:=λk nd hk=>⟨(h k nd hk).1.up hL,(h k nd hk).2.1.up hL,(h k nd hk).2.2.1,by have:=(h k nd hk).2.2.2.1;omega,(h k nd hk).2.2.2.2⟩
theorem sk.app{L b E:Nat}{M N:List Nd}(h:sk L b E M)(h':sk L (b+M.length) E N):sk L b E (M++N):=by
 intro k nd hk;by_cases hl:k<M.length
 .rw[getElem?_append_left hl]at hk;exact h k nd hk
 .rw[getElem?_append_right (by omega)]at hk;have:=h' _ nd hk;rw[show b+M.length+(k-M.length)=b+k by omega]at this;exact this
theorem sk.one{L b E:Nat}{nd:Nd}(h:Lw L nd.v/\Lw L nd.ai/\(1<=nd.op/\nd.op<=10)/\(nd.nx<=E/\nd.ot<=E)/\(uT nd=true->b<nd.ot)/\(nd.op≠10->nd.nx=b+1)/\(nd.op=10->nd.nx≠b)):sk L b E [nd]:=by
 intro k nd' hk;cases k with
 |zero =>
  have:nd=nd':=by simpa using hk
  subst this;exact h
 |succ k=>simp at hk
def Ex(s t:PS):Prop:=∃M,t.nodes=s.nodes++M/\s.vars.length<=t.vars.length/\s.hid.length<=t.hid.length/\sk t.vars.length s.nodes.length t.nodes.length M
theorem Mo.ex{t:PS}(h:Mo s t):Ex s t:=⟨[],by rw[h.1,append_nil],h.2.1,h.2.2,sk.nil _ _ _⟩
theorem Ex.trans{t u:PS}(h:Ex s t)(h':Ex t u):Ex s u:=by
 obtain⟨M,h1,h2,EX,h3⟩:=h;obtain⟨N,g1,g2,g2',g3⟩:=h';refine⟨M++N,by rw[g1,h1,append_assoc],zq3 h2 g2,zq3 EX g2',(h3.up g2 (by rw[g1,length_append];omega)).app ?_⟩;rw[h1,length_append]at g3;exact g3
theorem Yi:Ex s (qT ws s):=by
 have hm:Mo s (aF ws ig (gp ws s)):=Ym.trans (cE _);obtain⟨h1,h2,h3,h4⟩:=@Yl ws s;have hv:=(@cE ws (gp ws s) ig).2.1;have hn:(qT ws s).nodes=s.nodes++[{ jt ws s with nx:=s.nodes.length+1 }]:=by
  show(aF ws ig (gp ws s)).nodes++[{ jt ws s with nx:=(aF ws ig (gp ws s)).nodes.length+1 }]=_;rw[hm.1]
 refine⟨[{ jt ws s with nx:=s.nodes.length+1 }],hn,hm.2.1,hm.2.2,?_⟩;rw[hn,length_append];refine sk.one ⟨h1.up hv,h2.up hv,by show 1<=(jt ws s).op/\(jt ws s).op<=10;omega,⟨zq4 _,by show(jt ws s).ot<=_;rw[h4];exact zq5 _⟩,λh=>?_,λ_=>rfl,λh=>?_⟩
 .exfalso;have h':(jt ws s).op=7\/(jt ws s).op=8\/(jt ws s).op=9:=by simpa[uT] using h
  omega
 .exfalso;have h':(jt ws s).op=10:=h;omega
theorem nU{α:Type}(f:α->α)(t:α)(R:List α):∀(A:List α) {k:Nat},k=A.length->(A++t::R).modify k f=A++f t::R
 |[],k,h=>by subst h;rfl
 |a::A,k,h=>by subst h;simp[modify_succ_cons,nU f t R A rfl]
theorem qy(A R:List Nd)(t:Nd)(k n:Nat)(h:k=A.length):dG k n (A++t::R)=A++{ t with ot:=n }::R:=nU _ t R A h
theorem xd(A R:List Nd)(t:Nd)(k n:Nat)(h:k=A.length):fP k n (A++t::R)=A++{ t with nx:=n }::R:=nU _ t R A h
theorem N9{blk:PS->PS}(hb:∀t,Ex t (blk t))(k:ByteArray):∃(tn:Nd) (M:List Nd),(blk (fB ws (aF ws k s))).nodes=s.nodes++tn::M/\s.vars.length<=(blk (fB ws (aF ws k s))).vars.length/\s.hid.length<=(blk (fB ws (aF ws k s))).hid.length/\sk (blk (fB ws (aF ws k s))).vars.length (s.nodes.length+1) (s.nodes.length+1+M.length) M/\Lw (blk (fB ws (aF ws k s))).vars.length tn.v/\Lw (blk (fB ws (aF ws k s))).vars.length tn.ai/\(1<=tn.op/\tn.op<=9)/\tn.nx=s.nodes.length+1:=by
 obtain⟨M,h1,h2,EX,h3⟩:=hb (fB ws (aF ws k s));have hm:Mo s (Jq ws (aF ws k s)):=(cE _).trans YA;have ht:(fB ws (aF ws k s)).nodes=s.nodes++[{ zx ws (aF ws fh (aF ws k s)) with nx:=s.nodes.length+1 }]:=by
  show(Jq ws (aF ws k s)).nodes++[{ zx ws (aF ws fh (aF ws k s)) with nx:=(Jq ws (aF ws k s)).nodes.length+1 }]=_;rw[hm.1]
 obtain⟨g1,g2,g3⟩:=@Vj ws (aF ws fh (aF ws k s));have hv:(q9 ws (aF ws fh (aF ws k s))).vars.length<=(blk (fB ws (aF ws k s))).vars.length:=zq3 (@cE ws (q9 ws (aF ws fh (aF ws k s))) gY).2.1 h2;refine⟨{ zx ws (aF ws fh (aF ws k s)) with nx:=s.nodes.length+1 },M,by rw[h1,ht,append_assoc];rfl,zq3 hm.2.1 h2,zq3 hm.2.2 EX,?_,g1.up hv,g2.up hv,g3,rfl⟩;rw[h1,length_append,ht,length_append]at h3;exact h3
theorem zj{L b m E:Nat}{tn:Nd}(h1:Lw L tn.v)(h2:Lw L tn.ai)(h3:1<=tn.op/\tn.op<=9)(h4:tn.nx=b+1)(h:b<m)(hm:m<=E):sk L b E [{ tn with ot:=m }] :=
 sk.one ⟨h1,h2,by show 1<=tn.op/\tn.op<=10;omega,⟨by show tn.nx<=E;omega,hm⟩,λ_=>h,λ_=>h4,λe=>by have:tn.op=10:=e;omega⟩
theorem Fj{L b m E:Nat}(h:m≠b)(hm:m<=E):sk L b E [{ gK with nx:=m }] :=
 sk.one ⟨zq0 rfl,zq0 rfl,by show 1<=(10:Nat)/\(10:Nat)<=10;decide,⟨hm,zq5 _⟩,λe=>by simp[uT,gK]at e,λe=>absurd rfl e,λ_=>h⟩
theorem Ve{blk:PS->PS}(hb:∀t,Ex t (blk t)):Ex s (nH blk ws s):=by
 obtain⟨tn,M,h1,h2,EX,h3,h4,h5,h6,h7⟩:=@N9 ws s blk hb kX;unfold nH;have hA:ch blk ws s=blk (fB ws (aF ws kX s)):=rfl;rw[<-hA]at h1 h2 EX h3 h4 h5;have hl:(ch blk ws s).nodes.length=s.nodes.length+1+M.length:=by rw[h1];simp;omega
 obtain⟨m,hm⟩:∃m,m=(ch blk ws s).nodes.length:=⟨_,rfl⟩;split
 .obtain⟨N,g1,g2,g2',g3⟩:=hb (kf s.nodes.length (ch blk ws s));have hB:(kf s.nodes.length (ch blk ws s)).nodes=s.nodes++{ tn with ot:=m+1 }::(M++[{ gK with nx:=m+1 }]):=by
   show dG s.nodes.length ((ch blk ws s).nodes++[{ gK with nx:=(ch blk ws s).nodes.length+1 }]).length ((ch blk ws s).nodes++[{ gK with nx:=(ch blk ws s).nodes.length+1 }])=_;rw[length_append,length_singleton,<-hm];rw[show(ch blk ws s).nodes++[{ gK with nx:=m+1 }]=s.nodes++tn::(M++[{ gK with nx:=m+1 }]) by rw[h1];simp];exact qy _ _ _ _ _ rfl
  have hBv:(kf s.nodes.length (ch blk ws s)).vars=(ch blk ws s).vars:=rfl;have hBh:(kf s.nodes.length (ch blk ws s)).hid=(ch blk ws s).hid:=rfl;have Tq:(kf s.nodes.length (ch blk ws s)).nodes.length=s.nodes.length+1+M.length+1:=by rw[hB];simp;omega
  rw[hBv]at g2;rw[hBh]at g2';rw[Tq]at g3;obtain⟨u,hu⟩:∃u,u=blk (kf s.nodes.length (ch blk ws s)):=⟨_,rfl⟩;rw[<-hu]at g1 g2 g2' g3 ⊢;have hul:u.nodes.length=s.nodes.length+1+M.length+1+N.length:=by rw[g1,length_append,Tq]
  have hn:(J4 (ch blk ws s).nodes.length u).nodes=s.nodes++({ tn with ot:=m+1 }::(M++{ gK with nx:=u.nodes.length }::N)):=by
   show fP (ch blk ws s).nodes.length u.nodes.length u.nodes=_;have e:u.nodes=(s.nodes++{ tn with ot:=m+1 }::M)++{ gK with nx:=m+1 }::N:=(by rw[g1,hB];simp);have e2:=xd (s.nodes++{ tn with ot:=m+1 }::M) N { gK with nx:=m+1 } (ch blk ws s).nodes.length u.nodes.length (by rw[hl];simp;omega);rw[<-e]at e2;rw[e2];simp
  have iN:(J4 (ch blk ws s).nodes.length u).nodes.length=u.nodes.length:=by show(fP _ _ _).length=_;exact cS _ _ _
  refine⟨{ tn with ot:=m+1 }::(M++{ gK with nx:=u.nodes.length }::N),hn,zq3 h2 g2,zq3 EX g2',?_⟩;show sk u.vars.length s.nodes.length (J4 (ch blk ws s).nodes.length u).nodes.length ([{ tn with ot:=m+1 }]++(M++([{ gK with nx:=u.nodes.length }]++N)));rw[iN];refine(zj (h4.up g2) (h5.up g2) h6 h7 (by omega) (by omega)).app ((h3.up g2 (by omega)).app ((Fj ?_ (zq4 _)).app ?_))
  .rw[hul];simp;omega
  .show sk u.vars.length (s.nodes.length+1+M.length+1) u.nodes.length N;exact g3
 .have hn:({ ch blk ws s with nodes:=dG s.nodes.length (ch blk ws s).nodes.length (ch blk ws s).nodes }:PS).nodes=s.nodes++({ tn with ot:=m }::M):=by
   show dG s.nodes.length (ch blk ws s).nodes.length (ch blk ws s).nodes=_;rw[<-hm,h1];exact qy _ _ _ _ _ rfl
  refine⟨{ tn with ot:=m }::M,hn,h2,EX,?_⟩;rw[hn,show(s.nodes++({ tn with ot:=m }::M)).length=s.nodes.length+1+M.length by simp;omega];exact(zj h4 h5 h6 h7 (by omega) (by omega)).app h3
theorem Xq{blk:PS->PS}(hb:∀t,Ex t (blk t)):Ex s (uV blk ws s):=by
 obtain⟨tn,M,h1,h2,EX,h3,h4,h5,h6,h7⟩:=@N9 ws s blk hb bQ;have hA:lV blk ws s=blk (fB ws (aF ws bQ s)):=rfl;rw[<-hA]at h1 h2 EX h3 h4 h5;have hl:(lV blk ws s).nodes.length=s.nodes.length+1+M.length:=by rw[h1];simp;omega
 obtain⟨m,hm⟩:∃m,m=(lV blk ws s).nodes.length:=⟨_,rfl⟩;have hn:(uV blk ws s).nodes=s.nodes++({ tn with ot:=m+1 }::(M++[{ gK with nx:=s.nodes.length }])):=by
  show dG s.nodes.length ((lV blk ws s).nodes++[{ gK with nx:=(lV blk ws s).nodes.length+1 }]).length (fP (lV blk ws s).nodes.length s.nodes.length ((lV blk ws s).nodes++[{ gK with nx:=(lV blk ws s).nodes.length+1 }]))=_;rw[length_append,length_singleton,xd _ _ _ _ _ rfl,<-hm];rw[show(lV blk ws s).nodes++[{ gK with nx:=s.nodes.length }]=s.nodes++tn::(M++[{ gK with nx:=s.nodes.length }]) by rw[h1];simp];exact qy _ _ _ _ _ rfl
 have iN:(uV blk ws s).nodes.length=s.nodes.length+1+M.length+1:=by rw[hn];simp;omega
 refine⟨_,hn,h2,EX,?_⟩;rw[iN];show sk (lV blk ws s).vars.length s.nodes.length _ ([{ tn with ot:=m+1 }]++(M++[{ gK with nx:=s.nodes.length }]));exact(zj h4 h5 h6 h7 (by omega) (by omega)).app ((h3.up (zq4 _) (by omega)).app (Fj (by simp;omega) (by omega)))
theorem Vh{blk:PS->PS}(hb:∀t,Ex t (blk t)):Ex s (jF blk ws s):=by
 unfold jF;split
 .exact Ve hb
 .split
  .exact Xq hb
  .exact Yi
theorem Kc{c:PS->PS}(hc:∀t,Ex t (c t)):∀(n:Nat) (s:PS),Ex s (io c ws n s)
 |0,s=>(Mo.refl s).ex
 |n+1,s=>by
  unfold io;split
  .exact(Mo.refl s).ex
  .exact(hc s).trans (Kc hc n (c s))
theorem J0:∀(f:Nat) (s:PS),Ex s (cC ws f s)
 |0,s=>(Mo.refl s).ex
 |f+1,s=>((cE _).ex.trans (Kc (λt=>Vh (J0 f)) _ _)).trans (cE _).ex
end
def U2(t:PS)(k i:Nat):Prop:=t.failed=true\/(k=0/\i=0)\/(k=1/\i<t.vars.length)\/(k=2/\i<t.hid.length)
structure Cn(s t:PS):Prop where
 v:s.vars.length<=t.vars.length
 h:s.hid.length<=t.hid.length
 f:s.failed=true->t.failed=true
theorem Cn.trans{s t u:PS}(h:Cn s t)(h':Cn t u):Cn s u:=⟨zq3 h.v h'.v,zq3 h.h h'.h,λe=>h'.f (h.f e)⟩
theorem U2.up{s t:PS}{k i:Nat}(h:U2 s k i)(hg:Cn s t):U2 t k i:=by
 have h1:=hg.v;have h2:=hg.h;rcases h with h|h|h|h
 .exact zq0 (hg.f h)
 .exact zq1 (zq0 h)
 .exact zq1 (zq1 (zq0 (by omega)))
 .exact zq1 (zq1 (zq1 (by omega)))
section
variable {ws:List ByteArray} {s:PS}
theorem Ui:Cn s (eu ws s):=⟨qz.2.1,qz.2.2,qw.bad s⟩
theorem Ti{k:ByteArray}(hk:k.toList≠[]):Cn s (aF ws k s):=⟨(cE k).2.1,(cE k).2.2,(cP hk).bad s⟩
theorem za:Mo s (eg ws s):=by
 unfold eg;split
 .exact fE
 .split
  .exact fE
  .exact cE _
theorem Yb:Cn s (eg ws s):=⟨za.2.1,za.2.2,yV.bad s⟩
theorem Su:U2 (eu ws s) (rz ws s) (ry ws s):=by
 unfold eu rz ry;split
 .exact zq1 (zq1 (zq1 ⟨rfl,(pB _ _).2⟩))
 .unfold bU du d7;split
  .exact zq1 (zq0 ⟨rfl,rfl⟩)
  .unfold bz lq;split
   .exact zq1 (zq1 (zq0 ⟨rfl,(pB _ _).2⟩))
   .exact zq0 rfl
def Un(t:PS)(a:cf):Prop:=U2 t a.lk a.li/\U2 t a.rk a.ri/\a.k<=4
theorem Un.up{t u:PS}{a:cf}(h:Un t a)(hg:Cn t u):Un u a:=⟨h.1.up hg,h.2.1.up hg,h.2.2⟩
theorem Xo:Mo s (yF ws s):=by
 have h1:Mo s (pi ws s):=cE _;have h2:Mo (pi ws s) (nR ws s):=qz.trans (cE _);have h3:Mo (nR ws s) (yF ws s):=qz.trans (cE _);exact(h1.trans h2).trans h3
theorem JW:Mo s (dQ ws s):=by
 unfold dQ;split
 .exact fE
 .split
  .exact fE.trans Xo
  .exact(qz.trans za).trans qz
theorem aaR:Cn s (dQ ws s):=⟨JW.2.1,JW.2.2,lZ.bad s⟩
theorem T8:Cn (eu ws (nR ws s)) (yF ws s):=by unfold yF;exact Ti oT
theorem adt:Cn (eu ws (pi ws s)) (yF ws s):=by
 have h:Cn (eu ws (pi ws s)) (nR ws s):=by unfold nR;exact Ti tA
 exact(h.trans Ui).trans T8
theorem aiD:Un (yF ws s) (T7 ws s):=⟨Su.up adt,Su.up T8,zq4 4⟩
theorem aaS:Un (dQ ws s) (oy ws s):=by
 unfold dQ oy;split
 .exact⟨zq1 (zq0 ⟨rfl,rfl⟩),zq1 (zq0 ⟨rfl,rfl⟩),by decide⟩
 .split
  .exact aiD
  .refine⟨(Su (ws:=ws) (s:=s)).up (Yb.trans Ui),Su,?_⟩;show iX ws (eu ws s)<=4;unfold iX;split
   .decide
   .split <;> decide
theorem Tm:∀(n:Nat) (s:PS),Cn s (iu ws n s).2/\∀a∈(iu ws n s).1,Un (iu ws n s).2 a
 |0,s=>⟨⟨zq4 _,zq4 _,id⟩,λa ha=>by simp[iu]at ha⟩
 |n+1,s=>by
  unfold iu;split
  .obtain⟨h1,h2⟩:=Tm n (dQ ws s.adv);have h3:Cn s.adv (dQ ws s.adv):=aaR;refine⟨⟨zq3 h3.v h1.v,zq3 h3.h h1.h,λe=>h1.f (h3.f e)⟩,λa ha=>?_⟩;rcases mem_cons.1 ha with rfl|ha
   .exact aaS.up h1
   .exact h2 a ha
  .exact⟨⟨zq4 _,zq4 _,id⟩,λa ha=>by simp at ha⟩
theorem agx:∀a∈Za ws s,Un (pP ws s) a:=by
 obtain⟨h1,h2⟩:=Tm (ws:=ws) (ws.length+1) (dQ ws s);intro a ha;rcases mem_cons.1 ha with rfl|ha
 .exact aaS.up h1
 .exact h2 a ha
end
section
variable {w W:World} {S:Nat} {c:Cd} {c0 hv kv wv:Value} {KV WV:List Value} {K:List (List En)} {s:Sr} {x:FE}
theorem Sh.wcs{wB wC gA cA m n:Nat}(h:Sh w S c c0 hv kv (.slice (some ⟨wB,0,none⟩) m wC) KV WV K s)(hn:n<K.length)(hW:WV.getD n aH=.slice (some ⟨gA,0,none⟩) 5 cA):w.cell? ⟨S,4,none⟩=some (.slice (some ⟨wB,0,none⟩) m wC)/\w.cell? ⟨wB,n,none⟩=some (.slice (some ⟨gA,0,none⟩) 5 cA)/\(∀t,t<5->w.cell? ⟨gA,t,none⟩=some (.bool ((s.wr.getD n []).getD t false)))/\∀t,w.frozen? ⟨gA,t,none⟩=false:=by
 obtain⟨g,cap,g2,cap2,h1,h2,h3,h4,h5⟩:=h.wc hn;rw[hW]at h2;simp only[Value.slice.injEq,Option.some.injEq,Addr.mk.injEq,and_true,true_and]at h1 h2;obtain⟨rfl,-,-⟩:=h1;obtain⟨rfl,rfl⟩:=h2;exact⟨h.bs.cell 4 rfl,h3,h4,h5⟩
theorem Lp.turn{w W:World}{PD:List Value}{K0:List (List En)}{v tv:Value}{L Lt:List FE}{j Y O:Nat}(h:Lp w W S c c0 hv kv wv PD WV K0 [] KV K s v L j (Y::O::a9 tv Lt))(ht:Fl W 0 tv Lt)(hT:∀y∈Lt,Td y.f)(hn:∀k∈a9 tv Lt,w.heap.size<=k)(hY:Y ∉ a9 tv Lt):Lp w W S c c0 hv kv wv PD WV K0 [] KV K s tv Lt 0 [Y]:=by
 have e:lG tv Lt 0=a9 tv Lt:=by simp[lG,a9]
 refine⟨h.sh,h.kl,h.go,⟨ht.pend,hT,λk hk=>?_⟩,λk hk=>?_,λk hk=>zq1 ?_⟩
 .rw[e]at hk;exact(h.ap k (mem_cons_of_mem _ (mem_cons_of_mem _ hk))).1
 .rw[mem_singleton]at hk;subst hk;obtain⟨a1,-,a3⟩:=h.ap k (by simp);exact⟨a1,by rw[e];exact hY,a3⟩
 .rw[e]at hk;exact hn k hk
theorem Ss{Q:Nat}{ws:List ByteArray}{ps:PS}{al:List cf}{vv pv nvv:Value}(h:Sh w S c (.pointer (some ⟨Q,0,none⟩)) hv kv wv KV WV K s)(hC:Cp w Q ws ps al vv pv nvv)(je:c.nds=ps.nodes)(hN:sE c.nds)(hF:dT w x.A x.f x.av x.ov)(hT:Td x.f)(hd:∀k∈x.bs,k ∉ cL S hv kv wv KV WV){n:Nat}(hn:n<K.length)(vj:K.length<=100000){fuel:Nat}(bE:(mf c fuel n x.f s).ok=true):
  Calls prog 173 #[.pointer (some ⟨S,0,none⟩),.int .i64 n,.pointer (some ⟨x.A,0,none⟩)] w λe w'=>e=.returned (.tuple #[])/\gf w S c (.pointer (some ⟨Q,0,none⟩)) hv kv wv KV WV K [] (mf c fuel n x.f s) w':=by
 have iN:=h.nl;obtain⟨nd,dV⟩:∃nd,nd=c.nds.getD n aK:=⟨_,rfl⟩;have Fa:=hN.v n;have ng:=hN.op n;have vy:=hN.nx n (by omega);have O3:=hN.ot n (by omega);rw[<-dV]at Fa ng vy O3;have hndA:ZL ps.nodes n=nd:=by rw[dV,je];rfl
 have HAT:Hid (Calls prog 103 #[.pointer (some ⟨Q,0,none⟩),.int .i64 n] w λe w'=>e=.returned (.agg #[.int .i64 (nd.op:Int),.int .i64 (nd.v:Int),.int .i64 (nd.ak:Int),.int .i64 (nd.ai:Int),.int .i64 (nd.nx:Int),.int .i64 (nd.ot:Int)])/\Below w.heap.size w w'):=ab (by
  have h1:=U9 n hC (by rw[<-je];omega);rw[hndA]at h1;exact h1)
 obtain⟨⟨onx,oot,nu,da,fu⟩,ho⟩:∃o,o=cN nd x.f:=⟨_,rfl⟩;have htd:(∀x∈onx,Td x)/\∀x∈oot,Td x:=by
  have h1:=lB Fa.1 Fa.2 hT;rw[<-ho]at h1;exact h1
 obtain⟨b1,bB⟩:∃b1,b1=(decide (nd.op=0)&&!decide (fA x.f=[])):=⟨_,rfl⟩;have aS:mf c fuel n x.f s=oot.foldl (λs g=>cZ c fuel n nd.ot g s) (onx.foldl (λs g=>cZ c fuel n nd.nx g s) (fuS fu (wrI da n 4 (wrI nu n 3 (wrI b1 n 2 s))))):=by
  unfold mf;simp only;rw[<-dV,<-ho,<-bB]
 rw[aS]at bE ⊢;have acH:onx≠[]->nd.nx<K.length:=λe=>by rw[<-iN];exact vy (nI (by rw[<-ho];exact e))
 have acV:oot≠[]->nd.ot<K.length:=λe=>by rw[<-iN];exact O3 (ky (by rw[<-ho];exact e))
 obtain⟨wB,wC,gA,cA,O5,QB,-,-,-⟩:=h.wc hn;subst O5;have c0':=h.bs.cell 0 rfl;have H:=ab h;have HF:=ab hF;have HT:=ab hT;have HD:=ab hd;have HO:=ab ho;have eU:=ab bB;have Eg:=ab htd;have od:=ab (zq2 acH acV);have kQ:=ab bE;have PC:=ab QB;have HV4:=ab (zq2 Fa ng);obtain⟨dP,df⟩:∃dP:World->Prop,dP=λw'=>gf w S c (.pointer (some ⟨Q,0,none⟩)) hv kv (.slice (some ⟨wB,0,none⟩) K.length wC) KV WV K [] (oot.foldl (λs g=>cZ c fuel n nd.ot g s) (onx.foldl (λs g=>cZ c fuel n nd.nx g s) (fuS fu (wrI da n 4 (wrI nu n 3 (wrI b1 n 2 s)))))) w':=⟨_,rfl⟩;have fD:=ab df;rw[show(fun(e:Ending) (w':World)=>e=.returned (.tuple #[])/\gf w S c (.pointer (some ⟨Q,0,none⟩)) hv kv (.slice (some ⟨wB,0,none⟩) K.length wC) KV WV K [] (oot.foldl (λs g=>cZ c fuel n nd.ot g s) (onx.foldl (λs g=>cZ c fuel n nd.nx g s) (fuS fu (wrI da n 4 (wrI nu n 3 (wrI b1 n 2 s)))))) w')=(λe w'=>e=.returned (.tuple #[])/\dP w') by rw[df]];have i1:(0:Int)<=(n:Int):=by omega
 have i2:(n:Int)<(K.length:Int):=by omega
 clear h hC je hN hF hT hd dV Fa ng vy O3 hndA htd aS acH acV bE QB ho bB df iN;go_enter func173,ntmps173;go_wp2_with fail
 refine(uh HAT).mono ?_;rintro e w1 ⟨rfl,QF⟩;obtain⟨W2,iA⟩:∃W2,W2=w1.alloc (.cells #[Value.int .i64 (nd.op:Int),.int .i64 (nd.v:Int),.int .i64 (nd.ak:Int),.int .i64 (nd.ai:Int),.int .i64 (nd.nx:Int),.int .i64 (nd.ot:Int)] 186):=⟨_,rfl⟩;have bV:Below w1.heap.size w1 W2:=by rw[iA];exact ah w1 _
 have lJ:Bk W2 w1.heap.size 186 nd.cells:=by rw[iA];exact Bk.new w1 _ _
 have aR:=QF.trans (bV.mono QF.size);obtain⟨Y,uG⟩:∃Y,Y=w1.heap.size:=⟨_,rfl⟩;rw[<-uG]at lJ;have hYw:w.heap.size<=Y:=by rw[uG];exact QF.size
 have y0:=lJ.cell 0 rfl;have H2:=ab (zq2 aR (zq2 lJ hYw));have zq:=ab (tC ((uh HF).below aR) (uh HT).ok);clear bV lJ aR QF hYw HAT c0';go_upto_region 1 with fail;rw[<-iA,<-uG];clear iA uG;go_cut [26] (λbv wx=>bv=.bool b1/\Hid (Below W2.heap.size W2 wx))
 case first =>
  by_cases Ih:nd.op=0
  .have d0:((nd.op:Int)==(0:Int))=true:=(by simp[Ih]);by_cases tq:fA x.f=[]
   .have d1:decide (0<(fA x.f).length)=false:=(by rw[tq];rfl);have Ju:Hid (b1=false):=ab (by rw[uh eU];simp[tq]);clear Ih tq;go_wp2_with fail
    refine(uh zq).mono ?_;rintro e w3 ⟨lv,rfl,rj,cU⟩;obtain⟨la,lc,jO,-,-⟩:=aj rj;subst jO;have qY:=ab cU;clear rj cU;go_wp2_with fail
    go_meet
    exact⟨by rw[uh Ju],qY⟩
   .have d1:decide (0<(fA x.f).length)=true:=by
     have:(fA x.f).length≠0:=λe=>tq (length_eq_zero_iff.1 e);rw[decide_eq_true_eq];omega
    have Ju:Hid (b1=true):=ab (by rw[uh eU];simp[Ih,tq]);clear Ih tq;go_wp2_with fail
    refine(uh zq).mono ?_;rintro e w3 ⟨lv,rfl,rj,cU⟩;obtain⟨la,lc,jO,-,-⟩:=aj rj;subst jO;have qY:=ab cU;clear rj cU;go_wp2_with fail
    go_meet
    exact⟨by rw[uh Ju],qY⟩
  .have d0:((nd.op:Int)==(0:Int))=false:=(by simp;omega);have Ju:Hid (b1=false):=ab (by rw[uh eU];simp[Ih]);clear Ih;go_wp2_with fail
   go_meet
   exact⟨by rw[uh Ju],ab (Below.refl _ _)⟩
 case rest =>
  obtain⟨rfl,Qm⟩:=hcut;have h3:=((uh H).below (uh H2).1).below (uh Qm);have cU:=(uh H2).1.trans ((uh Qm).mono (uh H2).1.size);have hY3:=(uh H2).2.1.below (uh Qm);have B1:=(uh HF).below cU;have H3:=ab (zq2 h3 (zq2 (gb.below (F:=(cL S hv kv (.slice (some ⟨wB,0,none⟩) K.length wC) KV WV)) (D:=dK K) (X:=[]) cU) (zq2 hY3 B1)));clear h3 cU hY3 B1 zq y0;go_upto_if 26 with fail
  go_cut [] (λwx=>Hid (Sh wx S c (.pointer (some ⟨Q,0,none⟩)) hv kv (.slice (some ⟨wB,0,none⟩) K.length wC) KV WV K (wrI b1 n 2 s)/\gb w wx (cL S hv kv (.slice (some ⟨wB,0,none⟩) K.length wC) KV WV) (cL S hv kv (.slice (some ⟨wB,0,none⟩) K.length wC) KV WV) (dK K) (dK K) []/\Bk wx Y 186 nd.cells/\dT wx x.A x.f x.av x.ov))
  case first =>
   cases b1
   rotate_left
   .obtain⟨h3,hg3,hY3,B1⟩:=uh H3;obtain⟨d4,dw,dt,dz⟩:=h3.wcs hn (uh PC);have dt':=dt 2 (by omega);have dz':=dz 2;obtain⟨hb,uM⟩:=h3.bad hn (t:=2) (by omega) (uh PC);have hYg:Y≠gA:=λe=>by
     have h1:=(uh H).lt gA uM;have h2:=(uh H2).2.2;omega
    have HN:Hid (Sh (wc.setCell ⟨gA,2,none⟩ (.bool true)) S c (.pointer (some ⟨Q,0,none⟩)) hv kv (.slice (some ⟨wB,0,none⟩) K.length wC) KV WV K (wrI true n 2 s)/\gb w (wc.setCell ⟨gA,2,none⟩ (.bool true)) (cL S hv kv (.slice (some ⟨wB,0,none⟩) K.length wC) KV WV) (cL S hv kv (.slice (some ⟨wB,0,none⟩) K.length wC) KV WV) (dK K) (dK K) []/\Bk (wc.setCell ⟨gA,2,none⟩ (.bool true)) Y 186 nd.cells/\dT (wc.setCell ⟨gA,2,none⟩ (.bool true)) x.A x.f x.av x.ov):=ab (by
     rw[show(wrI true n 2 s)=gV n 2 s from rfl];exact⟨hb,hg3.trans (gb.stp (X:=[]) ((aq.refl [gA] wc).setCell (p:=⟨gA,2,none⟩) (zq0 (by simp)) (.bool true)) (λk hk=>zq0 (by rw[mem_singleton]at hk;rw[hk];exact uM))) (λk hk=>by simp at hk),hY3.setO (p:=⟨gA,2,none⟩) (λe=>hYg e.symm) _,B1.of_eq (λk hk=>heap_setCell _ _ _ _ (λe=>uh HD k hk (by rw[show k=gA from e];exact uM)))⟩)
    clear h3 hg3 hY3 B1 dt dz hb uM hYg H3;go_wp2_with fail
    go_meet
    exact HN
   .have HN:Hid (Sh wc S c (.pointer (some ⟨Q,0,none⟩)) hv kv (.slice (some ⟨wB,0,none⟩) K.length wC) KV WV K (wrI false n 2 s)/\gb w wc (cL S hv kv (.slice (some ⟨wB,0,none⟩) K.length wC) KV WV) (cL S hv kv (.slice (some ⟨wB,0,none⟩) K.length wC) KV WV) (dK K) (dK K) []/\Bk wc Y 186 nd.cells/\dT wc x.A x.f x.av x.ov):=ab (by
     rw[show(wrI false n 2 s)=s from rfl];exact uh H3)
    clear H3;go_wp2_with fail
    go_meet
    exact HN
  case rest =>
   obtain⟨h4,Jg,TA,qf⟩:=uh hcut;have y0:=TA.cell 0 rfl;have y1:=TA.cell 1 rfl;have y2:=TA.cell 2 rfl;have y3:=TA.cell 3 rfl;have y4:=TA.cell 4 rfl;have y5:=TA.cell 5 rfl;have D9:=ab (Ks (n:=nd) qf (uh HT) (uh HV4).1.1 (uh HV4).1.2 (uh HV4).2);unfold O7 at D9;have H4:=ab (zq2 h4 (zq2 Jg TA));clear h4 Jg TA qf hcut H3;go_wp2_with fail
   refine(uh D9).mono ?_;rintro e w5 ⟨O,rfl,nv,tv,Ln,Lt,ro,jf,vA,cq,dL⟩;rw[<-uh HO]at ro jf vA;simp only at ro jf vA;have QD:=(uh H4).2.2.lt;have tf:∀k,w.heap.size<=k->(k ∉ (cL S hv kv (.slice (some ⟨wB,0,none⟩) K.length wC) KV WV)/\k ∉ dK K)/\w.heap.size<=k:=λk hk=>⟨⟨λe=>by have:=(uh H).lt k e;omega,λe=>by have:=(uh H).drlt k e;omega⟩,hk⟩;have HX:Hid (Sx w w5 S c (.pointer (some ⟨Q,0,none⟩)) hv kv (.slice (some ⟨wB,0,none⟩) K.length wC) KV WV K (wrI b1 n 2 s) O nu da fu nv tv Ln Lt Y nd):=ab ⟨(uh H4).1.below dL,(uh H4).2.1.trans (gb.below (X:=[]) dL) (λk hk=>by simp at hk),ro,(uh H4).2.2.below dL,λk hk=>by
    rcases mem_cons.1 hk with p|p
    .rw[p];exact tf Y (uh H2).2.2
    .exact tf k (zq3 (uh H4).2.1.st.size (cq k p)),λe=>by have:=cq Y e;omega⟩
   have HM:=ab (zq2 jf vA);clear ro jf vA cq dL QD tf H4 D9 y0 y1 y2 y3 y4 y5;have o2:=(uh HX).oo.bk.cell 2 rfl;go_upto_if 41 with fail
   go_cut [] (λwx=>Hid (Sx w wx S c (.pointer (some ⟨Q,0,none⟩)) hv kv (.slice (some ⟨wB,0,none⟩) K.length wC) KV WV K (wrI nu n 3 (wrI b1 n 2 s)) O nu da fu nv tv Ln Lt Y nd))
   case first =>
    cases nu
    .go_wp2_with fail
     go_meet
     exact HX
    .obtain⟨d4,dw,dt,dz⟩:=(uh HX).sh.wcs hn (uh PC);have dt':=dt 3 (by omega);have dz':=dz 3;have HN:=ab ((uh HX).bad hn (t:=3) (by omega) (uh PC));clear dt dz;go_wp2_with fail
     go_meet
     exact HN
   case rest =>
   clear o2 HX;have HX:=ab (uh hcut);clear hcut;have o3:=(uh HX).oo.bk.cell 3 rfl;go_upto_if 53 with fail
   go_cut [] (λwx=>Hid (Sx w wx S c (.pointer (some ⟨Q,0,none⟩)) hv kv (.slice (some ⟨wB,0,none⟩) K.length wC) KV WV K (wrI da n 4 (wrI nu n 3 (wrI b1 n 2 s))) O nu da fu nv tv Ln Lt Y nd))
   case first =>
    cases da
    .go_wp2_with fail
     go_meet
     exact HX
    .obtain⟨d4,dw,dt,dz⟩:=(uh HX).sh.wcs hn (uh PC);have dt':=dt 4 (by omega);have dz':=dz 4;have HN:=ab ((uh HX).bad hn (t:=4) (by omega) (uh PC));clear dt dz;go_wp2_with fail
     go_meet
     exact HN
   case rest =>
   clear o3 HX;have HX:=ab (uh hcut);clear hcut;have o4:=(uh HX).oo.bk.cell 4 rfl;go_upto_if 65 with fail
   go_cut [] (λwx=>Hid (Sx w wx S c (.pointer (some ⟨Q,0,none⟩)) hv kv (.slice (some ⟨wB,0,none⟩) K.length wC) KV WV K (fuS fu (wrI da n 4 (wrI nu n 3 (wrI b1 n 2 s)))) O nu da fu nv tv Ln Lt Y nd))
   case first =>
    cases fu
    .go_wp2_with fail
     go_meet
     exact ab (by rw[show fuS false (wrI da n 4 (wrI nu n 3 (wrI b1 n 2 s)))=(wrI da n 4 (wrI nu n 3 (wrI b1 n 2 s))) by unfold fuS;rw[Bool.or_false]];exact uh HX)
    .have e8:=(uh HX).sh.bs.cell 8 rfl;have z8:=(uh HX).sh.bs.frz 8;have HN:=ab (uh HX).full;go_wp2_with fail
     go_meet
     exact ab (by rw[show fuS true (wrI da n 4 (wrI nu n 3 (wrI b1 n 2 s)))={ (wrI da n 4 (wrI nu n 3 (wrI b1 n 2 s))) with fu:=true } by unfold fuS;rw[Bool.or_true]];exact uh HN)
   case rest =>
   clear o4 HX;obtain⟨s2,dF⟩:∃s2,s2=(fuS fu (wrI da n 4 (wrI nu n 3 (wrI b1 n 2 s)))):=⟨_,rfl⟩;rw[<-dF]at hcut fD kQ;obtain⟨s3,fe⟩:∃s3,s3=onx.foldl (λs g=>cZ c fuel n nd.nx g s) s2:=⟨_,rfl⟩;rw[<-fe]at fD kQ;have hX:=uh hcut;have htLn:∀y∈Ln,Td y.f:=λy hy=>(uh Eg).1 _ (by rw[<-(uh HM).1];exact mem_map_of_mem hy);have htLt:∀y∈Lt,Td y.f:=λy hy=>(uh Eg).2 _ (by rw[<-(uh HM).2];exact mem_map_of_mem hy);have Ji:=hX.lp htLn;have cI:Hid ((∀k∈a9 tv Lt,w.heap.size<=k)/\Y ∉ a9 tv Lt/\∀y∈Lt,Td y.f):=ab ⟨λk hk=>(hX.on k (by simp only[dU,mem_cons,mem_append];exact zq1 (zq1 (zq1 hk)))).2,λe=>hX.yn (by simp only[dU,mem_cons,mem_append];exact zq1 (zq1 e)),htLt⟩;obtain⟨na,nc,Ig,ahS,ahT⟩:=aj hX.oo.nx.row;obtain⟨ta,tc,htv,aif,aig⟩:=aj hX.oo.ot.row;have oc:=hX.oo.bk.cell 0 rfl;have cd:Hid (Lp w wc S c (.pointer (some ⟨Q,0,none⟩)) hv kv (.slice (some ⟨wB,0,none⟩) K.length wC) KV WV K [] KV K s2 nv Ln 0 (Y::O::a9 tv Lt)/\((Ln.drop 0).map (·.f)).foldl (λs g=>cZ c fuel n nd.nx g s) s2=s3/\Bk wc Y 186 nd.cells/\Bk wc O 280 [nv,tv,.bool nu,.bool da,.bool fu]/\Fl wc 0 tv Lt):=ab ⟨Ji,by rw[drop_zero,(uh HM).1,fe],hX.bx,hX.oo.bk,hX.oo.ot⟩;subst Ig;subst htv;have am0:Ln.length<=9223372036854775807:=(by omega);have am1:Lt.length<=9223372036854775807:=(by omega);clear hX Ji htLn htLt dF fe hcut ahS ahT aif aig;go_wp2_with fail
   go_loopg [74] Ln.length (λgn iv wx=>∃(j:Nat) (KV':List Value) (K':List (List En)) (s':Sr),j+gn=Ln.length/\iv=.int .i64 j/\Hid (Lp w wx S c (.pointer (some ⟨Q,0,none⟩)) hv kv (.slice (some ⟨wB,0,none⟩) K.length wC) KV WV K [] KV' K' s' (.slice na Ln.length nc) Ln j (Y::O::a9 (.slice ta Lt.length tc) Lt)/\((Ln.drop j).map (·.f)).foldl (λs g=>cZ c fuel n nd.nx g s) s'=s3/\Bk wx Y 186 nd.cells/\Bk wx O 280 [.slice na Ln.length nc,.slice ta Lt.length tc,.bool nu,.bool da,.bool fu]/\Fl wx 0 (.slice ta Lt.length tc) Lt))
   case atStart=>exact⟨0,KV,K,s2,by omega,rfl,cd⟩
   case round =>
    clear cd oc;obtain⟨j,KV',K',s',yc,rfl,hI⟩:=hrel;obtain⟨G1,uF⟩:∃G1,G1=gk:=⟨_,rfl⟩;by_cases ar:j<Ln.length
    .have jk:decide ((j:Int)<(Ln.length:Int))=true:=(by simp;omega);obtain⟨h1,h2,h3,h4,h5⟩:=uh hI;obtain⟨g2,cap2,cO,aw⟩:=h1.pn.pe.cell ar;simp only[Value.slice.injEq,true_and]at cO;obtain⟨rfl,rfl⟩:=cO;obtain⟨n1,-,-,-,n5⟩:=h1.pn.pe.next ar;have Mt:=h1.pn.td _ (getElem_mem ar);have LG:∀k∈Ln[j].bs,k ∉ cL S hv kv (.slice (some ⟨wB,0,none⟩) K.length wC) KV' WV/\k ∉ dK K':=λk hk=>h1.pn.fd k (n5 k hk);have om:Ln.drop j=Ln[j]::Ln.drop (j+1):=drop_eq_getElem_cons ar;rw[om,map_cons,foldl_cons]at h2;have oM:(cZ c fuel n nd.nx Ln[j].f s').ok=true:=gC _ (by rw[h2];exact gC _ (uh kQ));have aY:onx≠[]:=λe=>by
      have h9:=congrArg List.length (uh HM).1;rw[e,length_map,length_nil]at h9;omega
     have hnn:=(uh od).1 aY;have jz:=h1.kl;have y4:=h3.cell 4 rfl;have VZ:∀w' ,gf wr S c (.pointer (some ⟨Q,0,none⟩)) hv kv (.slice (some ⟨wB,0,none⟩) K.length wC) KV' WV K' Ln[j].bs (cZ c fuel n nd.nx Ln[j].f s') w'->∃q7 K2,Lp w w' S c (.pointer (some ⟨Q,0,none⟩)) hv kv (.slice (some ⟨wB,0,none⟩) K.length wC) KV WV K [] q7 K2 (cZ c fuel n nd.nx Ln[j].f s') (.slice (some ⟨g2,0,none⟩) Ln.length nc) Ln (j+1) (Y::O::a9 (.slice ta Lt.length tc) Lt)/\Bk w' Y 186 nd.cells/\Bk w' O 280 [.slice (some ⟨g2,0,none⟩) Ln.length nc,.slice ta Lt.length tc,.bool nu,.bool da,.bool fu]/\Fl w' 0 (.slice ta Lt.length tc) Lt:=λw' hP=>by
      obtain⟨q7,K2,q1,q2⟩:=h1.next ar hP;exact⟨q7,K2,q1,h3.of_eq (q2 Y (by simp)),h4.of_eq (q2 O (by simp)),h5.of_eq (λk hk=>q2 k (mem_cons_of_mem _ (mem_cons_of_mem _ hk)))⟩
     obtain⟨y,hy⟩:∃y,y=Ln[j]:=⟨_,rfl⟩;rw[<-hy]at aw n1 Mt LG h2 oM VZ;have Ff:y.p=.pointer (some ⟨y.A,0,none⟩):=rfl;rw[Ff]at aw;have Ph:=ab (pU h1.sh n1 Mt LG (a:=n) (n:=nd.nx) (by omega) (by omega) (by omega) oM);have vL:=ab (zq2 VZ h2);have k1:(0:Int)<=(j:Int):=(by omega);have k2:(j:Int)<(Ln.length:Int):=(by omega);clear h1 h2 h3 h4 h5 n1 n5 Mt LG om oM aY hnn jz VZ hy Ff hI;go_wp2_with fail
     refine(uh Ph).mono ?_;rintro e w6 ⟨rfl,hP⟩;obtain⟨q7,K2,q1,q2,q3,q4⟩:=(uh vL).1 w6 hP;have HN:=ab (zq2 q1 (zq2 (uh vL).2 (zq2 q2 (zq2 q3 q4))));clear hP q1 q2 q3 q4 Ph vL y4 aw;go_wp2_with fail
     go_roundg (G1-1)
     case rel=>exact⟨j+1,q7,K2,_,by omega,by go_num,HN⟩
     case measure=>omega
    .have jk:decide ((j:Int)<(Ln.length:Int))=false:=(by simp;omega);obtain⟨h1,h2,h3,h4,h5⟩:=uh hI;rw[drop_eq_nil_of_le (by omega)]at h2;have fe:s'=s3:=h2;subst fe;have o1:=h4.cell 1 rfl;have mQ:Hid (Lp w wr S c (.pointer (some ⟨Q,0,none⟩)) hv kv (.slice (some ⟨wB,0,none⟩) K.length wC) KV WV K [] KV' K' s' (.slice ta Lt.length tc) Lt 0 [Y]/\((Lt.drop 0).map (·.f)).foldl (λs g=>cZ c fuel n nd.ot g s) s'=oot.foldl (λs g=>cZ c fuel n nd.ot g s) s'/\Bk wr Y 186 nd.cells):=ab ⟨h1.turn h5 (uh cI).2.2 (uh cI).1 (uh cI).2.1,by rw[drop_zero,(uh HM).2],h3⟩;clear h1 h2 h3 h4 h5 hI;go_wp2_with fail
     go_loopg [90] Lt.length (λgn iv wx=>∃(j:Nat) (q7:List Value) (K2:List (List En)) (s2:Sr),j+gn=Lt.length/\iv=.int .i64 j/\Hid (Lp w wx S c (.pointer (some ⟨Q,0,none⟩)) hv kv (.slice (some ⟨wB,0,none⟩) K.length wC) KV WV K [] q7 K2 s2 (.slice ta Lt.length tc) Lt j [Y]/\((Lt.drop j).map (·.f)).foldl (λs g=>cZ c fuel n nd.ot g s) s2=oot.foldl (λs g=>cZ c fuel n nd.ot g s) s'/\Bk wx Y 186 nd.cells))
     case atStart=>exact⟨0,KV',K',s',by omega,rfl,mQ⟩
     case round =>
      clear mQ o1;obtain⟨i,q7,K2,sb,anu,rfl,hI⟩:=hrel;obtain⟨G2,CZ⟩:∃G2,G2=gk:=⟨_,rfl⟩;by_cases bS:i<Lt.length
      .have Zq:decide ((i:Int)<(Lt.length:Int))=true:=(by simp;omega);obtain⟨h1,h2,h3⟩:=uh hI;obtain⟨g2,cap2,cO,aw⟩:=h1.pn.pe.cell bS;simp only[Value.slice.injEq,true_and]at cO;obtain⟨rfl,rfl⟩:=cO;obtain⟨n1,-,-,-,n5⟩:=h1.pn.pe.next bS;have Mt:=h1.pn.td _ (getElem_mem bS);have LG:∀k∈Lt[i].bs,k ∉ cL S hv kv (.slice (some ⟨wB,0,none⟩) K.length wC) q7 WV/\k ∉ dK K2:=λk hk=>h1.pn.fd k (n5 k hk);have om:Lt.drop i=Lt[i]::Lt.drop (i+1):=drop_eq_getElem_cons bS;rw[om,map_cons,foldl_cons]at h2;have oM:(cZ c fuel n nd.ot Lt[i].f sb).ok=true:=gC _ (by rw[h2];exact uh kQ);have aY:oot≠[]:=λe=>by
        have h9:=congrArg List.length (uh HM).2;rw[e,length_map,length_nil]at h9;omega
       have hnn:=(uh od).2 aY;have jz:=h1.kl;have y5:=h3.cell 5 rfl;have VZ:∀w' ,gf wr S c (.pointer (some ⟨Q,0,none⟩)) hv kv (.slice (some ⟨wB,0,none⟩) K.length wC) q7 WV K2 Lt[i].bs (cZ c fuel n nd.ot Lt[i].f sb) w'->∃UW K3,Lp w w' S c (.pointer (some ⟨Q,0,none⟩)) hv kv (.slice (some ⟨wB,0,none⟩) K.length wC) KV WV K [] UW K3 (cZ c fuel n nd.ot Lt[i].f sb) (.slice (some ⟨g2,0,none⟩) Lt.length tc) Lt (i+1) [Y]/\Bk w' Y 186 nd.cells:=λw' hP=>by
        obtain⟨UW,K3,q1,q2⟩:=h1.next bS hP;exact⟨UW,K3,q1,h3.of_eq (q2 Y (by simp))⟩
       obtain⟨y,hy⟩:∃y,y=Lt[i]:=⟨_,rfl⟩;rw[<-hy]at aw n1 Mt LG h2 oM VZ;have Ff:y.p=.pointer (some ⟨y.A,0,none⟩):=rfl;rw[Ff]at aw;have Ph:=ab (pU h1.sh n1 Mt LG (a:=n) (n:=nd.ot) (by omega) (by omega) (by omega) oM);have vL:=ab (zq2 VZ h2);have k1:(0:Int)<=(i:Int):=(by omega);have k2:(i:Int)<(Lt.length:Int):=(by omega);clear h1 h2 h3 n1 n5 Mt LG om oM aY hnn jz VZ hy Ff hI;go_wp2_with fail
       refine(uh Ph).mono ?_;rintro e w6 ⟨rfl,hP⟩;obtain⟨UW,K3,q1,q2⟩:=(uh vL).1 w6 hP;have HN:=ab (zq2 q1 (zq2 (uh vL).2 q2));clear hP q1 q2 Ph vL y5 aw;go_wp2_with fail
       go_roundg (G2-1)
       case rel=>exact⟨i+1,UW,K3,_,by omega,by go_num,HN⟩
       case measure=>omega
      .have Zq:decide ((i:Int)<(Lt.length:Int))=false:=(by simp;omega);have hP:dP wr:=by
        obtain⟨h1,h2,h3⟩:=uh hI;rw[drop_eq_nil_of_le (by omega)]at h2;rw[uh fD,<-h2];exact h1.end'
       have HP:=ab hP;clear hP hI;go_wp2_with fail
       go_end0
       exact⟨rfl,uh HP⟩
end
theorem D0(b:Bool)(n k:Nat)(s:Sr):(wrI b n k s).ok=s.ok:=by unfold wrI;split <;> rfl
theorem NZ{c:Cd}{fuel n:Nat}{f:CF}{s:Sr}(h:(mf c fuel n f s).ok=true):s.ok=true:=by
 unfold mf at h;simp only at h;have h1:=gC _ (gC _ h);have h2:(wrI (cN (c.nds.getD n aK) f).da n 4 (wrI (cN (c.nds.getD n aK) f).nu n 3 (wrI (decide ((c.nds.getD n aK).op=0)&&!decide (fA f=[])) n 2 s))).ok=true:=h1;rw[D0,D0,D0]at h2;exact h2
theorem pJ{c:Cd}{fuel n:Nat}:∀(l:List CF) {s:Sr},(mg c fuel n l s).ok=true->s.ok=true
 |[],_,h=>h
 |f::l,s,h=>by
  unfold mg at h;split at h
  .exact h
  .exact NZ (pJ l h)
def En.dn(e:En):En:={ e with d:=true }
theorem En.dn_of{e:En}(h:e.d=true):e.dn=e:=by cases e;simp only at h;subst h;rfl
def eO(l:List En)(k:Nat):List En:=(l.take k).map En.dn++l.drop k
theorem cJ(l:List En)(k:Nat):(eO l k).length=l.length:=by unfold eO;simp;omega
theorem Kv(l:List En):eO l 0=l:=rfl
theorem PZ{l:List En}{k:Nat}(h:l.length<=k):eO l k=l.map En.dn:=by unfold eO;rw[take_of_length_le h,drop_eq_nil_of_le h,append_nil]
theorem xP{l:List En}{k:Nat}(h:k<l.length):(eO l k)[k]?=some l[k]:=by
 unfold eO;rw[getElem?_append_right (by simp;omega),getElem?_drop];simp[Nat.min_eq_left (Nat.le_of_lt h),h]
theorem oE{l:List En}{k:Nat}(h:k<l.length):eO l (k+1)=(eO l k).set k l[k].dn:=by
 unfold eO;have e:((l.take k).map En.dn).length=k:=by simp;omega
 rw[set_append_right _ _ (by omega),e,Nat.sub_self,take_succ_eq_append_getElem h,map_append,drop_eq_getElem_cons h,set_cons_zero];simp
theorem Ku{l:List En}{k:Nat}(h:k<l.length)(hd:l[k].d=true):eO l (k+1)=eO l k:=by
 rw[oE h,En.dn_of hd];apply ext_getElem?;intro i;rw[getElem?_set];split
 .rename_i e;subst e;rw[if_pos (by rw[cJ];exact h),xP h]
 .rfl
theorem EE{l:List En}{k:Nat}{e:En}(h:e∈eO l k):∃e0∈l,e.bs=e0.bs/\(∀w,e0.ok w->e.ok w):=by
 unfold eO at h;rcases mem_append.1 h with h|h
 .obtain⟨e0,h0,rfl⟩:=mem_map.1 h;exact⟨e0,mem_of_mem_take h0,rfl,λw h=>h⟩
 .exact⟨e,mem_of_mem_drop h,rfl,λw h=>h⟩
theorem mb{α:Type}{l:List α}{d:α}{n:Nat}(h:n<l.length):l.set n (l.getD n d)=l:=by
 apply ext_getElem?;intro i;rw[getElem?_set];split
 .rename_i e;subst e;simp[h]
 .rfl
section
variable {w W:World} {S:Nat} {c:Cd} {c0 hv kv wv:Value} {KV WV:List Value} {K:List (List En)} {s:Sr} {n:Nat} {l:List En}
theorem Sh.done{k g cap:Nat}(h:Sh w S c c0 hv kv wv KV WV (K.set n (eO l k)) { s with kn:=s.kn.set n ((eO l k).map En.m) })(hn:n<K.length)(hk:k<l.length)(hg:KV.getD n aH=.slice (some ⟨g,0,none⟩) l.length cap):
  Sh (w.setCell ⟨g,k*2+1,none⟩ (.bool true)) S c c0 hv kv wv KV WV (K.set n (eO l (k+1))) { s with kn:=s.kn.set n ((eO l (k+1)).map En.m) }/\g∈cL S hv kv wv KV WV:=by
 have wt:(K.set n (eO l k)).length=K.length:=length_set;have hKV:=h.kvl;rw[wt]at hKV;have zG:(ny S hv kv wv KV WV)[4+n]?=some (some g):=by rw[vE (by omega),hg];rfl
 have uM:g∈cL S hv kv wv KV WV:=bJ zG;have bp:=h.ke n (by rw[wt];exact hn);have e2:(K.set n (eO l k)).getD n []=eO l k:=by simp[hn]
 rw[e2,hg,cJ]at bp;have aS:=(bp.stored (k*2+1) (.bool true)).1;have aw:(pN (eO l k)).set (k*2+1) (.bool true)=pN (eO l (k+1)):=by
  have h1:=EF (L:=eO l k) (i:=k) (by rw[cJ];exact hk) l[k].dn;rw[<-oE hk]at h1;rw[<-h1];congr 1;symm;apply ext_getElem?;intro i;rw[getElem?_set];split
  .rename_i e;subst e;have h3:=(oF (L:=eO l k) (i:=k) (by rw[cJ];exact hk)).1;have h4:=xP hk;rw[getElem?_eq_getElem (by rw[cJ];exact hk)]at h4;injection h4 with h4;rw[h4]at h3;rw[if_pos (by rw[P2,cJ];omega),h3];rfl
  .rfl
 rw[aw]at aS;have qn:=h.put (n:=n) (by rw[wt];exact hn) (w':=w.setCell ⟨g,k*2+1,none⟩ (.bool true)) (v':=.slice (some ⟨g,0,none⟩) l.length cap) (l':=eO l (k+1)) (λi j _ h4 hi=>heap_setCell _ _ _ _ (λe=>h4 (by
   rw[show j=g from e]at hi;exact h.nd i _ g hi zG))) (by
   rw[wt,<-hg,mb (by omega)];refine ca (wt ▸ h.kr) (p:=⟨g,k*2+1,none⟩) (λe=>?_) _;have:=h.nd 2 (4+n) g (congrArg some e) zG;omega) (by rw[cJ];exact aS) (λj hj=>zq0 (by rw[hg];exact hj)) (λj hj=>heap_setCell _ _ _ _ (λe=>h.da j hj (by rw[show j=g from e];exact uM))) (λe he=>by
   have cW:KV.set n (.slice (some ⟨g,0,none⟩) l.length cap)=KV:=(by rw[<-hg,mb (by omega)]);obtain⟨e0,h0,s9,ho0⟩:=EE he;obtain⟨i,hi,LX⟩:=mem_iff_getElem.1 h0;have rh:∃e1∈eO l k,e1.bs=e0.bs/\(∀w',e1.ok w'->e0.ok w'):=by
    by_cases hik:i<k
    .refine⟨e0.dn,mem_append_left _ (mem_map_of_mem (mem_iff_getElem?.2 ⟨i,?_⟩)),rfl,λw' h=>h⟩;rw[getElem?_take,if_pos hik,getElem?_eq_getElem hi,LX]
    .refine⟨e0,mem_append_right _ (mem_iff_getElem?.2 ⟨i-k,?_⟩),rfl,λw' h=>h⟩;rw[getElem?_drop,show k+(i-k)=i by omega,getElem?_eq_getElem hi,LX]
   obtain⟨e1,h1,bB,ho1⟩:=rh;have hl:eO l k∈K.set n (eO l k):=mem_iff_getElem?.2 ⟨n,by rw[getElem?_set_self hn]⟩;have Ia:∀j∈e.bs,j∈dK (K.set n (eO l k)):=λj hj=>bt.2 ⟨_,hl,e1,h1,by rw[bB,<-s9];exact hj⟩;refine⟨(ho0 w (ho1 w (h.dr _ hl e1 h1))).of_eq (λj hj=>heap_setCell _ _ _ _ (λe'=>h.da j (Ia j hj) (by rw[show j=g from e'];exact uM))),λj hj hm=>?_⟩;rw[cW]at hm;exact h.da j (Ia j hj) hm)
 have cW:KV.set n (.slice (some ⟨g,0,none⟩) l.length cap)=KV:=by rw[<-hg,mb (by omega)]
 rw[cW,set_set]at qn;refine⟨qn.as (s':={ s with kn:=s.kn.set n ((eO l (k+1)).map En.m) }) ?_ rfl rfl rfl rfl,uM⟩;show s.kn.set n _=(s.kn.set n _).set n _;rw[set_set]
theorem Ae(hl:l=K.getD n [])(hn:n<K.length)(k:Nat):∀j,j∈dK (K.set n (eO l k))↔j∈dK K:=by
 have hlK:l∈K:=by rw[hl,bC hn];exact getElem_mem hn
 intro j;constructor
 .intro hj;obtain⟨l2,h2,e,he,hj⟩:=bt.1 hj;rcases mem_or_eq_of_mem_set h2 with p|p
  .exact bt.2 ⟨l2,p,e,he,hj⟩
  .subst p;obtain⟨e0,h0,s9,-⟩:=EE he;exact bt.2 ⟨l,hlK,e0,h0,by rw[<-s9];exact hj⟩
 .intro hj;obtain⟨l2,h2,e,he,hj⟩:=bt.1 hj;obtain⟨i,hi,LX⟩:=mem_iff_getElem.1 h2;by_cases rh:i=n
  .subst rh;have ye:l2=l:=(by rw[hl,bC hn];exact LX.symm);subst ye;obtain⟨q,hq,hqe⟩:=mem_iff_getElem.1 he;have hm:eO l2 k∈K.set i (eO l2 k):=mem_iff_getElem?.2 ⟨i,by rw[getElem?_set_self hi]⟩;by_cases hqk:q<k
   .refine bt.2 ⟨_,hm,e.dn,mem_append_left _ (mem_map_of_mem (mem_iff_getElem?.2 ⟨q,?_⟩)),hj⟩;rw[getElem?_take,if_pos hqk,getElem?_eq_getElem hq,hqe]
   .refine bt.2 ⟨_,hm,e,mem_append_right _ (mem_iff_getElem?.2 ⟨q-k,?_⟩),hj⟩;rw[getElem?_drop,show k+(q-k)=q by omega,getElem?_eq_getElem hq,hqe]
  .exact bt.2 ⟨l2,mem_iff_getElem?.2 ⟨i,by rw[getElem?_set_ne (λe=>rh e.symm),getElem?_eq_getElem hi,LX]⟩,e,he,hj⟩
end
