import Derived.Test.YtciihepbeacppaaGreatM01
set_option maxRecDepth 100000
set_option maxHeartbeats 0
namespace Go.Proofs.YtciihepbeacppaaGreat
open Tryz Go.RowKit List World Below
set_option linter.unusedVariables false
section
variable {P:Program} (w:World)
theorem aS {ops:Array Oper} {rest:List Oper} {o:Oper} {a:Act} {Q:Exit->Act->World->Prop}
  (hg:o.guard=none) (s x:Operand) (t:TypeId) (pq:o.op=Op.call { callee:=Callee.builtin Builtin.append,args:=#[s,x],argTypes:=#[t,t] })
  (base:Nat) (e:TypeId) (i:TypeInfo) (z:Value) (size bytes:Nat) (ht:P.underlying t=some (.slice e)) (hi:P.info? e=some i) (hz:i.zero=some z)
  (jQ:i.size=size) (FI:i.bytes=bytes) (Le:z.cells.size=size) (mO:0<size)
  (v:Value) (n:Nat) (xs:List Value) (hs:a.eval s=v) (aL:w.ownsRow base e size v n xs)
  (ad:Addr) (c:Nat) (news:List Value) (hx:a.eval x=.slice (some ad) 1 c) (hl:news.length=size) (iG:∀j u,news[j]?=some u->w.cell? (ad.add j)=some u) (h1:∀u∈news,u.oneCell'=true)
  (Ky:n+1<=1000000) (hb:bytes<=1000) (gI:base<=w.heap.size)
  (hK:∀g cap w',w'.ownsRow base e size (.slice (some ⟨g,0,none⟩) (n+1) cap) (n+1) (xs++news)->w.grownBy w' v.ownBlock->(some g=v.ownBlock\/g=w.heap.size)->wpList P ops Q rest (a.put o.dst (.slice (some ⟨g,0,none⟩) (n+1) cap)) w') :
  wpList P ops Q (o::rest) a w:=by
 refine wpList_plain hg λK hK'=>?_;obtain⟨v',w',F9,r1,r2,r3,g,cap,rfl⟩:=D3 (P:=P) w base t o.type e i z size bytes ht hi hz jQ FI Le mO v n xs aL ad c news hl iG h1 Ky hb gI;unfold Oper.wp;simp[execOp,pq,resolve,invoke,builtin,hs,hx,F9,Result.andThen];exact hK' _ _ (hK g cap w' r1 r2 (by simpa[Value.ownBlock] using r3))
end
theorem aN(w:World)(b:Nat)(hb:b=w.heap.size)(xs:List Value)(T:TypeId):∀(j:Nat) (u:Value),xs[j]?=some u->(w.alloc (.cells xs.toArray T)).cell? ((⟨b,0,none⟩:Addr).add j)=some u:=by
 intro j u hj;subst hb;rw[show(⟨w.heap.size,0,none⟩:Addr).add j=⟨w.heap.size,j,none⟩ by unfold Addr.add;split <;> simp_all];rw[cell?_alloc_mark];simpa using hj
theorem ci.one(a:ci):∀u∈a.cells,u.oneCell'=true:=by
 intro u hu;simp[ci.cells]at hu;rcases hu with rfl|rfl|rfl|rfl|rfl <;> rfl
theorem Ad(l:List ci)(a:ci):bN (l++[a])=bN l++a.cells:=by simp[bN]
theorem infoAtom:(prog.info? 239).map (λi=>(i.zero,i.size,i.bytes))=some (some (.agg #[.int .i64 0,.int .i64 0,.int .i64 0,.int .i64 0,.int .i64 0]),5,40):=by kernel_rfl
theorem Vz(w:World)(b B:Nat)(hb:b=w.heap.size)(hB:B<=w.heap.size)(T:TypeId)(sz:Nat)(xs:List Value)(hx:xs.length=sz):(w.alloc (.cells xs.toArray T)).ownsRow B T sz (.slice (some ⟨b,0,none⟩) 1 1) 1 xs:=by
 subst hb;subst hx;exact⟨by simp,.inr ⟨w.heap.size,1,xs.toArray,rfl,hB,heap_alloc_new w _,zq4 _,by decide,by simp,by simp⟩⟩
section
variable {B:Nat} {WV:Value} {w:World} {P:Nat} {ws:List ByteArray} {s:PS} {F:List Nat} {wv vv hv nv:Value}
theorem uJ{w w':World}{B:Nat}{e:TypeId}{sz n:Nat}{v:Value}{xs:List Value}{F F':List Nat}(h:w.ownsRow B e sz v n xs)(hS:ar F w F' w')(ho:∀k,v.ownBlock=some k->k ∉ F):w'.ownsRow B e sz v n xs :=
 ae h (λk hk=>hS.block k (h.lt k hk).2 (ho k hk))
theorem LK{w:World}{B:Nat}{e:TypeId}{sz n:Nat}{v:Value}{xs:List Value}(h:w.ownsRow B e sz v n xs)(o o':Obj):((w.alloc o).alloc o').ownsRow B e sz v n xs:=(h.alloc o).alloc o'
theorem Kt {wr w3 w4:World} {F2 F3:List Nat} {st':PS} {v:Value} {al:List ci} {o o':Obj} {g n cap:Nat} (hS:ar F w F2 wr) (aL:wr.ownsRow w.heap.size 239 5 v al.length (bN al)) (FU:∀k,v.ownBlock=some k->k ∉ F2)
  (fS:fh B WV w3 P ws st' F3) (cR:ar F2 wr F3 w3) (hg:((w3.alloc o).alloc o').grownBy w4 v.ownBlock) (hb:some g=v.ownBlock\/g=w3.heap.size+1+1) :
  fh B WV w4 P ws st' F3/\ar F w F3 w4/\∀k,(Value.slice (some ⟨g,0,none⟩) n cap).ownBlock=some k->k ∉ F3:=by
 have K4:∀k,v.ownBlock=some k->k ∉ F3:=by
  intro k hk hm;rcases cR.foot k hm with h|h
  .exact FU k hk h
  .have:=(aL.lt k hk).2;omega
 have akP:=((hS.trans cR).alloc o).alloc o';refine⟨⟨((fS.m.alloc o).alloc o').of_eq (λk hk=>hg.block k (by have:=(fS.m.mem k hk).2;simp;omega) (λe=>K4 k e.symm hk)),fS.f⟩,akP.grown hg (λk hk=>zq1 (aL.lt k hk).1),?_⟩;intro k hk hm;simp[Value.ownBlock]at hk;subst hk;rcases hb with hb|hb
 .exact K4 g hb.symm hm
 .have:=(fS.m.mem g hm).2;omega
theorem Ow(n:Nat)(h:bK ws dD s=false):jj ws n s=([],s):=by
 cases n with
 |zero=>rfl
 |succ n=>simp[jj,h]
theorem Zv(n:Nat)(h:bK ws dD s=true):jj ws (n+1) s=(qw ws s.adv::(jj ws n (eI ws s.adv)).1,(jj ws n (eI ws s.adv)).2):=by simp[jj,h]
theorem CW(h:fh B WV w P ws s F):
  Calls prog 121 #[.pointer (some ⟨P,0,none⟩)] w λe w'=>∃v F',e=.returned v/\fh B WV w' P ws (rG ws s) F'/\ar F w F' w' /\
   w'.ownsRow w.heap.size 239 5 v (foA ws s).length (bN (foA ws s))/\(∀k,v.ownBlock=some k->k ∉ F'):=by
 obtain⟨i0,hi,gX,gy,gK⟩:=info_parts infoAtom;have HQ:=ab h;obtain⟨hl,_,_,_⟩:=h.f;clear h;go_enter func121,ntmps121;go_wp2_with fail
 refine(CH (uh HQ)).mono ?_;rintro e w1 ⟨rfl,F1,dV,bT⟩;have fG:=ab dV;have cH:=ab bT;clear dV bT;obtain⟨A0,Ch⟩:∃A0,A0=qw ws s:=⟨_,rfl⟩;have HA0:=ab Ch;rw[<-Ch];clear Ch;obtain⟨k0,k1,k2,k3,k4⟩:=A0;simp only[ci.cells];go_wp2_with fail
 go_loopg [4] (ws.length+1) (λm v wr=>∃(st:PS) (al:List ci) (F2:List Nat),fh B WV wr P ws st F2/\ar F w F2 wr/\wr.ownsRow w.heap.size 239 5 v al.length (bN al)/\(∀k,v.ownBlock=some k->k ∉ F2)/\al.length<=st.pos+1 /\
  Hid (ws.length<m+st.pos/\foA ws s=al++(jj ws m st).1/\rG ws s=(jj ws m st).2))
 case atStart =>
  refine⟨eI ws s,[⟨k0,k1,k2,k3,k4⟩],F1,((uh fG).alloc _).alloc _,((uh cH).alloc _).alloc _,?_,?_,by simp,?_⟩
  .have al6:=(uh cH).size;exact iP (Vz (w1.alloc _) (w1.heap.size+1) w.heap.size (by simp) (by simp;omega) _ 5 [.int .i64 k0,.int .i64 k1,.int .i64 k2,.int .i64 k3,.int .i64 k4] rfl) rfl (by simp[bN,ci.cells])
  .intro k hk hm;simp[Value.ownBlock]at hk;have:=((uh fG).m.mem k hm).2;omega
  .exact⟨by omega,by rw[foA,<-uh HA0];rfl,rfl⟩
 case round =>
  obtain⟨st,al,F2,hI,hS,aL,FU,dN,af0⟩:=hrel;obtain⟨_,aat,_,_⟩:=hI.f;have HI:=ab hI;have HS:=ab hS;have Tf:=ab aL;have Tc:=ab FU;have HA:=aA dD (by decide) hI;clear hI hS aL FU;cases hb:bK ws dD st with
  |false =>
   have sP:Hid (lV ws dD st=st):=ab (if_neg (by simp[hb]));rw[hb,uh sP]at HA;replace HA:=ab HA
   have HB:=ab hb;clear hb;go_wp2_with fail
   refine(uh HA).mono ?_;rintro e w2 ⟨rfl,cd,bY⟩;have eo:=ab cd;have dg:=ab bY;clear cd bY;go_wp2_with fail
   go_ret;obtain⟨_,Xv,qq⟩:=uh af0;rw[Ow _ (uh HB)]at Xv qq;refine⟨_,F2,rfl,by rw[qq];exact uh eo,(uh HS).trans (uh dg),?_,uh Tc⟩;rw[Xv,append_nil];exact ae (uh Tf) (λk hk=>(uh dg).block k ((uh Tf).lt k hk).2 (uh Tc k hk))
  |true =>
   have sP:Hid (lV ws dD st=st.adv):=ab (if_pos hb);rw[hb,uh sP]at HA;replace HA:=ab HA
   have HB:=ab hb;have ar1:st.pos<ws.length:=MY (by decide) hb;clear hb;go_wp2_with fail
   refine(uh HA).mono ?_;rintro e w2 ⟨rfl,cd,bY⟩;have eo:=ab cd;have dg:=ab bY;clear cd bY;go_wp2_with fail
   refine(CH (uh eo)).mono ?_;rintro e w3 ⟨rfl,F3,fS,cR⟩;have iY:=ab fS;have iT:=ab ((uh dg).trans cR);clear fS cR;obtain⟨A1,hA1⟩:∃A1,A1=qw ws st.adv:=⟨_,rfl⟩;have mp:=ab hA1;rw[<-hA1];clear hA1;obtain⟨j0,j1,j2,j3,j4⟩:=A1;simp only[ci.cells];go_wp2_with (at_builtin;refine aS _ rfl (.tmp 14) (.tmp 16) 102 rfl w.heap.size 239 i0 _ 5 40 underlying102 hi gX gy gK rfl (by decide) _ al.length (bN al) rfl (LK (uJ (uh Tf) (uh iT) (uh Tc)) _ _) ⟨_,0,none⟩ 1 [.int .i64 j0,.int .i64 j1,.int .i64 j2,.int .i64 j3,.int .i64 j4] rfl rfl ?c1 ?c2 ?c3 ?c4 ?c5 ?_)
   case c1=>exact aN (w3.alloc _) _ (by simp) [.int .i64 j0,.int .i64 j1,.int .i64 j2,.int .i64 j3,.int .i64 j4] _
   case c2=>exact ci.one ⟨j0,j1,j2,j3,j4⟩
   case c3=>omega
   case c4=>omega
   case c5=>have:=(uh HS).size;have:=(uh iT).size;simp;omega
   intro g cap w4 iJ eu jK;have R:=Kt (n:=al.length+1) (cap:=cap) (uh HS) (uh Tf) (uh Tc) (uh iY) (uh iT) eu jK;have HR:=ab R;have HO4:=ab iJ;clear R iJ eu jK;go_wp2_with fail
   obtain⟨hfm,Xv,qq⟩:=uh af0;obtain⟨m,rfl⟩:∃m,gk=m+1:=⟨gk-1,by omega⟩;rw[Zv _ (uh HB),<-uh mp]at Xv qq;go_roundg m
   case measure=>omega
   case rel =>
    have Mt:=Tv (ws:=ws) (s:=st.adv);have UI:st.adv.pos=st.pos+1:=rfl;refine⟨eI ws st.adv,al++[⟨j0,j1,j2,j3,j4⟩],F3,(uh HR).1,(uh HR).2.1,?_,(uh HR).2.2,by simp;omega,⟨by omega,?_,qq⟩⟩
    .exact iP (uh HO4) (by simp) (by rw[Ad];rfl)
    .rw[Xv];simp
end
def cg(nd:Nd)(s:PS):PS:={ s with nodes:=s.nodes++[{ nd with nx:=s.nodes.length+1 }] }
theorem bC{w:World}{B:Nat}{e:TypeId}{sz n:Nat}{v:Value}{xs:List Value}(h:w.ownsRow B e sz v n xs):∃ao cap,v=.slice ao n cap:=by
 rcases h.2 with⟨rfl,rfl⟩|⟨g,cap,cur,rfl,_⟩ <;> exact⟨_,_,rfl⟩
theorem Nd.one(a:Nd):∀u∈a.cells,u.oneCell'=true:=by
 intro u hu;simp[Nd.cells]at hu;rcases hu with rfl|rfl|rfl|rfl|rfl|rfl <;> rfl
theorem gF{w:World}{r:Nat}{a b c d e f:Value}{t:TypeId}(h:w.heap[r]?=some (.cells #[a,b,c,d,e,f] t (0,0))):
  (w.cell? ⟨r,0,none⟩=some a/\w.cell? ⟨r,1,none⟩=some b/\w.cell? ⟨r,2,none⟩=some c/\w.cell? ⟨r,3,none⟩=some d/\w.cell? ⟨r,4,none⟩=some e/\w.cell? ⟨r,5,none⟩=some f) /\
  w.frozen? ⟨r,0,none⟩=false/\w.frozen? ⟨r,1,none⟩=false/\w.frozen? ⟨r,2,none⟩=false/\w.frozen? ⟨r,3,none⟩=false/\w.frozen? ⟨r,4,none⟩=false/\w.frozen? ⟨r,5,none⟩=false :=
 ⟨(jD h).1,(jD h).2 0,(jD h).2 1,(jD h).2 2,(jD h).2 3,(jD h).2 4,(jD h).2 5⟩
section
variable {B:Nat} {WV:Value} {w:World} {P:Nat} {ws:List ByteArray} {s:PS} {F:List Nat} {wv vv hv nv:Value}
theorem tX(nd:Nd)(h:fh B WV w P ws s F)(hn:s.nodes.length<=100000):
  Calls prog 123 #[.pointer (some ⟨P,0,none⟩),.agg nd.cells.toArray] w λe w'=>e=.returned (.int .i64 s.nodes.length)/\∃F',fh B WV w' P ws (cg nd s) F'/\ar F w F' w':=by
 obtain⟨i0,hi,gX,gy,gK⟩:=info_parts infoNode;have HQ:=ab h;obtain⟨n0,n1,n2,n3,n4,n5⟩:=nd;obtain⟨w0,mA⟩:∃w0,w0=w.alloc (.cells #[.int .i64 n0,.int .i64 n1,.int .i64 n2,.int .i64 n3,.int .i64 ((s.nodes.length:Int)+1),.int .i64 n5] 186):=⟨_,rfl⟩;have h0:fh B WV w0 P ws s F:=by rw[mA];exact h.alloc _
 have sP:Hid (ar F w F w0):=ab (by rw[mA];exact(ar.refl F w).alloc _);have hr0:w0.heap[w.heap.size]?=some (.cells #[.int .i64 n0,.int .i64 n1,.int .i64 n2,.int .i64 n3,.int .i64 ((s.nodes.length:Int)+1),.int .i64 n5] 186 (0,0)):=by rw[mA];exact heap_alloc_new w _
 have YD:=ab mA;have pw:w.heap.size<w0.heap.size:=by rw[mA];simp
 have HN0:Hid (w.heap.size ∉ F):=ab (λhm=>by have:=(h.m.mem _ hm).2;omega);clear mA;obtain⟨wv,vv,hv,nv,ew⟩:=h.m.named;obtain⟨_,_,_,_,c5,fz⟩:=ew.readsV;obtain⟨ao,cap,rfl⟩:=bC ew.2.2.2.2.2.1;have hPw:P<w.heap.size:=(h.m.mem P h.m.memP).2;have f5:=fz 5;clear h h0 fz;simp only[Nd.cells];go_enter func123,ntmps123;go_wp2_with fail
 rw[<-uh YD];have FW:dH B WV w0 P ws s F wv vv hv (.slice ao s.nodes.length cap):=by rw[uh YD];exact ew.alloc _
 clear c5 f5;obtain⟨_,_,_,_,c5,fz⟩:=FW.readsV;have f5:=fz 5;obtain⟨⟨q0,q1,q2,q3,q4,q5⟩,_⟩:=gF hr0;have uX:=ab hr0;have zh:P<w0.heap.size:=by omega
 have Ug:B<=w0.heap.size:=by have:=(FW.is.mem P FW.is.memP).1;omega
 have Eo:Hid ((Value.slice ao s.nodes.length cap).ownBlock≠some P):=ab (λe=>FW.apart.1 P (by simp[e]) rfl);have kh:=ab FW.2.2.2.2.2.1;have m0:∀(b j k:Nat) (o:Obj) (v:Value),b<w0.heap.size->w0.cell? ⟨b,j,none⟩=some v->((w0.drewN k).alloc o).cell? ⟨b,j,none⟩=some v:=λb j k o v hb hv=>(cell?_of_block (a:=⟨b,j,none⟩) (heap_alloc (w0.drewN k) o b hb)).trans hv;have c5a:=λk o=>m0 P 5 k o _ zh c5;have q0a:=λk o=>m0 _ 0 k o _ pw q0;have q1a:=λk o=>m0 _ 1 k o _ pw q1;have q2a:=λk o=>m0 _ 2 k o _ pw q2;have q3a:=λk o=>m0 _ 3 k o _ pw q3;have q4a:=λk o=>m0 _ 4 k o _ pw q4;have q5a:=λk o=>m0 _ 5 k o _ pw q5;have HV0:=ab FW;clear m0 fz FW hr0 ew;go_region_law (refine jy _ rfl (.tmp 18) (.tmp 20) 103 rfl B 186 i0 _ 6 48 underlying103 hi gX gy gK rfl (by decide) (.slice ao s.nodes.length cap) s.nodes.length (bh s.nodes) (by simp[Act.eval]) (sE (uh kh) _ _) ⟨w0.heap.size,0,none⟩ 1 [.int .i64 n0,.int .i64 n1,.int .i64 n2,.int .i64 n3,.int .i64 ((s.nodes.length:Int)+1),.int .i64 n5] (by simp[Act.eval]) rfl (aN (w0.drewN _) _ rfl _ _) (Nd.one ⟨n0,n1,n2,n3,s.nodes.length+1,n5⟩) (by omega) (by omega) (zs Ug _ _) ?_;intro g2 cap2 w2 br aM dW;have c5':=iq aM zh (uh Eo) 5 c5;have f5':=fs aM zh (uh Eo) 5 f5;obtain⟨F',ZG,ZS⟩:=dH.pushNodes ⟨n0,n1,n2,n3,s.nodes.length+1,n5⟩ ((uh HV0).drewN _) aM br dW;have xI:=ab ZG;have HS':=ab ZS;clear br aM dW ZG ZS)
 all_goals
  go_wp2_with fail
  go_ret;exact⟨rfl,F',⟨uh xI,(uh HQ).f⟩,((uh sP).drewN _).trans (uh HS')⟩
end
def oX:ByteArray:=⟨#[110,101,119]⟩
def iM:ByteArray:=⟨#[46]⟩
def kN:ByteArray:=⟨#[110]⟩
def ic:ByteArray:=⟨#[115,107,105,112]⟩
def ja:ByteArray:=⟨#[102,114,101,101]⟩
def yT(ws:List ByteArray)(s:PS):PS:=if bK ws tr s then s.adv else aF ws gT s
def So(ws:List ByteArray)(s:PS):Nat:=if bK ws tr s then 9 else 8
def tE(ws:List ByteArray)(s:PS):PS:=if bK ws dD s then s.adv else b9 ws (yT ws (bD ws s))
def Ca(ws:List ByteArray)(s:PS):Nd :=
 if bK ws dD s then ⟨7,0,0,0,0,0⟩ else ⟨So ws (bD ws s),mN ws s,dS ws (yT ws (bD ws s)),fe ws (yT ws (bD ws s)),0,0⟩
def Mz(ws:List ByteArray)(s:PS):PS:=aF ws iU (tE ws (aF ws gj s))
def gz(ws:List ByteArray)(s:PS):PS:=cg (Ca ws (aF ws gj s)) (Mz ws s)
def Es(ws:List ByteArray)(s:PS):Bool:=dS ws s==1&&bK ws iM (b9 ws s)
def oP(ws:List ByteArray)(s:PS):PS:=if bK ws oX s then s.adv else if Es ws s then aF ws kN (b9 ws s).adv else b9 ws s
def xL(ws:List ByteArray)(v:Nat)(s:PS):Nd:=if bK ws oX s then ⟨4,v,0,0,0,0⟩ else if Es ws s then ⟨2,v,dS ws s,fe ws s,0,0⟩ else ⟨1,v,dS ws s,fe ws s,0,0⟩
def zK(ws:List ByteArray)(s:PS):PS:=aF ws gT (aF ws kN s.adv)
def iu(ws:List ByteArray)(s:PS):PS :=
 if bK ws ic s then s.adv else if bK ws ja s then bD ws s.adv else if bK ws iM (bD ws s) then b9 ws (zK ws (bD ws s)) else oP ws (aF ws gT (bD ws s))
def kM(ws:List ByteArray)(s:PS):Nd :=
 if bK ws ic s then ⟨6,0,0,0,0,0⟩ else if bK ws ja s then ⟨5,mN ws s.adv,0,0,0,0⟩ else
 if bK ws iM (bD ws s) then ⟨3,mN ws s,dS ws (zK ws (bD ws s)),fe ws (zK ws (bD ws s)),0,0⟩ else xL ws (mN ws s) (aF ws gT (bD ws s))
section
variable {B:Nat} {WV:Value} {w:World} {P:Nat} {ws:List ByteArray} {s:PS} {F:List Nat}
theorem yc(h:fh B WV w P ws s F):
  Calls prog 247 #[.pointer (some ⟨P,0,none⟩)] w λe w'=>e=.returned (.agg (Ca ws s).cells.toArray)/\∃F',fh B WV w' P ws (tE ws s) F'/\ar F w F' w':=by
 have HQ:=ab h;clear h;cases hb:bK ws dD s with
 |true =>
  have HN:Hid (Ca ws s=⟨7,0,0,0,0,0⟩):=ab (if_pos hb);have HS:Hid (tE ws s=s.adv):=ab (if_pos hb);have HE:Hid (lV ws dD s=s.adv):=ab (if_pos hb);have HB:=ab hb;clear hb;go_enter func247,ntmps247;have mp:=λo=>ab (aA dD (by decide) ((uh HQ).alloc o));simp only[uh HB,uh HE]at mp;go_wp2_with fail
  refine(uh (mp _)).mono ?_;rintro e w1 ⟨rfl,dV,bT⟩;have mY:=((ar.refl F w).alloc _).trans bT;obtain⟨fM,eK,yp⟩:=bG (uh HQ).m bT;have je:=ab fM;have fG:=ab dV;have cH:=ab mY;clear dV bT mY fM;obtain⟨⟨qr0,qr1,qr2,qr3,qr4,qr5⟩,zr0,zr1,zr2,zr3,zr4,zr5⟩:=gF (uh je);clear je;go_wp2_with fail
  refine bodyPost_ret (v:=.agg #[.int .i64 7,.int .i64 0,.int .i64 0,.int .i64 0,.int .i64 0,.int .i64 0]) (by simp[results,Tryz.results247,go_sem,qr0,qr1,qr2,qr3,qr4,qr5]) rfl ⟨by rw[uh HN];rfl,F,?_,?_⟩
  .rw[uh HS];exact(((((((uh fG).setOther eK _).setOther eK _).setOther eK _).setOther eK _).setOther eK _).setOther eK _)
  .exact(((((((uh cH).setCell (zq1 (zq4 _)) _).setCell (zq1 (zq4 _)) _).setCell (zq1 (zq4 _)) _).setCell (zq1 (zq4 _)) _).setCell (zq1 (zq4 _)) _).setCell (zq1 (zq4 _)) _)
 |false =>
  have HE:Hid (lV ws dD s=s):=ab (if_neg (by simp[hb]));have HN:Hid (Ca ws s=⟨So ws (bD ws s),mN ws s,dS ws (yT ws (bD ws s)),fe ws (yT ws (bD ws s)),0,0⟩):=ab (if_neg (by simp[hb]));have HS:Hid (tE ws s=b9 ws (yT ws (bD ws s))):=ab (if_neg (by simp[hb]));have HB:=ab hb;clear hb;cases aW:bK ws tr (bD ws s) with
  |true =>
   have HO:Hid (So ws (bD ws s)=9):=ab (if_pos aW);have HT:Hid (yT ws (bD ws s)=(bD ws s).adv):=ab (if_pos aW);have yD:Hid (lV ws tr (bD ws s)=(bD ws s).adv):=ab (if_pos aW);have eO:=ab aW;clear aW;rw[uh HO,uh HT]at HN;rw[uh HT]at HS;go_enter func247,ntmps247;have mp:=λo=>ab (aA dD (by decide) ((uh HQ).alloc o));simp only[uh HB,uh HE]at mp;go_wp2_with fail
   refine(uh (mp _)).mono ?_;rintro e w1 ⟨rfl,dV,bT⟩;have mY:=((ar.refl F w).alloc _).trans bT;obtain⟨fM,eK,yp⟩:=bG (uh HQ).m bT;have je:=ab fM;have fG:=ab dV;have cH:=ab mY;clear dV bT mY fM;go_wp2_with fail
   refine(fB (uh fG)).mono ?_;rintro e w2 ⟨rfl,F2,cd,bY⟩;obtain⟨jL,lu,Dh⟩:=az (uh je) eK bY;have oL:=ab jL;have eo:=ab cd;have dg:=ab ((uh cH).trans bY);clear cd bY jL;have EU:=aA tr (by decide) (uh eo);rw[uh eO,uh yD]at EU;replace EU:=ab EU
   go_wp2_with fail
   refine(uh EU).mono ?_;rintro e w3 ⟨rfl,fS,cR⟩;obtain⟨ll,jP,KZ⟩:=az (uh oL) lu cR;have pD:=ab ll;have iY:=ab fS;have iT:=ab ((uh dg).trans cR);clear fS cR ll;go_wp2_with fail
   refine(iw (uh iY)).mono ?_;rintro e w4 ⟨rfl,F4,mw,fD⟩;obtain⟨qH,ma,Pt⟩:=az (uh pD) jP fD;have uS:=ab qH;have oM:=ab mw;have mE:=ab ((uh iT).trans fD);clear mw fD qH;obtain⟨⟨qr0,qr1,qr2,qr3,qr4,qr5⟩,zr0,zr1,zr2,zr3,zr4,zr5⟩:=gF (uh uS);clear uS;go_wp2_with fail
   refine bodyPost_ret (v:=.agg #[.int .i64 9,.int .i64 (mN ws s),.int .i64 (dS ws (bD ws s).adv),.int .i64 (fe ws (bD ws s).adv),.int .i64 0,.int .i64 0]) (by simp[results,Tryz.results247,go_sem,cell?_alloc_past,Pt,qr0,qr1,qr2,qr3,qr4,qr5]) rfl ⟨by rw[uh HN];rfl,F4,?_,?_⟩
   .rw[uh HS];exact(((((((uh oM).setOther ma _).setOther ma _).setOther ma _).setOther ma _).setOther ma _).setOther ma _).alloc _
   .exact(((((((uh mE).setCell (zq1 (zq4 _)) _).setCell (zq1 (zq4 _)) _).setCell (zq1 (zq4 _)) _).setCell (zq1 (zq4 _)) _).setCell (zq1 (zq4 _)) _).setCell (zq1 (zq4 _)) _).alloc _
  |false =>
   have HO:Hid (So ws (bD ws s)=8):=ab (if_neg (by simp[aW]));have HT:Hid (yT ws (bD ws s)=aF ws gT (bD ws s)):=ab (if_neg (by simp[aW]));have yD:Hid (lV ws tr (bD ws s)=bD ws s):=ab (if_neg (by simp[aW]));have eO:=ab aW;clear aW;rw[uh HO,uh HT]at HN;rw[uh HT]at HS;go_enter func247,ntmps247;have mp:=λo=>ab (aA dD (by decide) ((uh HQ).alloc o));simp only[uh HB,uh HE]at mp;go_wp2_with fail
   refine(uh (mp _)).mono ?_;rintro e w1 ⟨rfl,dV,bT⟩;have mY:=((ar.refl F w).alloc _).trans bT;obtain⟨fM,eK,yp⟩:=bG (uh HQ).m bT;have je:=ab fM;have fG:=ab dV;have cH:=ab mY;clear dV bT mY fM;go_wp2_with fail
   refine(fB (uh fG)).mono ?_;rintro e w2 ⟨rfl,F2,cd,bY⟩;obtain⟨jL,lu,Dh⟩:=az (uh je) eK bY;have oL:=ab jL;have eo:=ab cd;have dg:=ab ((uh cH).trans bY);clear cd bY jL;have EU:=aA tr (by decide) (uh eo);rw[uh eO,uh yD]at EU;replace EU:=ab EU
   go_wp2_with fail
   refine(uh EU).mono ?_;rintro e w3 ⟨rfl,fS,cR⟩;obtain⟨ll,jP,KZ⟩:=az (uh oL) lu cR;have pD:=ab ll;have iY:=ab fS;have iT:=ab ((uh dg).trans cR);clear fS cR ll;go_wp2_with fail
   refine(aZ gT (by decide) (uh iY)).mono ?_;rintro e w4 ⟨rfl,mw,fD⟩;obtain⟨qH,ma,Pt⟩:=az (uh pD) jP fD;have uS:=ab qH;have oM:=ab mw;have mE:=ab ((uh iT).trans fD);clear mw fD qH;go_wp2_with fail
   refine(iw (uh oM)).mono ?_;rintro e w5 ⟨rfl,F5,sd,gg⟩;obtain⟨Db,yq,aaj⟩:=az (uh uS) ma gg;have J2:=ab Db;have G9:=ab sd;have tB:=ab ((uh mE).trans gg);clear sd gg Db;obtain⟨⟨qr0,qr1,qr2,qr3,qr4,qr5⟩,zr0,zr1,zr2,zr3,zr4,zr5⟩:=gF (uh J2);clear J2;go_wp2_with fail
   refine bodyPost_ret (v:=.agg #[.int .i64 8,.int .i64 (mN ws s),.int .i64 (dS ws (aF ws gT (bD ws s))),.int .i64 (fe ws (aF ws gT (bD ws s))),.int .i64 0,.int .i64 0]) (by simp[results,Tryz.results247,go_sem,cell?_alloc_past,aaj,qr0,qr1,qr2,qr3,qr4,qr5]) rfl ⟨by rw[uh HN];rfl,F5,?_,?_⟩
   .rw[uh HS];exact(((((((uh G9).setOther yq _).setOther yq _).setOther yq _).setOther yq _).setOther yq _).setOther yq _).alloc _
   .exact(((((((uh tB).setCell (zq1 (zq4 _)) _).setCell (zq1 (zq4 _)) _).setCell (zq1 (zq4 _)) _).setCell (zq1 (zq4 _)) _).setCell (zq1 (zq4 _)) _).setCell (zq1 (zq4 _)) _).alloc _
end
section
variable {ws:List ByteArray} {s:PS}
theorem bn(k:ByteArray):(aF ws k s).nodes=s.nodes:=by unfold aF;split <;> rfl
theorem lK:(bD ws s).nodes=s.nodes:=by unfold bD;split <;> rfl
theorem j8:(b9 ws s).nodes=s.nodes:=by unfold b9;split;rfl;exact lK
theorem oI:(fJ ws s).nodes=s.nodes:=by unfold fJ;split;rfl;exact j8
theorem Kk:(yT ws s).nodes=s.nodes:=by unfold yT;split;rfl;exact bn _
theorem Kj:(tE ws s).nodes=s.nodes:=by unfold tE;split;rfl;rw[j8,Kk,lK]
theorem sM:(Mz ws s).nodes=s.nodes:=by unfold Mz;rw[bn,Kj,bn]
theorem Kf:(oP ws s).nodes=s.nodes:=by unfold oP;split;rfl;split;rw[bn];exact j8;exact j8
theorem zL:(iu ws s).nodes=s.nodes:=by
 unfold iu;split;rfl;split;rw[lK];rfl;split
 .rw[j8];unfold zK;rw[bn,bn];exact lK
 .rw[Kf,bn,lK]
end
section
variable {B:Nat} {WV:Value} {w:World} {P:Nat} {ws:List ByteArray} {s:PS} {F:List Nat}
theorem xx(hn:s.nodes.length<=100000)(h:fh B WV w P ws s F):
  Calls prog 214 #[.pointer (some ⟨P,0,none⟩)] w λe w'=>e=.returned (.int .i64 s.nodes.length)/\∃F',fh B WV w' P ws (gz ws s) F'/\ar F w F' w':=by
 have HQ:=ab h;clear h;go_enter func214,ntmps214;go_wp2_with fail
 refine(aZ gj (by decide) (uh HQ)).mono ?_;rintro e w1 ⟨rfl,dV,bT⟩;have fG:=ab dV;have cH:=ab bT;clear dV bT;go_wp2_with fail
 refine(yc (uh fG)).mono ?_;rintro e w2 ⟨rfl,F2,cd,bY⟩;have eo:=ab cd;have dg:=ab ((uh cH).trans bY);clear cd bY;obtain⟨A0,Ch⟩:∃A0,A0=Ca ws (aF ws gj s):=⟨_,rfl⟩;have HA0:=ab Ch;rw[<-Ch];clear Ch;obtain⟨n0,n1,n2,n3,n4,n5⟩:=A0;simp only[Nd.cells];go_wp2_with fail
 refine(aZ iU (by decide) ((uh eo).alloc _)).mono ?_;rintro e w3 ⟨rfl,fS,cR⟩;have FG:=((ar.refl F2 w2).alloc _).trans cR;obtain⟨afA,arP,arF⟩:=bG (uh eo).m cR;have ajq:=ab afA;have iY:=ab fS;have iT:=ab ((uh dg).trans FG);clear fS cR FG afA;obtain⟨⟨q0,q1,q2,q3,q4,q5⟩,_⟩:=gF (uh ajq);have FH:=tX ⟨n0,n1,n2,n3,n4,n5⟩ (uh iY) (by show(Mz ws s).nodes.length<=100000;rw[sM];exact hn);simp only[Nd.cells]at FH;have Ya:=ab FH;clear FH;go_wp2_with fail
 refine(uh Ya).mono ?_;rintro e w4 ⟨rfl,F4,mw,fD⟩;have oM:=ab mw;have mE:=ab ((uh iT).trans fD);clear mw fD;go_wp2_with fail
 go_ret;refine⟨bi (by show(((Mz ws s).nodes.length:Nat):Int)=_;rw[sM]),F4,?_,uh mE⟩;unfold gz;rw[<-uh HA0];exact uh oM
theorem vt(v:Nat)(h:fh B WV w P ws s F):
  Calls prog 216 #[.pointer (some ⟨P,0,none⟩),.int .i64 (v:Int)] w λe w'=>e=.returned (.agg (xL ws v s).cells.toArray)/\∃F',fh B WV w' P ws (oP ws s) F'/\ar F w F' w':=by
 have HQ:=ab h;clear h;cases hb:bK ws oX s with
 |true =>
  have HN:Hid (xL ws v s=⟨4,v,0,0,0,0⟩):=ab (if_pos hb);have HS:Hid (oP ws s=s.adv):=ab (if_pos hb);have HE:Hid (lV ws oX s=s.adv):=ab (if_pos hb);have HB:=ab hb;clear hb;go_enter func216,ntmps216;have mp:=λo=>ab (aA oX (by decide) ((uh HQ).alloc o));simp only[uh HB,uh HE]at mp;go_wp2_with fail
  refine(uh (mp _)).mono ?_;rintro e w1 ⟨rfl,dV,bT⟩;have mY:=((ar.refl F w).alloc _).trans bT;obtain⟨fM,eK,yp⟩:=bG (uh HQ).m bT;have je:=ab fM;have fG:=ab dV;have cH:=ab mY;clear dV bT mY fM;obtain⟨⟨qr0,qr1,qr2,qr3,qr4,qr5⟩,zr0,zr1,zr2,zr3,zr4,zr5⟩:=gF (uh je);clear je;go_wp2_with fail
  refine bodyPost_ret (v:=.agg #[.int .i64 4,.int .i64 v,.int .i64 0,.int .i64 0,.int .i64 0,.int .i64 0]) (by simp[results,Tryz.results216,go_sem,qr0,qr1,qr2,qr3,qr4,qr5]) rfl ⟨by rw[uh HN];rfl,F,?_,?_⟩
  .rw[uh HS];exact(((((((uh fG).setOther eK _).setOther eK _).setOther eK _).setOther eK _).setOther eK _).setOther eK _)
  .exact(((((((uh cH).setCell (zq1 (zq4 _)) _).setCell (zq1 (zq4 _)) _).setCell (zq1 (zq4 _)) _).setCell (zq1 (zq4 _)) _).setCell (zq1 (zq4 _)) _).setCell (zq1 (zq4 _)) _)
 |false =>
  have HE:Hid (lV ws oX s=s):=ab (if_neg (by simp[hb]));have HB:=ab hb;cases hk:(dS ws s==1) with
  |false =>
   have HN:Hid (xL ws v s=⟨1,v,dS ws s,fe ws s,0,0⟩):=ab (by unfold xL Es;rw[hb,hk];rfl);have HS:Hid (oP ws s=b9 ws s):=ab (by unfold oP Es;rw[hb,hk];rfl);have hkf:(((dS ws s:Nat):Int)==1)=false:=(by simp at hk ⊢;omega);clear hb hk;go_enter func216,ntmps216;have mp:=λo=>ab (aA oX (by decide) ((uh HQ).alloc o));simp only[uh HB,uh HE]at mp;go_wp2_with fail
   refine(uh (mp _)).mono ?_;rintro e w1 ⟨rfl,dV,bT⟩;have mY:=((ar.refl F w).alloc _).trans bT;obtain⟨fM,eK,yp⟩:=bG (uh HQ).m bT;have je:=ab fM;have fG:=ab dV;have cH:=ab mY;clear dV bT mY fM;go_wp2_with fail
   refine(iw (uh fG)).mono ?_;rintro e w2 ⟨rfl,F2,cd,bY⟩;obtain⟨jL,lu,Dh⟩:=az (uh je) eK bY;have oL:=ab jL;have eo:=ab cd;have dg:=ab ((uh cH).trans bY);clear cd bY jL;obtain⟨⟨qr0,qr1,qr2,qr3,qr4,qr5⟩,zr0,zr1,zr2,zr3,zr4,zr5⟩:=gF (uh oL);clear oL;go_wp2_with fail
   refine bodyPost_ret (v:=.agg #[.int .i64 1,.int .i64 v,.int .i64 (dS ws s),.int .i64 (fe ws s),.int .i64 0,.int .i64 0]) (by simp[results,Tryz.results216,go_sem,cell?_alloc_past,Dh,qr0,qr1,qr2,qr3,qr4,qr5]) rfl ⟨by rw[uh HN];rfl,F2,?_,?_⟩
   .rw[uh HS];exact(((((((uh eo).setOther lu _).setOther lu _).setOther lu _).setOther lu _).setOther lu _).setOther lu _).alloc _
   .exact(((((((uh dg).setCell (zq1 (zq4 _)) _).setCell (zq1 (zq4 _)) _).setCell (zq1 (zq4 _)) _).setCell (zq1 (zq4 _)) _).setCell (zq1 (zq4 _)) _).setCell (zq1 (zq4 _)) _).alloc _
  |true =>
   have hkt:(((dS ws s:Nat):Int)==1)=true:=(by simp at hk ⊢;omega);cases hd:bK ws iM (b9 ws s) with
   |false =>
    have HN:Hid (xL ws v s=⟨1,v,dS ws s,fe ws s,0,0⟩):=ab (by unfold xL Es;rw[hb,hk,hd];rfl);have HS:Hid (oP ws s=b9 ws s):=ab (by unfold oP Es;rw[hb,hk,hd];rfl);have yD:Hid (lV ws iM (b9 ws s)=b9 ws s):=ab (if_neg (by simp[hd]));have eO:=ab hd;clear hb hk hd;go_enter func216,ntmps216;have mp:=λo=>ab (aA oX (by decide) ((uh HQ).alloc o));simp only[uh HB,uh HE]at mp;go_wp2_with fail
    refine(uh (mp _)).mono ?_;rintro e w1 ⟨rfl,dV,bT⟩;have mY:=((ar.refl F w).alloc _).trans bT;obtain⟨fM,eK,yp⟩:=bG (uh HQ).m bT;have je:=ab fM;have fG:=ab dV;have cH:=ab mY;clear dV bT mY fM;go_wp2_with fail
    refine(iw (uh fG)).mono ?_;rintro e w2 ⟨rfl,F2,cd,bY⟩;obtain⟨jL,lu,Dh⟩:=az (uh je) eK bY;have oL:=ab jL;have eo:=ab cd;have dg:=ab ((uh cH).trans bY);clear cd bY jL;have EU:=λo=>ab (aA iM (by decide) ((uh eo).alloc o));simp only[uh eO,uh yD]at EU;go_wp2_with fail
    refine(uh (EU _)).mono ?_;rintro e w3 ⟨rfl,fS,cR⟩;have FG:=((ar.refl F2 w2).alloc _).trans cR;obtain⟨ll,jP,KZ⟩:=az (uh oL) lu FG;obtain⟨KM,agm,alz⟩:=bG (uh eo).m cR;have pD:=ab ll;have Yg:=ab KM;have iY:=ab fS;have iT:=ab ((uh dg).trans FG);clear fS cR FG ll KM;obtain⟨⟨qr0,qr1,qr2,qr3,qr4,qr5⟩,zr0,zr1,zr2,zr3,zr4,zr5⟩:=gF (uh pD);clear pD;obtain⟨⟨qb0,qb1⟩,zb0,zb1⟩:=kP (uh Yg);go_wp2_with fail
    refine bodyPost_ret (v:=.agg #[.int .i64 1,.int .i64 v,.int .i64 (dS ws s),.int .i64 (fe ws s),.int .i64 0,.int .i64 0]) (by simp[results,Tryz.results216,go_sem,qr0,qr1,qr2,qr3,qr4,qr5]) rfl ⟨by rw[uh HN];rfl,F2,?_,?_⟩
    .rw[uh HS];exact(((((((uh iY).setOther jP _).setOther jP _).setOther jP _).setOther jP _).setOther jP _).setOther jP _)
    .exact(((((((uh iT).setCell (zq1 (zq4 _)) _).setCell (zq1 (zq4 _)) _).setCell (zq1 (zq4 _)) _).setCell (zq1 (zq4 _)) _).setCell (zq1 (zq4 _)) _).setCell (zq1 (zq4 _)) _)
   |true =>
    have HN:Hid (xL ws v s=⟨2,v,dS ws s,fe ws s,0,0⟩):=ab (by unfold xL Es;rw[hb,hk,hd];rfl);have HS:Hid (oP ws s=aF ws kN (b9 ws s).adv):=ab (by unfold oP Es;rw[hb,hk,hd];rfl);have yD:Hid (lV ws iM (b9 ws s)=(b9 ws s).adv):=ab (if_pos hd);have eO:=ab hd;clear hb hk hd;go_enter func216,ntmps216;have mp:=λo=>ab (aA oX (by decide) ((uh HQ).alloc o));simp only[uh HB,uh HE]at mp;go_wp2_with fail
    refine(uh (mp _)).mono ?_;rintro e w1 ⟨rfl,dV,bT⟩;have mY:=((ar.refl F w).alloc _).trans bT;obtain⟨fM,eK,yp⟩:=bG (uh HQ).m bT;have je:=ab fM;have fG:=ab dV;have cH:=ab mY;clear dV bT mY fM;go_wp2_with fail
    refine(iw (uh fG)).mono ?_;rintro e w2 ⟨rfl,F2,cd,bY⟩;obtain⟨jL,lu,Dh⟩:=az (uh je) eK bY;have oL:=ab jL;have eo:=ab cd;have dg:=ab ((uh cH).trans bY);clear cd bY jL;have EU:=λo=>ab (aA iM (by decide) ((uh eo).alloc o));simp only[uh eO,uh yD]at EU;go_wp2_with fail
    refine(uh (EU _)).mono ?_;rintro e w3 ⟨rfl,fS,cR⟩;have FG:=((ar.refl F2 w2).alloc _).trans cR;obtain⟨ll,jP,KZ⟩:=az (uh oL) lu FG;obtain⟨KM,agm,alz⟩:=bG (uh eo).m cR;have pD:=ab ll;have Yg:=ab KM;have iY:=ab fS;have iT:=ab ((uh dg).trans FG);clear fS cR FG ll KM;go_wp2_with fail
    refine(aZ kN (by decide) (uh iY)).mono ?_;rintro e w4 ⟨rfl,mw,fD⟩;obtain⟨qH,ma,Pt⟩:=az (uh pD) jP fD;obtain⟨Z2,arR,arG⟩:=az (uh Yg) agm fD;have uS:=ab qH;have ajr:=ab Z2;have oM:=ab mw;have mE:=ab ((uh iT).trans fD);clear mw fD qH Z2;obtain⟨⟨qr0,qr1,qr2,qr3,qr4,qr5⟩,zr0,zr1,zr2,zr3,zr4,zr5⟩:=gF (uh uS);clear uS;obtain⟨⟨qb0,qb1⟩,zb0,zb1⟩:=kP (uh ajr);go_wp2_with fail
    refine bodyPost_ret (v:=.agg #[.int .i64 2,.int .i64 v,.int .i64 (dS ws s),.int .i64 (fe ws s),.int .i64 0,.int .i64 0]) (by simp[results,Tryz.results216,go_sem,qr0,qr1,qr2,qr3,qr4,qr5]) rfl ⟨by rw[uh HN];rfl,F2,?_,?_⟩
    .rw[uh HS];exact(((((((uh oM).setOther ma _).setOther ma _).setOther ma _).setOther ma _).setOther ma _).setOther ma _)
    .exact(((((((uh mE).setCell (zq1 (zq4 _)) _).setCell (zq1 (zq4 _)) _).setCell (zq1 (zq4 _)) _).setCell (zq1 (zq4 _)) _).setCell (zq1 (zq4 _)) _).setCell (zq1 (zq4 _)) _)
theorem GJ(h:fh B WV w P ws s F):
  Calls prog 188 #[.pointer (some ⟨P,0,none⟩)] w λe w'=>e=.returned (.agg (kM ws s).cells.toArray)/\∃F',fh B WV w' P ws (iu ws s) F'/\ar F w F' w':=by
 have HQ:=ab h;clear h;cases hb:bK ws ic s with
 |true =>
  have HN:Hid (kM ws s=⟨6,0,0,0,0,0⟩):=ab (if_pos hb);have HS:Hid (iu ws s=s.adv):=ab (if_pos hb);have HE:Hid (lV ws ic s=s.adv):=ab (if_pos hb);have HB:=ab hb;clear hb;go_enter func188,ntmps188;have mp:=λo=>ab (aA ic (by decide) ((uh HQ).alloc o));simp only[uh HB,uh HE]at mp;go_wp2_with fail
  refine(uh (mp _)).mono ?_;rintro e w1 ⟨rfl,dV,bT⟩;have mY:=((ar.refl F w).alloc _).trans bT;obtain⟨fM,eK,yp⟩:=bG (uh HQ).m bT;have je:=ab fM;have fG:=ab dV;have cH:=ab mY;clear dV bT mY fM;obtain⟨⟨qr0,qr1,qr2,qr3,qr4,qr5⟩,zr0,zr1,zr2,zr3,zr4,zr5⟩:=gF (uh je);clear je;go_wp2_with fail
  refine bodyPost_ret (v:=.agg #[.int .i64 6,.int .i64 0,.int .i64 0,.int .i64 0,.int .i64 0,.int .i64 0]) (by simp[results,Tryz.results188,go_sem,qr0,qr1,qr2,qr3,qr4,qr5]) rfl ⟨by rw[uh HN];rfl,F,?_,?_⟩
  .rw[uh HS];exact(((((((uh fG).setOther eK _).setOther eK _).setOther eK _).setOther eK _).setOther eK _).setOther eK _)
  .exact(((((((uh cH).setCell (zq1 (zq4 _)) _).setCell (zq1 (zq4 _)) _).setCell (zq1 (zq4 _)) _).setCell (zq1 (zq4 _)) _).setCell (zq1 (zq4 _)) _).setCell (zq1 (zq4 _)) _)
 |false =>
  have HE:Hid (lV ws ic s=s):=ab (if_neg (by simp[hb]));have HB:=ab hb;cases aW:bK ws ja s with
  |true =>
   have HN:Hid (kM ws s=⟨5,mN ws s.adv,0,0,0,0⟩):=ab (by unfold kM;rw[hb,aW];rfl);have HS:Hid (iu ws s=bD ws s.adv):=ab (by unfold iu;rw[hb,aW];rfl);have yD:Hid (lV ws ja s=s.adv):=ab (if_pos aW);have eO:=ab aW;clear hb aW;go_enter func188,ntmps188;have mp:=λo=>ab (aA ic (by decide) ((uh HQ).alloc o));simp only[uh HB,uh HE]at mp;go_wp2_with fail
   refine(uh (mp _)).mono ?_;rintro e w1 ⟨rfl,dV,bT⟩;have mY:=((ar.refl F w).alloc _).trans bT;obtain⟨fM,eK,yp⟩:=bG (uh HQ).m bT;have je:=ab fM;have fG:=ab dV;have cH:=ab mY;clear dV bT mY fM;have lM:=aA ja (by decide) (uh fG);rw[uh eO,uh yD]at lM;replace lM:=ab lM
   go_wp2_with fail
   refine(uh lM).mono ?_;rintro e w2 ⟨rfl,cd,bY⟩;obtain⟨jL,lu,Dh⟩:=az (uh je) eK bY;have oL:=ab jL;have eo:=ab cd;have dg:=ab ((uh cH).trans bY);clear cd bY jL;go_wp2_with fail
   refine(fB (uh eo)).mono ?_;rintro e w3 ⟨rfl,F3,fS,cR⟩;obtain⟨ll,jP,KZ⟩:=az (uh oL) lu cR;have pD:=ab ll;have iY:=ab fS;have iT:=ab ((uh dg).trans cR);clear fS cR ll;obtain⟨⟨qr0,qr1,qr2,qr3,qr4,qr5⟩,zr0,zr1,zr2,zr3,zr4,zr5⟩:=gF (uh pD);clear pD;go_wp2_with fail
   refine bodyPost_ret (v:=.agg #[.int .i64 5,.int .i64 (mN ws s.adv),.int .i64 0,.int .i64 0,.int .i64 0,.int .i64 0]) (by simp[results,Tryz.results188,go_sem,qr0,qr1,qr2,qr3,qr4,qr5]) rfl ⟨by rw[uh HN];rfl,F3,?_,?_⟩
   .rw[uh HS];exact(((((((uh iY).setOther jP _).setOther jP _).setOther jP _).setOther jP _).setOther jP _).setOther jP _)
   .exact(((((((uh iT).setCell (zq1 (zq4 _)) _).setCell (zq1 (zq4 _)) _).setCell (zq1 (zq4 _)) _).setCell (zq1 (zq4 _)) _).setCell (zq1 (zq4 _)) _).setCell (zq1 (zq4 _)) _)
  |false =>
   have yD:Hid (lV ws ja s=s):=ab (if_neg (by simp[aW]));have eO:=ab aW;cases dx:bK ws iM (bD ws s) with
   |true =>
    have HN:Hid (kM ws s=⟨3,mN ws s,dS ws (zK ws (bD ws s)),fe ws (zK ws (bD ws s)),0,0⟩):=ab (by unfold kM;rw[hb,aW,dx];rfl);have HS:Hid (iu ws s=b9 ws (zK ws (bD ws s))):=ab (by unfold iu;rw[hb,aW,dx];rfl);have HE3:Hid (lV ws iM (bD ws s)=(bD ws s).adv):=ab (if_pos dx);have HL:Hid (aF ws gT (aF ws kN (bD ws s).adv)=zK ws (bD ws s)):=ab rfl;have tA:=ab dx;clear hb aW dx;go_enter func188,ntmps188;have mp:=λo=>ab (aA ic (by decide) ((uh HQ).alloc o));simp only[uh HB,uh HE]at mp;go_wp2_with fail
    refine(uh (mp _)).mono ?_;rintro e w1 ⟨rfl,dV,bT⟩;have mY:=((ar.refl F w).alloc _).trans bT;obtain⟨fM,eK,yp⟩:=bG (uh HQ).m bT;have je:=ab fM;have fG:=ab dV;have cH:=ab mY;clear dV bT mY fM;have lM:=aA ja (by decide) (uh fG);rw[uh eO,uh yD]at lM;replace lM:=ab lM
    go_wp2_with fail
    refine(uh lM).mono ?_;rintro e w2 ⟨rfl,cd,bY⟩;obtain⟨jL,lu,Dh⟩:=az (uh je) eK bY;have oL:=ab jL;have eo:=ab cd;have dg:=ab ((uh cH).trans bY);clear cd bY jL;go_wp2_with fail
    refine(fB (uh eo)).mono ?_;rintro e w3 ⟨rfl,F3,fS,cR⟩;obtain⟨ll,jP,KZ⟩:=az (uh oL) lu cR;have pD:=ab ll;have iY:=ab fS;have iT:=ab ((uh dg).trans cR);clear fS cR ll;have xX:=aA iM (by decide) (uh iY);rw[uh tA,uh HE3]at xX;replace xX:=ab xX
    go_wp2_with fail
    refine(uh xX).mono ?_;rintro e w4 ⟨rfl,mw,fD⟩;obtain⟨qH,ma,Pt⟩:=az (uh pD) jP fD;have uS:=ab qH;have oM:=ab mw;have mE:=ab ((uh iT).trans fD);clear mw fD qH;go_wp2_with fail
    refine(aZ kN (by decide) (uh oM)).mono ?_;rintro e w5 ⟨rfl,sd,gg⟩;obtain⟨Db,yq,aaj⟩:=az (uh uS) ma gg;have J2:=ab Db;have G9:=ab sd;have tB:=ab ((uh mE).trans gg);clear sd gg Db;go_wp2_with fail
    refine(aZ gT (by decide) (uh G9)).mono ?_;rintro e w6 ⟨rfl,hI6,KG⟩;rw[uh HL]at hI6;obtain⟨O3,Dp,alD⟩:=az (uh J2) yq KG;have S0:=ab O3;have HI6:=ab hI6;have HS6:=ab ((uh tB).trans KG);clear hI6 KG O3;go_wp2_with fail
    refine(iw (uh HI6)).mono ?_;rintro e w7 ⟨rfl,F7,hI7,Ew⟩;obtain⟨afC,K5,alE⟩:=az (uh S0) Dp Ew;have adA:=ab afC;have HI7:=ab hI7;have WK:=ab ((uh HS6).trans Ew);clear hI7 Ew afC;obtain⟨⟨qr0,qr1,qr2,qr3,qr4,qr5⟩,zr0,zr1,zr2,zr3,zr4,zr5⟩:=gF (uh adA);clear adA;go_wp2_with fail
    refine bodyPost_ret (v:=.agg #[.int .i64 3,.int .i64 (mN ws s),.int .i64 (dS ws (zK ws (bD ws s))),.int .i64 (fe ws (zK ws (bD ws s))),.int .i64 0,.int .i64 0]) (by simp[results,Tryz.results188,go_sem,cell?_alloc_past,alE,qr0,qr1,qr2,qr3,qr4,qr5]) rfl ⟨by rw[uh HN];rfl,F7,?_,?_⟩
    .rw[uh HS];exact(((((((uh HI7).setOther K5 _).setOther K5 _).setOther K5 _).setOther K5 _).setOther K5 _).setOther K5 _).alloc _
    .exact(((((((uh WK).setCell (zq1 (zq4 _)) _).setCell (zq1 (zq4 _)) _).setCell (zq1 (zq4 _)) _).setCell (zq1 (zq4 _)) _).setCell (zq1 (zq4 _)) _).setCell (zq1 (zq4 _)) _).alloc _
   |false =>
    have HN:Hid (kM ws s=xL ws (mN ws s) (aF ws gT (bD ws s))):=ab (by unfold kM;rw[hb,aW,dx];rfl);have HS:Hid (iu ws s=oP ws (aF ws gT (bD ws s))):=ab (by unfold iu;rw[hb,aW,dx];rfl);have HE3:Hid (lV ws iM (bD ws s)=bD ws s):=ab (if_neg (by simp[dx]));have tA:=ab dx;clear hb aW dx;go_enter func188,ntmps188;have mp:=λo=>ab (aA ic (by decide) ((uh HQ).alloc o));simp only[uh HB,uh HE]at mp;go_wp2_with fail
    refine(uh (mp _)).mono ?_;rintro e w1 ⟨rfl,dV,bT⟩;have mY:=((ar.refl F w).alloc _).trans bT;obtain⟨fM,eK,yp⟩:=bG (uh HQ).m bT;have je:=ab fM;have fG:=ab dV;have cH:=ab mY;clear dV bT mY fM;have lM:=aA ja (by decide) (uh fG);rw[uh eO,uh yD]at lM;replace lM:=ab lM
    go_wp2_with fail
    refine(uh lM).mono ?_;rintro e w2 ⟨rfl,cd,bY⟩;obtain⟨jL,lu,Dh⟩:=az (uh je) eK bY;have oL:=ab jL;have eo:=ab cd;have dg:=ab ((uh cH).trans bY);clear cd bY jL;go_wp2_with fail
    refine(fB (uh eo)).mono ?_;rintro e w3 ⟨rfl,F3,fS,cR⟩;obtain⟨ll,jP,KZ⟩:=az (uh oL) lu cR;have pD:=ab ll;have iY:=ab fS;have iT:=ab ((uh dg).trans cR);clear fS cR ll;have xX:=aA iM (by decide) (uh iY);rw[uh tA,uh HE3]at xX;replace xX:=ab xX
    go_wp2_with fail
    refine(uh xX).mono ?_;rintro e w4 ⟨rfl,mw,fD⟩;obtain⟨qH,ma,Pt⟩:=az (uh pD) jP fD;have uS:=ab qH;have oM:=ab mw;have mE:=ab ((uh iT).trans fD);clear mw fD qH;go_wp2_with fail
    refine(aZ gT (by decide) (uh oM)).mono ?_;rintro e w5 ⟨rfl,sd,gg⟩;obtain⟨Db,yq,aaj⟩:=az (uh uS) ma gg;have J2:=ab Db;have G9:=ab sd;have tB:=ab ((uh mE).trans gg);clear sd gg Db;go_wp2_with fail
    refine(vt (mN ws s) (uh G9)).mono ?_;rintro e w6 ⟨rfl,F6,hI6,KG⟩;obtain⟨O3,Dp,alD⟩:=az (uh J2) yq KG;have S0:=ab O3;have HI6:=ab hI6;have HS6:=ab ((uh tB).trans KG);clear hI6 KG O3;obtain⟨A0,Ch⟩:∃A0,A0=xL ws (mN ws s) (aF ws gT (bD ws s)):=⟨_,rfl⟩;have HA0:=ab Ch;rw[<-Ch]at HN ⊢;clear Ch;obtain⟨n0,n1,n2,n3,n4,n5⟩:=A0;simp only[Nd.cells];obtain⟨⟨qr0,qr1,qr2,qr3,qr4,qr5⟩,zr0,zr1,zr2,zr3,zr4,zr5⟩:=gF (uh S0);clear S0;go_wp2_with fail
    refine bodyPost_ret (v:=.agg #[.int .i64 n0,.int .i64 n1,.int .i64 n2,.int .i64 n3,.int .i64 n4,.int .i64 n5]) (by simp[results,Tryz.results188,go_sem,qr0,qr1,qr2,qr3,qr4,qr5]) rfl ⟨by rw[uh HN];rfl,F6,?_,?_⟩
    .rw[uh HS];exact(((((((uh HI6).setOther Dp _).setOther Dp _).setOther Dp _).setOther Dp _).setOther Dp _).setOther Dp _)
    .exact(((((((uh HS6).setCell (zq1 (zq4 _)) _).setCell (zq1 (zq4 _)) _).setCell (zq1 (zq4 _)) _).setCell (zq1 (zq4 _)) _).setCell (zq1 (zq4 _)) _).setCell (zq1 (zq4 _)) _)
end
def mB:ByteArray:=⟨#[123]⟩
def k6:ByteArray:=⟨#[125]⟩
def jb:ByteArray:=⟨#[59]⟩
def mc:ByteArray:=⟨#[105,102]⟩
def bO:ByteArray:=⟨#[119,104,105,108,101]⟩
def iN:ByteArray:=⟨#[101,108,115,101]⟩
def eg(k n:Nat)(l:List Nd):List Nd:=l.modify k (λx=>{ x with ot:=n })
def gR(k n:Nat)(l:List Nd):List Nd:=l.modify k (λx=>{ x with nx:=n })
def iL:Nd:=⟨10,0,0,0,0,0⟩
def rJ(ws:List ByteArray)(s:PS):PS:=cg (kM ws s) (aF ws jb (iu ws s))
def cI(blk:PS->PS)(ws:List ByteArray)(s:PS):PS:=blk (gz ws (aF ws mc s))
def lP(t:Nat)(s:PS):PS:={ cg iL s.adv with nodes:=eg t (cg iL s.adv).nodes.length (cg iL s.adv).nodes }
def Nn(j:Nat)(s:PS):PS:={ s with nodes:=gR j s.nodes.length s.nodes }
def pN(blk:PS->PS)(ws:List ByteArray)(s:PS):PS :=
 if bK ws iN (cI blk ws s) then Nn (cI blk ws s).nodes.length (blk (lP s.nodes.length (cI blk ws s)))
 else { cI blk ws s with nodes:=eg s.nodes.length (cI blk ws s).nodes.length (cI blk ws s).nodes }
def ny(blk:PS->PS)(ws:List ByteArray)(s:PS):PS:=blk (gz ws (aF ws bO s))
def xV(blk:PS->PS)(ws:List ByteArray)(s:PS):PS :=
 { cg iL (ny blk ws s) with nodes:=eg s.nodes.length (cg iL (ny blk ws s)).nodes.length (gR (ny blk ws s).nodes.length s.nodes.length (cg iL (ny blk ws s)).nodes) }
def kw(blk:PS->PS)(ws:List ByteArray)(s:PS):PS:=if bK ws mc s then pN blk ws s else if bK ws bO s then xV blk ws s else rJ ws s
def jg(c:PS->PS)(ws:List ByteArray):Nat->PS->PS
 |0,s=>s
 |n+1,s=>if s.failed||bK ws k6 s then s else jg c ws n (c s)
def cL(ws:List ByteArray):Nat->PS->PS
 |0,s=>s
 |f+1,s=>aF ws k6 (jg (kw (cL ws f) ws) ws (ws.length+2) (aF ws mB s))
theorem bR(k n:Nat)(l:List Nd):(eg k n l).length=l.length:=by simp[eg]
theorem du(k n:Nat)(l:List Nd):(gR k n l).length=l.length:=by simp[gR]
def fb(s:PS):Nat:=if s.failed then 1 else 0
section
variable {ws:List ByteArray} {s:PS}
theorem vn(k:ByteArray)(hk:k.size≠0)(h:s.failed=true):bK ws k s=false:=by
 cases hb:bK ws k s with
 |false=>rfl
 |true=>have:=(zA (ws:=ws) (s:=s) (by rw[jh hb];exact hk)).1;rw[h]at this;cases this
theorem jH(k:ByteArray)(h:(aF ws k s).failed=false):bK ws k s=true/\s.failed=false/\(aF ws k s).pos=s.pos+1:=by
 unfold aF at *;split at h
 .rename_i hb;rw[if_pos hb];exact⟨hb,h,rfl⟩
 .cases h
theorem Km(k:ByteArray)(hk:k.size≠0)(h:s.failed=true):(aF ws k s).failed=true:=by
 unfold aF;rw[vn k hk h];rfl
theorem qi(h:(bD ws s).failed=false):aK (pk ws s)=true/\s.failed=false/\(bD ws s).pos=s.pos+1:=by
 unfold bD at *;split at h
 .rename_i hb;rw[if_pos hb];exact⟨hb,h,rfl⟩
 .cases h
theorem uQ(h:(b9 ws s).failed=false):s.failed=false/\(b9 ws s).pos=s.pos+1:=by
 unfold b9 at *;split at h
 .rename_i hb;rw[if_pos hb];exact⟨h,rfl⟩
 .rename_i hb;rw[if_neg hb];exact(qi h).2
theorem Y8(h:(tE ws s).failed=false):s.failed=false:=by
 unfold tE at h;split at h
 .exact h
 .have h1:=(uQ h).1;unfold yT at h1;split at h1
  .exact(qi h1).2.1
  .exact(qi (jH _ h1).2.1).2.1
theorem RF(h:(gz ws s).failed=false):s.failed=false:=(jH _ (Y8 (jH _ h).2.1)).2.1
theorem YV(h:(oP ws s).failed=false):s.failed=false:=by
 unfold oP at h;split at h
 .exact h
 .split at h
  .exact(uQ (jH _ h).2.1).1
  .exact(uQ h).1
theorem abT(h:(iu ws s).failed=false):s.failed=false/\s.pos<(iu ws s).pos:=by
 unfold iu at *;split at h
 .rename_i hb;rw[if_pos hb];exact⟨h,Nat.lt_succ_self _⟩
 .rename_i hb;rw[if_neg hb];split at h
  .rename_i aW;rw[if_pos aW];exact⟨(qi h).2.1,by rw[(qi h).2.2];show s.pos<s.pos+1+1;omega⟩
  .rename_i aW;rw[if_neg aW];split at h
   .rename_i dx;rw[if_pos dx];have h1:=uQ h;unfold zK at h1;have h2:=(qi (jH _ (jH _ h1.1).2.1).2.1).2;refine⟨h2.1,?_⟩;have e1:=iR (ws:=ws) (s:=zK ws (bD ws s));have e2:(bD ws s).adv.pos<=(zK ws (bD ws s)).pos:=zq3 (cn kN) (cn gT);have e3:=di (s:=bD ws s);omega
   .rename_i dx;rw[if_neg dx];have h1:=jH _ (YV h);have h2:=(qi h1.2.1).2;refine⟨h2.1,?_⟩;have e1:(aF ws gT (bD ws s)).pos<=(oP ws (aF ws gT (bD ws s))).pos:=by
     unfold oP;split
     .exact di
     .split
      .exact zq3 (zq3 iR di) (cn _)
      .exact iR
    omega
theorem TG:s.pos<=(tE ws s).pos:=by
 unfold tE;split
 .exact di
 .refine zq3 (zq3 (rA (ws:=ws)) ?_) iR;unfold yT;split
  .exact di
  .exact cn _
theorem uN:s.pos<=(gz ws s).pos:=zq3 (zq3 (cn gj) TG) (cn iU)
theorem oJ:(gz ws s).nodes.length=s.nodes.length+1:=by
 unfold gz cg;simp[sM]
theorem VZ:s.pos<=(iu ws s).pos:=by
 unfold iu;split
 .exact di
 .split
  .exact zq3 di rA
  .split
   .exact zq3 (zq3 (zq3 (zq3 rA di) (cn kN)) (cn gT)) iR
   .refine zq3 (zq3 (rA (ws:=ws)) (cn (ws:=ws) gT)) ?_;unfold oP;split
    .exact di
    .split
     .exact zq3 (zq3 iR di) (cn _)
     .exact iR
structure ME(blk:PS->PS):Prop where
 pos:∀s,s.pos<=(blk s).pos
 nodes:∀s,s.nodes.length<=(blk s).nodes.length
 ok:∀s,(blk s).failed=false->s.failed=false
 phi:∀s,(blk s).nodes.length+2*s.pos<=s.nodes.length+2*(blk s).pos+fb (blk s)
theorem yX(s:PS):fb s<=1:=by unfold fb;split <;> omega
theorem yY{s:PS}(h:s.failed=false):fb s=0:=by unfold fb;rw[h];rfl
theorem Fq{s:PS}(h:s.failed=true):fb s=1:=by unfold fb;rw[h];rfl
theorem jE{blk:PS->PS}(g:ME blk):s.pos<=(kw blk ws s).pos/\s.nodes.length<=(kw blk ws s).nodes.length /\
  ((kw blk ws s).failed=false->s.failed=false/\s.pos<(kw blk ws s).pos)/\(kw blk ws s).nodes.length+2*s.pos<=s.nodes.length+2*(kw blk ws s).pos+fb (kw blk ws s):=by
 unfold kw;split
 .rename_i hb;have e1:(aF ws mc s)=s.adv:=if_pos hb;have a1:s.adv.pos=s.pos+1:=rfl;have a2:=uN (ws:=ws) (s:=s.adv);have a3:=oJ (ws:=ws) (s:=s.adv);have a4:s.adv.nodes=s.nodes:=rfl;rw[a4]at a3;have eA:cI blk ws s=blk (gz ws s.adv):=by unfold cI;rw[e1]
  have p1:=g.pos (gz ws s.adv);have p2:=g.nodes (gz ws s.adv);have p3:=g.ok (gz ws s.adv);have p4:=g.phi (gz ws s.adv);rw[<-eA]at p1 p2 p3 p4;have ok1:(cI blk ws s).failed=false->s.failed=false:=λh=>RF (s:=s.adv) (p3 h);unfold pN;split
  .rename_i aW;have okA:(cI blk ws s).failed=false:=(zA (by rw[jh aW];decide)).1;have f0:=yY okA;have b1:(lP s.nodes.length (cI blk ws s)).pos=(cI blk ws s).pos+1:=rfl;have b2:(lP s.nodes.length (cI blk ws s)).nodes.length=(cI blk ws s).nodes.length+1:=(by simp[lP,bR,cg,PS.adv]);have q1:=g.pos (lP s.nodes.length (cI blk ws s));have q2:=g.nodes (lP s.nodes.length (cI blk ws s));have q4:=g.phi (lP s.nodes.length (cI blk ws s));generalize blk (lP s.nodes.length (cI blk ws s))=z at q1 q2 q4;have c1:(Nn (cI blk ws s).nodes.length z).pos=z.pos:=rfl;have c2:(Nn (cI blk ws s).nodes.length z).nodes.length=z.nodes.length:=(by simp[Nn,du]);have c3:fb (Nn (cI blk ws s).nodes.length z)=fb z:=rfl;rw[c1,c2,c3];exact⟨by omega,by omega,λ_=>⟨ok1 okA,by omega⟩,by omega⟩
  .simp only[bR];have c3:fb { cI blk ws s with nodes:=eg s.nodes.length (cI blk ws s).nodes.length (cI blk ws s).nodes }=fb (cI blk ws s):=rfl;rw[c3];have:=yX (cI blk ws s);exact⟨by omega,by omega,λh=>⟨ok1 h,by omega⟩,by omega⟩
 .split
  .rename_i _ hb;have e1:(aF ws bO s)=s.adv:=if_pos hb;have a1:s.adv.pos=s.pos+1:=rfl;have a2:=uN (ws:=ws) (s:=s.adv);have a3:=oJ (ws:=ws) (s:=s.adv);have a4:s.adv.nodes=s.nodes:=rfl;rw[a4]at a3;have eA:ny blk ws s=blk (gz ws s.adv):=(by unfold ny;rw[e1]);have p1:=g.pos (gz ws s.adv);have p2:=g.nodes (gz ws s.adv);have p3:=g.ok (gz ws s.adv);have p4:=g.phi (gz ws s.adv);rw[<-eA]at p1 p2 p3 p4;have ok1:(ny blk ws s).failed=false->s.failed=false:=λh=>RF (s:=s.adv) (p3 h);have c1:(xV blk ws s).pos=(ny blk ws s).pos:=rfl;have c2:(xV blk ws s).nodes.length=(ny blk ws s).nodes.length+1:=(by simp[xV,bR,du,cg]);have c3:fb (xV blk ws s)=fb (ny blk ws s):=rfl;have c4:(xV blk ws s).failed=(ny blk ws s).failed:=rfl;rw[c1,c2,c3,c4];exact⟨by omega,by omega,λh=>⟨ok1 h,by omega⟩,by omega⟩
  .have a1:=VZ (ws:=ws) (s:=s);have a2:=cn (ws:=ws) (s:=iu ws s) jb;have c1:(rJ ws s).pos=(aF ws jb (iu ws s)).pos:=rfl;have c2:(rJ ws s).nodes.length=s.nodes.length+1:=(by simp[rJ,cg,bn,zL]);have c4:(rJ ws s).failed=(aF ws jb (iu ws s)).failed:=rfl;cases hf:(rJ ws s).failed with
   |true =>
    rw[c1,c2,Fq hf];exact⟨by omega,by omega,(λh=>absurd h (by simp)),by omega⟩
   |false =>
    rw[c4]at hf;have h1:=jH _ hf;have h2:=abT h1.2.1;rw[c1,c2];exact⟨by omega,by omega,λ_=>⟨h2.1,by omega⟩,by omega⟩
theorem Nz{c:PS->PS}(hc:∀s,s.pos<=(c s).pos/\s.nodes.length<=(c s).nodes.length/\((c s).failed=false->s.failed=false)/\(c s).nodes.length+2*s.pos<=s.nodes.length+2*(c s).pos+fb (c s))(n:Nat):
  ∀s,s.pos<=(jg c ws n s).pos/\s.nodes.length<=(jg c ws n s).nodes.length/\((jg c ws n s).failed=false->s.failed=false)/\(jg c ws n s).nodes.length+2*s.pos<=s.nodes.length+2*(jg c ws n s).pos+fb (jg c ws n s):=by
 induction n with
 |zero=>intro s;exact⟨zq4 _,zq4 _,id,by simp only[jg];omega⟩
 |succ n ih =>
  intro s;simp only[jg];split
  .exact⟨zq4 _,zq4 _,id,by omega⟩
  .obtain⟨a,b,d,e⟩:=ih (c s);obtain⟨a',b',d',e'⟩:=hc s;refine⟨by omega,by omega,λh=>d' (d h),?_⟩;cases hf:(c s).failed with
   |false=>rw[yY hf]at e';omega
   |true =>
    have:fb (jg c ws n (c s))=1:=by
     cases hg:(jg c ws n (c s)).failed with
     |true=>exact Fq hg
     |false=>rw[d hg]at hf;cases hf
    have hn:jg c ws n (c s)=c s:=by
     cases n with
     |zero=>rfl
     |succ n=>simp[jg,hf]
    rw[hn]at e ⊢;omega
theorem jC(f:Nat):ME (cL ws f):=by
 induction f with
 |zero=>exact⟨λ_=>zq4 _,λ_=>zq4 _,λ_=>id,λ_=>by simp only[cL];omega⟩
 |succ f ih =>
  have hc:=λn s=>Nz (ws:=ws) (c:=kw (cL ws f) ws) (λs=>⟨(jE ih).1,(jE ih).2.1,λh=>((jE ih).2.2.1 h).1,(jE ih).2.2.2⟩) n s;refine⟨λs=>?_,λs=>?_,λs h=>?_,λs=>?_⟩
  .exact zq3 (zq3 (cn mB) (hc _ _).1) (cn k6)
  .simp only[cL,bn];have:=(hc (ws.length+2) (aF ws mB s)).2.1;rw[bn]at this;exact this
  .exact(jH _ ((hc _ _).2.2.1 (jH _ h).2.1)).2.1
  .simp only[cL,bn];have h1:=(hc (ws.length+2) (aF ws mB s)).2.2.2;have h2:=cn (ws:=ws) (s:=s) mB;rw[bn]at h1;generalize jg (kw (cL ws f) ws) ws (ws.length+2) (aF ws mB s)=z at h1 ⊢;have h3:=cn (ws:=ws) (s:=z) k6;cases hf:z.failed with
   |false=>rw[yY hf]at h1;omega
   |true =>
    have h4:fb (aF ws k6 z)=1:=Fq (Km k6 (by decide) hf);have h5:=yX z;omega
end
