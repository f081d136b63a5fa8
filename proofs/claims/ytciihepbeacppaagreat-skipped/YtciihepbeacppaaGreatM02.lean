import Derived.Test.YtciihepbeacppaaGreatM01
set_option maxRecDepth 100000
set_option maxHeartbeats 0
namespace Go.Proofs.YtciihepbeacppaaGreat
open Tryz Go.RowKit List World Below
set_option linter.unusedVariables false
section
variable {P:Program} (w:World)
theorem aS {ops:Array Oper} {rest:List Oper} {o:Oper} {a:Act} {Q:Exit->Act->World->Prop}
  (hg:o.guard=none) (s x:Operand) (t:TypeId) (pw:o.op=Op.call { callee:=Callee.builtin Builtin.append,args:=#[s,x],argTypes:=#[t,t] })
  (base:Nat) (e:TypeId) (i:TypeInfo) (z:Value) (size bytes:Nat) (ht:P.underlying t=some (.slice e)) (hi:P.info? e=some i) (hz:i.zero=some z)
  (jS:i.size=size) (FK:i.bytes=bytes) (Lg:z.cells.size=size) (mP:0<size)
  (v:Value) (n:Nat) (xs:List Value) (hs:a.eval s=v) (aL:w.ownsRow base e size v n xs)
  (ad:Addr) (c:Nat) (news:List Value) (hx:a.eval x=.slice (some ad) 1 c) (hl:news.length=size) (iI:∀j u,news[j]?=some u->w.cell? (ad.add j)=some u) (h1:∀u∈news,u.oneCell'=true)
  (KA:n+1<=1000000) (hb:bytes<=1000) (gJ:base<=w.heap.size)
  (hK:∀g cap w',w'.ownsRow base e size (.slice (some ⟨g,0,none⟩) (n+1) cap) (n+1) (xs++news)->w.grownBy w' v.ownBlock->(some g=v.ownBlock\/g=w.heap.size)->wpList P ops Q rest (a.put o.dst (.slice (some ⟨g,0,none⟩) (n+1) cap)) w') :
  wpList P ops Q (o::rest) a w:=by
 refine wpList_plain hg λK hK'=>?_;obtain⟨v',w',Gb,r1,r2,r3,g,cap,rfl⟩:=D5 (P:=P) w base t o.type e i z size bytes ht hi hz jS FK Lg mP v n xs aL ad c news hl iI h1 KA hb gJ;unfold Oper.wp;simp[execOp,pw,resolve,invoke,builtin,hs,hx,Gb,Result.andThen];exact hK' _ _ (hK g cap w' r1 r2 (by simpa[Value.ownBlock] using r3))
end
theorem aN(w:World)(b:Nat)(hb:b=w.heap.size)(xs:List Value)(T:TypeId):∀(j:Nat) (u:Value),xs[j]?=some u->(w.alloc (.cells xs.toArray T)).cell? ((⟨b,0,none⟩:Addr).add j)=some u:=by
 intro j u hj;subst hb;rw[show(⟨w.heap.size,0,none⟩:Addr).add j=⟨w.heap.size,j,none⟩ by unfold Addr.add;split <;> simp_all];rw[cell?_alloc_mark];simpa using hj
theorem cj.one(a:cj):∀u∈a.cells,u.oneCell'=true:=by
 intro u hu;simp[cj.cells]at hu;rcases hu with rfl|rfl|rfl|rfl|rfl <;> rfl
theorem Ag(l:List cj)(a:cj):bO (l++[a])=bO l++a.cells:=by simp[bO]
theorem infoAtom:(prog.info? 239).map (λi=>(i.zero,i.size,i.bytes))=some (some (.agg #[.int .i64 0,.int .i64 0,.int .i64 0,.int .i64 0,.int .i64 0]),5,40):=by kernel_rfl
theorem VB(w:World)(b B:Nat)(hb:b=w.heap.size)(hB:B<=w.heap.size)(T:TypeId)(sz:Nat)(xs:List Value)(hx:xs.length=sz):(w.alloc (.cells xs.toArray T)).ownsRow B T sz (.slice (some ⟨b,0,none⟩) 1 1) 1 xs:=by
 subst hb;subst hx;exact⟨by simp,.inr ⟨w.heap.size,1,xs.toArray,rfl,hB,heap_alloc_new w _,zq4 _,by decide,by simp,by simp⟩⟩
section
variable {B:Nat} {WV:Value} {w:World} {P:Nat} {ws:List ByteArray} {s:PS} {F:List Nat} {wv vv hv nv:Value}
theorem uM{w w':World}{B:Nat}{e:TypeId}{sz n:Nat}{v:Value}{xs:List Value}{F F':List Nat}(h:w.ownsRow B e sz v n xs)(hS:ar F w F' w')(ho:∀k,v.ownBlock=some k->k ∉ F):w'.ownsRow B e sz v n xs :=
 ae h (λk hk=>hS.block k (h.lt k hk).2 (ho k hk))
theorem LM{w:World}{B:Nat}{e:TypeId}{sz n:Nat}{v:Value}{xs:List Value}(h:w.ownsRow B e sz v n xs)(o o':Obj):((w.alloc o).alloc o').ownsRow B e sz v n xs:=(h.alloc o).alloc o'
theorem Kv {wr w3 w4:World} {F2 F3:List Nat} {st':PS} {v:Value} {al:List cj} {o o':Obj} {g n cap:Nat} (hS:ar F w F2 wr) (aL:wr.ownsRow w.heap.size 239 5 v al.length (bO al)) (FX:∀k,v.ownBlock=some k->k ∉ F2)
  (fT:fj B WV w3 P ws st' F3) (cS:ar F2 wr F3 w3) (hg:((w3.alloc o).alloc o').grownBy w4 v.ownBlock) (hb:some g=v.ownBlock\/g=w3.heap.size+1+1) :
  fj B WV w4 P ws st' F3/\ar F w F3 w4/\∀k,(Value.slice (some ⟨g,0,none⟩) n cap).ownBlock=some k->k ∉ F3:=by
 have K6:∀k,v.ownBlock=some k->k ∉ F3:=by
  intro k hk hm;rcases cS.foot k hm with h|h
  .exact FX k hk h
  .have:=(aL.lt k hk).2;omega
 have akR:=((hS.trans cS).alloc o).alloc o';refine⟨⟨((fT.m.alloc o).alloc o').of_eq (λk hk=>hg.block k (by have:=(fT.m.mem k hk).2;simp;omega) (λe=>K6 k e.symm hk)),fT.f⟩,akR.grown hg (λk hk=>zq1 (aL.lt k hk).1),?_⟩;intro k hk hm;simp[Value.ownBlock]at hk;subst hk;rcases hb with hb|hb
 .exact K6 g hb.symm hm
 .have:=(fT.m.mem g hm).2;omega
theorem Oy(n:Nat)(h:bL ws dE s=false):jl ws n s=([],s):=by
 cases n with
 |zero=>rfl
 |succ n=>simp[jl,h]
theorem Zx(n:Nat)(h:bL ws dE s=true):jl ws (n+1) s=(qw ws s.adv::(jl ws n (eJ ws s.adv)).1,(jl ws n (eJ ws s.adv)).2):=by simp[jl,h]
theorem CY(h:fj B WV w P ws s F):
  Calls prog 121 #[.pointer (some ⟨P,0,none⟩)] w λe w'=>∃v F',e=.returned v/\fj B WV w' P ws (rH ws s) F'/\ar F w F' w' /\
   w'.ownsRow w.heap.size 239 5 v (foA ws s).length (bO (foA ws s))/\(∀k,v.ownBlock=some k->k ∉ F'):=by
 obtain⟨i0,hi,gY,gz,gL⟩:=info_parts infoAtom;have HQ:=ab h;obtain⟨hl,_,_,_⟩:=h.f;clear h;go_enter func121,ntmps121;go_wp2_with fail
 refine(CJ (uh HQ)).mono ?_;rintro e w1 ⟨rfl,F1,dW,bU⟩;have fH:=ab dW;have cI:=ab bU;clear dW bU;obtain⟨A0,Ck⟩:∃A0,A0=qw ws s:=⟨_,rfl⟩;have HA0:=ab Ck;rw[<-Ck];clear Ck;obtain⟨k0,k1,k2,k3,k4⟩:=A0;simp only[cj.cells];go_wp2_with fail
 go_loopg [4] (ws.length+1) (λm v wr=>∃(st:PS) (al:List cj) (F2:List Nat),fj B WV wr P ws st F2/\ar F w F2 wr/\wr.ownsRow w.heap.size 239 5 v al.length (bO al)/\(∀k,v.ownBlock=some k->k ∉ F2)/\al.length<=st.pos+1 /\
  Hid (ws.length<m+st.pos/\foA ws s=al++(jl ws m st).1/\rH ws s=(jl ws m st).2))
 case atStart =>
  refine⟨eJ ws s,[⟨k0,k1,k2,k3,k4⟩],F1,((uh fH).alloc _).alloc _,((uh cI).alloc _).alloc _,?_,?_,by simp,?_⟩
  .have al8:=(uh cI).size;exact iR (VB (w1.alloc _) (w1.heap.size+1) w.heap.size (by simp) (by simp;omega) _ 5 [.int .i64 k0,.int .i64 k1,.int .i64 k2,.int .i64 k3,.int .i64 k4] rfl) rfl (by simp[bO,cj.cells])
  .intro k hk hm;simp[Value.ownBlock]at hk;have:=((uh fH).m.mem k hm).2;omega
  .exact⟨by omega,by rw[foA,<-uh HA0];rfl,rfl⟩
 case round =>
  obtain⟨st,al,F2,hI,hS,aL,FX,dO,af2⟩:=hrel;obtain⟨_,aav,_,_⟩:=hI.f;have HI:=ab hI;have HS:=ab hS;have Th:=ab aL;have Tg:=ab FX;have HA:=aA dE (by decide) hI;clear hI hS aL FX;cases hb:bL ws dE st with
  |false =>
   have sR:Hid (lW ws dE st=st):=ab (if_neg (by simp[hb]));rw[hb,uh sR]at HA;replace HA:=ab HA
   have HB:=ab hb;clear hb;go_wp2_with fail
   refine(uh HA).mono ?_;rintro e w2 ⟨rfl,ce,bZ⟩;have ep:=ab ce;have dh:=ab bZ;clear ce bZ;go_wp2_with fail
   go_ret;obtain⟨_,Xx,qq⟩:=uh af2;rw[Oy _ (uh HB)]at Xx qq;refine⟨_,F2,rfl,by rw[qq];exact uh ep,(uh HS).trans (uh dh),?_,uh Tg⟩;rw[Xx,append_nil];exact ae (uh Th) (λk hk=>(uh dh).block k ((uh Th).lt k hk).2 (uh Tg k hk))
  |true =>
   have sR:Hid (lW ws dE st=st.adv):=ab (if_pos hb);rw[hb,uh sR]at HA;replace HA:=ab HA
   have HB:=ab hb;have ar4:st.pos<ws.length:=M0 (by decide) hb;clear hb;go_wp2_with fail
   refine(uh HA).mono ?_;rintro e w2 ⟨rfl,ce,bZ⟩;have ep:=ab ce;have dh:=ab bZ;clear ce bZ;go_wp2_with fail
   refine(CJ (uh ep)).mono ?_;rintro e w3 ⟨rfl,F3,fT,cS⟩;have ja:=ab fT;have iV:=ab ((uh dh).trans cS);clear fT cS;obtain⟨A1,hA1⟩:∃A1,A1=qw ws st.adv:=⟨_,rfl⟩;have mq:=ab hA1;rw[<-hA1];clear hA1;obtain⟨j0,j1,j2,j3,j4⟩:=A1;simp only[cj.cells];go_wp2_with (at_builtin;refine aS _ rfl (.tmp 14) (.tmp 16) 102 rfl w.heap.size 239 i0 _ 5 40 underlying102 hi gY gz gL rfl (by decide) _ al.length (bO al) rfl (LM (uM (uh Th) (uh iV) (uh Tg)) _ _) ⟨_,0,none⟩ 1 [.int .i64 j0,.int .i64 j1,.int .i64 j2,.int .i64 j3,.int .i64 j4] rfl rfl ?c1 ?c2 ?c3 ?c4 ?c5 ?_)
   case c1=>exact aN (w3.alloc _) _ (by simp) [.int .i64 j0,.int .i64 j1,.int .i64 j2,.int .i64 j3,.int .i64 j4] _
   case c2=>exact cj.one ⟨j0,j1,j2,j3,j4⟩
   case c3=>omega
   case c4=>omega
   case c5=>have:=(uh HS).size;have:=(uh iV).size;simp;omega
   intro g cap w4 iL ew jM;have R:=Kv (n:=al.length+1) (cap:=cap) (uh HS) (uh Th) (uh Tg) (uh ja) (uh iV) ew jM;have HR:=ab R;have HO4:=ab iL;clear R iL ew jM;go_wp2_with fail
   obtain⟨hfm,Xx,qq⟩:=uh af2;obtain⟨m,rfl⟩:∃m,gk=m+1:=⟨gk-1,by omega⟩;rw[Zx _ (uh HB),<-uh mq]at Xx qq;go_roundg m
   case measure=>omega
   case rel =>
    have Mv:=Tx (ws:=ws) (s:=st.adv);have UK:st.adv.pos=st.pos+1:=rfl;refine⟨eJ ws st.adv,al++[⟨j0,j1,j2,j3,j4⟩],F3,(uh HR).1,(uh HR).2.1,?_,(uh HR).2.2,by simp;omega,⟨by omega,?_,qq⟩⟩
    .exact iR (uh HO4) (by simp) (by rw[Ag];rfl)
    .rw[Xx];simp
end
def ci(nd:Nd)(s:PS):PS:={ s with nodes:=s.nodes++[{ nd with nx:=s.nodes.length+1 }] }
theorem bD{w:World}{B:Nat}{e:TypeId}{sz n:Nat}{v:Value}{xs:List Value}(h:w.ownsRow B e sz v n xs):∃ao cap,v=.slice ao n cap:=by
 rcases h.2 with⟨rfl,rfl⟩|⟨g,cap,cur,rfl,_⟩ <;> exact⟨_,_,rfl⟩
theorem Nd.one(a:Nd):∀u∈a.cells,u.oneCell'=true:=by
 intro u hu;simp[Nd.cells]at hu;rcases hu with rfl|rfl|rfl|rfl|rfl|rfl <;> rfl
theorem gG{w:World}{r:Nat}{a b c d e f:Value}{t:TypeId}(h:w.heap[r]?=some (.cells #[a,b,c,d,e,f] t (0,0))):
  (w.cell? ⟨r,0,none⟩=some a/\w.cell? ⟨r,1,none⟩=some b/\w.cell? ⟨r,2,none⟩=some c/\w.cell? ⟨r,3,none⟩=some d/\w.cell? ⟨r,4,none⟩=some e/\w.cell? ⟨r,5,none⟩=some f) /\
  w.frozen? ⟨r,0,none⟩=false/\w.frozen? ⟨r,1,none⟩=false/\w.frozen? ⟨r,2,none⟩=false/\w.frozen? ⟨r,3,none⟩=false/\w.frozen? ⟨r,4,none⟩=false/\w.frozen? ⟨r,5,none⟩=false :=
 ⟨(jF h).1,(jF h).2 0,(jF h).2 1,(jF h).2 2,(jF h).2 3,(jF h).2 4,(jF h).2 5⟩
section
variable {B:Nat} {WV:Value} {w:World} {P:Nat} {ws:List ByteArray} {s:PS} {F:List Nat} {wv vv hv nv:Value}
theorem t0(nd:Nd)(h:fj B WV w P ws s F)(hn:s.nodes.length<=100000):
  Calls prog 123 #[.pointer (some ⟨P,0,none⟩),.agg nd.cells.toArray] w λe w'=>e=.returned (.int .i64 s.nodes.length)/\∃F',fj B WV w' P ws (ci nd s) F'/\ar F w F' w':=by
 obtain⟨i0,hi,gY,gz,gL⟩:=info_parts infoNode;have HQ:=ab h;obtain⟨n0,n1,n2,n3,n4,n5⟩:=nd;obtain⟨w0,mB⟩:∃w0,w0=w.alloc (.cells #[.int .i64 n0,.int .i64 n1,.int .i64 n2,.int .i64 n3,.int .i64 ((s.nodes.length:Int)+1),.int .i64 n5] 186):=⟨_,rfl⟩;have h0:fj B WV w0 P ws s F:=by rw[mB];exact h.alloc _
 have sR:Hid (ar F w F w0):=ab (by rw[mB];exact(ar.refl F w).alloc _);have hr0:w0.heap[w.heap.size]?=some (.cells #[.int .i64 n0,.int .i64 n1,.int .i64 n2,.int .i64 n3,.int .i64 ((s.nodes.length:Int)+1),.int .i64 n5] 186 (0,0)):=by rw[mB];exact heap_alloc_new w _
 have YF:=ab mB;have px:w.heap.size<w0.heap.size:=by rw[mB];simp
 have HN0:Hid (w.heap.size ∉ F):=ab (λhm=>by have:=(h.m.mem _ hm).2;omega);clear mB;obtain⟨wv,vv,hv,nv,ez⟩:=h.m.named;obtain⟨_,_,_,_,c5,fz⟩:=ez.readsV;obtain⟨ao,cap,rfl⟩:=bD ez.2.2.2.2.2.1;have hPw:P<w.heap.size:=(h.m.mem P h.m.memP).2;have f5:=fz 5;clear h h0 fz;simp only[Nd.cells];go_enter func123,ntmps123;go_wp2_with fail
 rw[<-uh YF];have FY:dI B WV w0 P ws s F wv vv hv (.slice ao s.nodes.length cap):=by rw[uh YF];exact ez.alloc _
 clear c5 f5;obtain⟨_,_,_,_,c5,fz⟩:=FY.readsV;have f5:=fz 5;obtain⟨⟨q0,q1,q2,q3,q4,q5⟩,_⟩:=gG hr0;have ve:=ab hr0;have zl:P<w0.heap.size:=by omega
 have Ui:B<=w0.heap.size:=by have:=(FY.is.mem P FY.is.memP).1;omega
 have Eq:Hid ((Value.slice ao s.nodes.length cap).ownBlock≠some P):=ab (λe=>FY.apart.1 P (by simp[e]) rfl);have kj:=ab FY.2.2.2.2.2.1;have m6:∀(b j k:Nat) (o:Obj) (v:Value),b<w0.heap.size->w0.cell? ⟨b,j,none⟩=some v->((w0.drewN k).alloc o).cell? ⟨b,j,none⟩=some v:=λb j k o v hb hv=>(cell?_of_block (a:=⟨b,j,none⟩) (heap_alloc (w0.drewN k) o b hb)).trans hv;have c5a:=λk o=>m6 P 5 k o _ zl c5;have q0a:=λk o=>m6 _ 0 k o _ px q0;have q1a:=λk o=>m6 _ 1 k o _ px q1;have q2a:=λk o=>m6 _ 2 k o _ px q2;have q3a:=λk o=>m6 _ 3 k o _ px q3;have q4a:=λk o=>m6 _ 4 k o _ px q4;have q5a:=λk o=>m6 _ 5 k o _ px q5;have HV0:=ab FY;clear m6 fz FY hr0 ez;go_region_law (refine jA _ rfl (.tmp 18) (.tmp 20) 103 rfl B 186 i0 _ 6 48 underlying103 hi gY gz gL rfl (by decide) (.slice ao s.nodes.length cap) s.nodes.length (bi s.nodes) (by simp[Act.eval]) (sG (uh kj) _ _) ⟨w0.heap.size,0,none⟩ 1 [.int .i64 n0,.int .i64 n1,.int .i64 n2,.int .i64 n3,.int .i64 ((s.nodes.length:Int)+1),.int .i64 n5] (by simp[Act.eval]) rfl (aN (w0.drewN _) _ rfl _ _) (Nd.one ⟨n0,n1,n2,n3,s.nodes.length+1,n5⟩) (by omega) (by omega) (zw Ui _ _) ?_;intro g2 cap2 w2 bt aM dX;have c5':=iu aM zl (uh Eq) 5 c5;have f5':=fx aM zl (uh Eq) 5 f5;obtain⟨F',ZI,ZU⟩:=dI.pushNodes ⟨n0,n1,n2,n3,s.nodes.length+1,n5⟩ ((uh HV0).drewN _) aM bt dX;have xL:=ab ZI;have HS':=ab ZU;clear bt aM dX ZI ZU)
 all_goals
  go_wp2_with fail
  go_ret;exact⟨rfl,F',⟨uh xL,(uh HQ).f⟩,((uh sR).drewN _).trans (uh HS')⟩
end
def oY:ByteArray:=⟨#[110,101,119]⟩
def iO:ByteArray:=⟨#[46]⟩
def kN:ByteArray:=⟨#[110]⟩
def ie:ByteArray:=⟨#[115,107,105,112]⟩
def jc:ByteArray:=⟨#[102,114,101,101]⟩
def yW(ws:List ByteArray)(s:PS):PS:=if bL ws tt s then s.adv else aF ws gU s
def Ss(ws:List ByteArray)(s:PS):Nat:=if bL ws tt s then 9 else 8
def tI(ws:List ByteArray)(s:PS):PS:=if bL ws dE s then s.adv else cd ws (yW ws (bE ws s))
def Ce(ws:List ByteArray)(s:PS):Nd :=
 if bL ws dE s then ⟨7,0,0,0,0,0⟩ else ⟨Ss ws (bE ws s),mO ws s,dT ws (yW ws (bE ws s)),fh ws (yW ws (bE ws s)),0,0⟩
def MB(ws:List ByteArray)(s:PS):PS:=aF ws iW (tI ws (aF ws gl s))
def gB(ws:List ByteArray)(s:PS):PS:=ci (Ce ws (aF ws gl s)) (MB ws s)
def Eu(ws:List ByteArray)(s:PS):Bool:=dT ws s==1&&bL ws iO (cd ws s)
def oQ(ws:List ByteArray)(s:PS):PS:=if bL ws oY s then s.adv else if Eu ws s then aF ws kN (cd ws s).adv else cd ws s
def xO(ws:List ByteArray)(v:Nat)(s:PS):Nd:=if bL ws oY s then ⟨4,v,0,0,0,0⟩ else if Eu ws s then ⟨2,v,dT ws s,fh ws s,0,0⟩ else ⟨1,v,dT ws s,fh ws s,0,0⟩
def zN(ws:List ByteArray)(s:PS):PS:=aF ws gU (aF ws kN s.adv)
def ix(ws:List ByteArray)(s:PS):PS :=
 if bL ws ie s then s.adv else if bL ws jc s then bE ws s.adv else if bL ws iO (bE ws s) then cd ws (zN ws (bE ws s)) else oQ ws (aF ws gU (bE ws s))
def kP(ws:List ByteArray)(s:PS):Nd :=
 if bL ws ie s then ⟨6,0,0,0,0,0⟩ else if bL ws jc s then ⟨5,mO ws s.adv,0,0,0,0⟩ else
 if bL ws iO (bE ws s) then ⟨3,mO ws s,dT ws (zN ws (bE ws s)),fh ws (zN ws (bE ws s)),0,0⟩ else xO ws (mO ws s) (aF ws gU (bE ws s))
section
variable {B:Nat} {WV:Value} {w:World} {P:Nat} {ws:List ByteArray} {s:PS} {F:List Nat}
theorem yg(h:fj B WV w P ws s F):
  Calls prog 247 #[.pointer (some ⟨P,0,none⟩)] w λe w'=>e=.returned (.agg (Ce ws s).cells.toArray)/\∃F',fj B WV w' P ws (tI ws s) F'/\ar F w F' w':=by
 have HQ:=ab h;clear h;cases hb:bL ws dE s with
 |true =>
  have HN:Hid (Ce ws s=⟨7,0,0,0,0,0⟩):=ab (if_pos hb);have HS:Hid (tI ws s=s.adv):=ab (if_pos hb);have HE:Hid (lW ws dE s=s.adv):=ab (if_pos hb);have HB:=ab hb;clear hb;go_enter func247,ntmps247;have mq:=λo=>ab (aA dE (by decide) ((uh HQ).alloc o));simp only[uh HB,uh HE]at mq;go_wp2_with fail
  refine(uh (mq _)).mono ?_;rintro e w1 ⟨rfl,dW,bU⟩;have mZ:=((ar.refl F w).alloc _).trans bU;obtain⟨fN,eM,yt⟩:=bH (uh HQ).m bU;have jg:=ab fN;have fH:=ab dW;have cI:=ab mZ;clear dW bU mZ fN;obtain⟨⟨qr0,qr1,qr2,qr3,qr4,qr5⟩,zr0,zr1,zr2,zr3,zr4,zr5⟩:=gG (uh jg);clear jg;go_wp2_with fail
  refine bodyPost_ret (v:=.agg #[.int .i64 7,.int .i64 0,.int .i64 0,.int .i64 0,.int .i64 0,.int .i64 0]) (by simp[results,Tryz.results247,go_sem,qr0,qr1,qr2,qr3,qr4,qr5]) rfl ⟨by rw[uh HN];rfl,F,?_,?_⟩
  .rw[uh HS];exact(((((((uh fH).setOther eM _).setOther eM _).setOther eM _).setOther eM _).setOther eM _).setOther eM _)
  .exact(((((((uh cI).setCell (zq1 (zq4 _)) _).setCell (zq1 (zq4 _)) _).setCell (zq1 (zq4 _)) _).setCell (zq1 (zq4 _)) _).setCell (zq1 (zq4 _)) _).setCell (zq1 (zq4 _)) _)
 |false =>
  have HE:Hid (lW ws dE s=s):=ab (if_neg (by simp[hb]));have HN:Hid (Ce ws s=⟨Ss ws (bE ws s),mO ws s,dT ws (yW ws (bE ws s)),fh ws (yW ws (bE ws s)),0,0⟩):=ab (if_neg (by simp[hb]));have HS:Hid (tI ws s=cd ws (yW ws (bE ws s))):=ab (if_neg (by simp[hb]));have HB:=ab hb;clear hb;cases aW:bL ws tt (bE ws s) with
  |true =>
   have HO:Hid (Ss ws (bE ws s)=9):=ab (if_pos aW);have HT:Hid (yW ws (bE ws s)=(bE ws s).adv):=ab (if_pos aW);have yG:Hid (lW ws tt (bE ws s)=(bE ws s).adv):=ab (if_pos aW);have eP:=ab aW;clear aW;rw[uh HO,uh HT]at HN;rw[uh HT]at HS;go_enter func247,ntmps247;have mq:=λo=>ab (aA dE (by decide) ((uh HQ).alloc o));simp only[uh HB,uh HE]at mq;go_wp2_with fail
   refine(uh (mq _)).mono ?_;rintro e w1 ⟨rfl,dW,bU⟩;have mZ:=((ar.refl F w).alloc _).trans bU;obtain⟨fN,eM,yt⟩:=bH (uh HQ).m bU;have jg:=ab fN;have fH:=ab dW;have cI:=ab mZ;clear dW bU mZ fN;go_wp2_with fail
   refine(fC (uh fH)).mono ?_;rintro e w2 ⟨rfl,F2,ce,bZ⟩;obtain⟨jN,lx,Dj⟩:=az (uh jg) eM bZ;have oM:=ab jN;have ep:=ab ce;have dh:=ab ((uh cI).trans bZ);clear ce bZ jN;have EW:=aA tt (by decide) (uh ep);rw[uh eP,uh yG]at EW;replace EW:=ab EW
   go_wp2_with fail
   refine(uh EW).mono ?_;rintro e w3 ⟨rfl,fT,cS⟩;obtain⟨lq,jR,K4⟩:=az (uh oM) lx cS;have pE:=ab lq;have ja:=ab fT;have iV:=ab ((uh dh).trans cS);clear fT cS lq;go_wp2_with fail
   refine(iy (uh ja)).mono ?_;rintro e w4 ⟨rfl,F4,mx,fE⟩;obtain⟨qH,mb,Pv⟩:=az (uh pE) jR fE;have uV:=ab qH;have oO:=ab mx;have mF:=ab ((uh iV).trans fE);clear mx fE qH;obtain⟨⟨qr0,qr1,qr2,qr3,qr4,qr5⟩,zr0,zr1,zr2,zr3,zr4,zr5⟩:=gG (uh uV);clear uV;go_wp2_with fail
   refine bodyPost_ret (v:=.agg #[.int .i64 9,.int .i64 (mO ws s),.int .i64 (dT ws (bE ws s).adv),.int .i64 (fh ws (bE ws s).adv),.int .i64 0,.int .i64 0]) (by simp[results,Tryz.results247,go_sem,cell?_alloc_past,Pv,qr0,qr1,qr2,qr3,qr4,qr5]) rfl ⟨by rw[uh HN];rfl,F4,?_,?_⟩
   .rw[uh HS];exact(((((((uh oO).setOther mb _).setOther mb _).setOther mb _).setOther mb _).setOther mb _).setOther mb _).alloc _
   .exact(((((((uh mF).setCell (zq1 (zq4 _)) _).setCell (zq1 (zq4 _)) _).setCell (zq1 (zq4 _)) _).setCell (zq1 (zq4 _)) _).setCell (zq1 (zq4 _)) _).setCell (zq1 (zq4 _)) _).alloc _
  |false =>
   have HO:Hid (Ss ws (bE ws s)=8):=ab (if_neg (by simp[aW]));have HT:Hid (yW ws (bE ws s)=aF ws gU (bE ws s)):=ab (if_neg (by simp[aW]));have yG:Hid (lW ws tt (bE ws s)=bE ws s):=ab (if_neg (by simp[aW]));have eP:=ab aW;clear aW;rw[uh HO,uh HT]at HN;rw[uh HT]at HS;go_enter func247,ntmps247;have mq:=λo=>ab (aA dE (by decide) ((uh HQ).alloc o));simp only[uh HB,uh HE]at mq;go_wp2_with fail
   refine(uh (mq _)).mono ?_;rintro e w1 ⟨rfl,dW,bU⟩;have mZ:=((ar.refl F w).alloc _).trans bU;obtain⟨fN,eM,yt⟩:=bH (uh HQ).m bU;have jg:=ab fN;have fH:=ab dW;have cI:=ab mZ;clear dW bU mZ fN;go_wp2_with fail
   refine(fC (uh fH)).mono ?_;rintro e w2 ⟨rfl,F2,ce,bZ⟩;obtain⟨jN,lx,Dj⟩:=az (uh jg) eM bZ;have oM:=ab jN;have ep:=ab ce;have dh:=ab ((uh cI).trans bZ);clear ce bZ jN;have EW:=aA tt (by decide) (uh ep);rw[uh eP,uh yG]at EW;replace EW:=ab EW
   go_wp2_with fail
   refine(uh EW).mono ?_;rintro e w3 ⟨rfl,fT,cS⟩;obtain⟨lq,jR,K4⟩:=az (uh oM) lx cS;have pE:=ab lq;have ja:=ab fT;have iV:=ab ((uh dh).trans cS);clear fT cS lq;go_wp2_with fail
   refine(aZ gU (by decide) (uh ja)).mono ?_;rintro e w4 ⟨rfl,mx,fE⟩;obtain⟨qH,mb,Pv⟩:=az (uh pE) jR fE;have uV:=ab qH;have oO:=ab mx;have mF:=ab ((uh iV).trans fE);clear mx fE qH;go_wp2_with fail
   refine(iy (uh oO)).mono ?_;rintro e w5 ⟨rfl,F5,sg,gh⟩;obtain⟨Dd,yu,aal⟩:=az (uh uV) mb gh;have J4:=ab Dd;have Hb:=ab sg;have tE:=ab ((uh mF).trans gh);clear sg gh Dd;obtain⟨⟨qr0,qr1,qr2,qr3,qr4,qr5⟩,zr0,zr1,zr2,zr3,zr4,zr5⟩:=gG (uh J4);clear J4;go_wp2_with fail
   refine bodyPost_ret (v:=.agg #[.int .i64 8,.int .i64 (mO ws s),.int .i64 (dT ws (aF ws gU (bE ws s))),.int .i64 (fh ws (aF ws gU (bE ws s))),.int .i64 0,.int .i64 0]) (by simp[results,Tryz.results247,go_sem,cell?_alloc_past,aal,qr0,qr1,qr2,qr3,qr4,qr5]) rfl ⟨by rw[uh HN];rfl,F5,?_,?_⟩
   .rw[uh HS];exact(((((((uh Hb).setOther yu _).setOther yu _).setOther yu _).setOther yu _).setOther yu _).setOther yu _).alloc _
   .exact(((((((uh tE).setCell (zq1 (zq4 _)) _).setCell (zq1 (zq4 _)) _).setCell (zq1 (zq4 _)) _).setCell (zq1 (zq4 _)) _).setCell (zq1 (zq4 _)) _).setCell (zq1 (zq4 _)) _).alloc _
end
section
variable {ws:List ByteArray} {s:PS}
theorem bp(k:ByteArray):(aF ws k s).nodes=s.nodes:=by unfold aF;split <;> rfl
theorem lM:(bE ws s).nodes=s.nodes:=by unfold bE;split <;> rfl
theorem kh:(cd ws s).nodes=s.nodes:=by unfold cd;split;rfl;exact lM
theorem oJ:(fK ws s).nodes=s.nodes:=by unfold fK;split;rfl;exact kh
theorem Km:(yW ws s).nodes=s.nodes:=by unfold yW;split;rfl;exact bp _
theorem Kl:(tI ws s).nodes=s.nodes:=by unfold tI;split;rfl;rw[kh,Km,lM]
theorem sP:(MB ws s).nodes=s.nodes:=by unfold MB;rw[bp,Kl,bp]
theorem Kh:(oQ ws s).nodes=s.nodes:=by unfold oQ;split;rfl;split;rw[bp];exact kh;exact kh
theorem zO:(ix ws s).nodes=s.nodes:=by
 unfold ix;split;rfl;split;rw[lM];rfl;split
 .rw[kh];unfold zN;rw[bp,bp];exact lM
 .rw[Kh,bp,lM]
end
section
variable {B:Nat} {WV:Value} {w:World} {P:Nat} {ws:List ByteArray} {s:PS} {F:List Nat}
theorem xC(hn:s.nodes.length<=100000)(h:fj B WV w P ws s F):
  Calls prog 214 #[.pointer (some ⟨P,0,none⟩)] w λe w'=>e=.returned (.int .i64 s.nodes.length)/\∃F',fj B WV w' P ws (gB ws s) F'/\ar F w F' w':=by
 have HQ:=ab h;clear h;go_enter func214,ntmps214;go_wp2_with fail
 refine(aZ gl (by decide) (uh HQ)).mono ?_;rintro e w1 ⟨rfl,dW,bU⟩;have fH:=ab dW;have cI:=ab bU;clear dW bU;go_wp2_with fail
 refine(yg (uh fH)).mono ?_;rintro e w2 ⟨rfl,F2,ce,bZ⟩;have ep:=ab ce;have dh:=ab ((uh cI).trans bZ);clear ce bZ;obtain⟨A0,Ck⟩:∃A0,A0=Ce ws (aF ws gl s):=⟨_,rfl⟩;have HA0:=ab Ck;rw[<-Ck];clear Ck;obtain⟨n0,n1,n2,n3,n4,n5⟩:=A0;simp only[Nd.cells];go_wp2_with fail
 refine(aZ iW (by decide) ((uh ep).alloc _)).mono ?_;rintro e w3 ⟨rfl,fT,cS⟩;have FI:=((ar.refl F2 w2).alloc _).trans cS;obtain⟨afC,arT,arI⟩:=bH (uh ep).m cS;have ajs:=ab afC;have ja:=ab fT;have iV:=ab ((uh dh).trans FI);clear fT cS FI afC;obtain⟨⟨q0,q1,q2,q3,q4,q5⟩,_⟩:=gG (uh ajs);have FJ:=t0 ⟨n0,n1,n2,n3,n4,n5⟩ (uh ja) (by show(MB ws s).nodes.length<=100000;rw[sP];exact hn);simp only[Nd.cells]at FJ;have Yc:=ab FJ;clear FJ;go_wp2_with fail
 refine(uh Yc).mono ?_;rintro e w4 ⟨rfl,F4,mx,fE⟩;have oO:=ab mx;have mF:=ab ((uh iV).trans fE);clear mx fE;go_wp2_with fail
 go_ret;refine⟨bj (by show(((MB ws s).nodes.length:Nat):Int)=_;rw[sP]),F4,?_,uh mF⟩;unfold gB;rw[<-uh HA0];exact uh oO
theorem vy(v:Nat)(h:fj B WV w P ws s F):
  Calls prog 216 #[.pointer (some ⟨P,0,none⟩),.int .i64 (v:Int)] w λe w'=>e=.returned (.agg (xO ws v s).cells.toArray)/\∃F',fj B WV w' P ws (oQ ws s) F'/\ar F w F' w':=by
 have HQ:=ab h;clear h;cases hb:bL ws oY s with
 |true =>
  have HN:Hid (xO ws v s=⟨4,v,0,0,0,0⟩):=ab (if_pos hb);have HS:Hid (oQ ws s=s.adv):=ab (if_pos hb);have HE:Hid (lW ws oY s=s.adv):=ab (if_pos hb);have HB:=ab hb;clear hb;go_enter func216,ntmps216;have mq:=λo=>ab (aA oY (by decide) ((uh HQ).alloc o));simp only[uh HB,uh HE]at mq;go_wp2_with fail
  refine(uh (mq _)).mono ?_;rintro e w1 ⟨rfl,dW,bU⟩;have mZ:=((ar.refl F w).alloc _).trans bU;obtain⟨fN,eM,yt⟩:=bH (uh HQ).m bU;have jg:=ab fN;have fH:=ab dW;have cI:=ab mZ;clear dW bU mZ fN;obtain⟨⟨qr0,qr1,qr2,qr3,qr4,qr5⟩,zr0,zr1,zr2,zr3,zr4,zr5⟩:=gG (uh jg);clear jg;go_wp2_with fail
  refine bodyPost_ret (v:=.agg #[.int .i64 4,.int .i64 v,.int .i64 0,.int .i64 0,.int .i64 0,.int .i64 0]) (by simp[results,Tryz.results216,go_sem,qr0,qr1,qr2,qr3,qr4,qr5]) rfl ⟨by rw[uh HN];rfl,F,?_,?_⟩
  .rw[uh HS];exact(((((((uh fH).setOther eM _).setOther eM _).setOther eM _).setOther eM _).setOther eM _).setOther eM _)
  .exact(((((((uh cI).setCell (zq1 (zq4 _)) _).setCell (zq1 (zq4 _)) _).setCell (zq1 (zq4 _)) _).setCell (zq1 (zq4 _)) _).setCell (zq1 (zq4 _)) _).setCell (zq1 (zq4 _)) _)
 |false =>
  have HE:Hid (lW ws oY s=s):=ab (if_neg (by simp[hb]));have HB:=ab hb;cases hk:(dT ws s==1) with
  |false =>
   have HN:Hid (xO ws v s=⟨1,v,dT ws s,fh ws s,0,0⟩):=ab (by unfold xO Eu;rw[hb,hk];rfl);have HS:Hid (oQ ws s=cd ws s):=ab (by unfold oQ Eu;rw[hb,hk];rfl);have hkf:(((dT ws s:Nat):Int)==1)=false:=(by simp at hk ⊢;omega);clear hb hk;go_enter func216,ntmps216;have mq:=λo=>ab (aA oY (by decide) ((uh HQ).alloc o));simp only[uh HB,uh HE]at mq;go_wp2_with fail
   refine(uh (mq _)).mono ?_;rintro e w1 ⟨rfl,dW,bU⟩;have mZ:=((ar.refl F w).alloc _).trans bU;obtain⟨fN,eM,yt⟩:=bH (uh HQ).m bU;have jg:=ab fN;have fH:=ab dW;have cI:=ab mZ;clear dW bU mZ fN;go_wp2_with fail
   refine(iy (uh fH)).mono ?_;rintro e w2 ⟨rfl,F2,ce,bZ⟩;obtain⟨jN,lx,Dj⟩:=az (uh jg) eM bZ;have oM:=ab jN;have ep:=ab ce;have dh:=ab ((uh cI).trans bZ);clear ce bZ jN;obtain⟨⟨qr0,qr1,qr2,qr3,qr4,qr5⟩,zr0,zr1,zr2,zr3,zr4,zr5⟩:=gG (uh oM);clear oM;go_wp2_with fail
   refine bodyPost_ret (v:=.agg #[.int .i64 1,.int .i64 v,.int .i64 (dT ws s),.int .i64 (fh ws s),.int .i64 0,.int .i64 0]) (by simp[results,Tryz.results216,go_sem,cell?_alloc_past,Dj,qr0,qr1,qr2,qr3,qr4,qr5]) rfl ⟨by rw[uh HN];rfl,F2,?_,?_⟩
   .rw[uh HS];exact(((((((uh ep).setOther lx _).setOther lx _).setOther lx _).setOther lx _).setOther lx _).setOther lx _).alloc _
   .exact(((((((uh dh).setCell (zq1 (zq4 _)) _).setCell (zq1 (zq4 _)) _).setCell (zq1 (zq4 _)) _).setCell (zq1 (zq4 _)) _).setCell (zq1 (zq4 _)) _).setCell (zq1 (zq4 _)) _).alloc _
  |true =>
   have hkt:(((dT ws s:Nat):Int)==1)=true:=(by simp at hk ⊢;omega);cases hd:bL ws iO (cd ws s) with
   |false =>
    have HN:Hid (xO ws v s=⟨1,v,dT ws s,fh ws s,0,0⟩):=ab (by unfold xO Eu;rw[hb,hk,hd];rfl);have HS:Hid (oQ ws s=cd ws s):=ab (by unfold oQ Eu;rw[hb,hk,hd];rfl);have yG:Hid (lW ws iO (cd ws s)=cd ws s):=ab (if_neg (by simp[hd]));have eP:=ab hd;clear hb hk hd;go_enter func216,ntmps216;have mq:=λo=>ab (aA oY (by decide) ((uh HQ).alloc o));simp only[uh HB,uh HE]at mq;go_wp2_with fail
    refine(uh (mq _)).mono ?_;rintro e w1 ⟨rfl,dW,bU⟩;have mZ:=((ar.refl F w).alloc _).trans bU;obtain⟨fN,eM,yt⟩:=bH (uh HQ).m bU;have jg:=ab fN;have fH:=ab dW;have cI:=ab mZ;clear dW bU mZ fN;go_wp2_with fail
    refine(iy (uh fH)).mono ?_;rintro e w2 ⟨rfl,F2,ce,bZ⟩;obtain⟨jN,lx,Dj⟩:=az (uh jg) eM bZ;have oM:=ab jN;have ep:=ab ce;have dh:=ab ((uh cI).trans bZ);clear ce bZ jN;have EW:=λo=>ab (aA iO (by decide) ((uh ep).alloc o));simp only[uh eP,uh yG]at EW;go_wp2_with fail
    refine(uh (EW _)).mono ?_;rintro e w3 ⟨rfl,fT,cS⟩;have FI:=((ar.refl F2 w2).alloc _).trans cS;obtain⟨lq,jR,K4⟩:=az (uh oM) lx FI;obtain⟨KO,ago,alB⟩:=bH (uh ep).m cS;have pE:=ab lq;have Yi:=ab KO;have ja:=ab fT;have iV:=ab ((uh dh).trans FI);clear fT cS FI lq KO;obtain⟨⟨qr0,qr1,qr2,qr3,qr4,qr5⟩,zr0,zr1,zr2,zr3,zr4,zr5⟩:=gG (uh pE);clear pE;obtain⟨⟨qb0,qb1⟩,zb0,zb1⟩:=kS (uh Yi);go_wp2_with fail
    refine bodyPost_ret (v:=.agg #[.int .i64 1,.int .i64 v,.int .i64 (dT ws s),.int .i64 (fh ws s),.int .i64 0,.int .i64 0]) (by simp[results,Tryz.results216,go_sem,qr0,qr1,qr2,qr3,qr4,qr5]) rfl ⟨by rw[uh HN];rfl,F2,?_,?_⟩
    .rw[uh HS];exact(((((((uh ja).setOther jR _).setOther jR _).setOther jR _).setOther jR _).setOther jR _).setOther jR _)
    .exact(((((((uh iV).setCell (zq1 (zq4 _)) _).setCell (zq1 (zq4 _)) _).setCell (zq1 (zq4 _)) _).setCell (zq1 (zq4 _)) _).setCell (zq1 (zq4 _)) _).setCell (zq1 (zq4 _)) _)
   |true =>
    have HN:Hid (xO ws v s=⟨2,v,dT ws s,fh ws s,0,0⟩):=ab (by unfold xO Eu;rw[hb,hk,hd];rfl);have HS:Hid (oQ ws s=aF ws kN (cd ws s).adv):=ab (by unfold oQ Eu;rw[hb,hk,hd];rfl);have yG:Hid (lW ws iO (cd ws s)=(cd ws s).adv):=ab (if_pos hd);have eP:=ab hd;clear hb hk hd;go_enter func216,ntmps216;have mq:=λo=>ab (aA oY (by decide) ((uh HQ).alloc o));simp only[uh HB,uh HE]at mq;go_wp2_with fail
    refine(uh (mq _)).mono ?_;rintro e w1 ⟨rfl,dW,bU⟩;have mZ:=((ar.refl F w).alloc _).trans bU;obtain⟨fN,eM,yt⟩:=bH (uh HQ).m bU;have jg:=ab fN;have fH:=ab dW;have cI:=ab mZ;clear dW bU mZ fN;go_wp2_with fail
    refine(iy (uh fH)).mono ?_;rintro e w2 ⟨rfl,F2,ce,bZ⟩;obtain⟨jN,lx,Dj⟩:=az (uh jg) eM bZ;have oM:=ab jN;have ep:=ab ce;have dh:=ab ((uh cI).trans bZ);clear ce bZ jN;have EW:=λo=>ab (aA iO (by decide) ((uh ep).alloc o));simp only[uh eP,uh yG]at EW;go_wp2_with fail
    refine(uh (EW _)).mono ?_;rintro e w3 ⟨rfl,fT,cS⟩;have FI:=((ar.refl F2 w2).alloc _).trans cS;obtain⟨lq,jR,K4⟩:=az (uh oM) lx FI;obtain⟨KO,ago,alB⟩:=bH (uh ep).m cS;have pE:=ab lq;have Yi:=ab KO;have ja:=ab fT;have iV:=ab ((uh dh).trans FI);clear fT cS FI lq KO;go_wp2_with fail
    refine(aZ kN (by decide) (uh ja)).mono ?_;rintro e w4 ⟨rfl,mx,fE⟩;obtain⟨qH,mb,Pv⟩:=az (uh pE) jR fE;obtain⟨Z4,arV,arK⟩:=az (uh Yi) ago fE;have uV:=ab qH;have ajt:=ab Z4;have oO:=ab mx;have mF:=ab ((uh iV).trans fE);clear mx fE qH Z4;obtain⟨⟨qr0,qr1,qr2,qr3,qr4,qr5⟩,zr0,zr1,zr2,zr3,zr4,zr5⟩:=gG (uh uV);clear uV;obtain⟨⟨qb0,qb1⟩,zb0,zb1⟩:=kS (uh ajt);go_wp2_with fail
    refine bodyPost_ret (v:=.agg #[.int .i64 2,.int .i64 v,.int .i64 (dT ws s),.int .i64 (fh ws s),.int .i64 0,.int .i64 0]) (by simp[results,Tryz.results216,go_sem,qr0,qr1,qr2,qr3,qr4,qr5]) rfl ⟨by rw[uh HN];rfl,F2,?_,?_⟩
    .rw[uh HS];exact(((((((uh oO).setOther mb _).setOther mb _).setOther mb _).setOther mb _).setOther mb _).setOther mb _)
    .exact(((((((uh mF).setCell (zq1 (zq4 _)) _).setCell (zq1 (zq4 _)) _).setCell (zq1 (zq4 _)) _).setCell (zq1 (zq4 _)) _).setCell (zq1 (zq4 _)) _).setCell (zq1 (zq4 _)) _)
theorem GM(h:fj B WV w P ws s F):
  Calls prog 188 #[.pointer (some ⟨P,0,none⟩)] w λe w'=>e=.returned (.agg (kP ws s).cells.toArray)/\∃F',fj B WV w' P ws (ix ws s) F'/\ar F w F' w':=by
 have HQ:=ab h;clear h;cases hb:bL ws ie s with
 |true =>
  have HN:Hid (kP ws s=⟨6,0,0,0,0,0⟩):=ab (if_pos hb);have HS:Hid (ix ws s=s.adv):=ab (if_pos hb);have HE:Hid (lW ws ie s=s.adv):=ab (if_pos hb);have HB:=ab hb;clear hb;go_enter func188,ntmps188;have mq:=λo=>ab (aA ie (by decide) ((uh HQ).alloc o));simp only[uh HB,uh HE]at mq;go_wp2_with fail
  refine(uh (mq _)).mono ?_;rintro e w1 ⟨rfl,dW,bU⟩;have mZ:=((ar.refl F w).alloc _).trans bU;obtain⟨fN,eM,yt⟩:=bH (uh HQ).m bU;have jg:=ab fN;have fH:=ab dW;have cI:=ab mZ;clear dW bU mZ fN;obtain⟨⟨qr0,qr1,qr2,qr3,qr4,qr5⟩,zr0,zr1,zr2,zr3,zr4,zr5⟩:=gG (uh jg);clear jg;go_wp2_with fail
  refine bodyPost_ret (v:=.agg #[.int .i64 6,.int .i64 0,.int .i64 0,.int .i64 0,.int .i64 0,.int .i64 0]) (by simp[results,Tryz.results188,go_sem,qr0,qr1,qr2,qr3,qr4,qr5]) rfl ⟨by rw[uh HN];rfl,F,?_,?_⟩
  .rw[uh HS];exact(((((((uh fH).setOther eM _).setOther eM _).setOther eM _).setOther eM _).setOther eM _).setOther eM _)
  .exact(((((((uh cI).setCell (zq1 (zq4 _)) _).setCell (zq1 (zq4 _)) _).setCell (zq1 (zq4 _)) _).setCell (zq1 (zq4 _)) _).setCell (zq1 (zq4 _)) _).setCell (zq1 (zq4 _)) _)
 |false =>
  have HE:Hid (lW ws ie s=s):=ab (if_neg (by simp[hb]));have HB:=ab hb;cases aW:bL ws jc s with
  |true =>
   have HN:Hid (kP ws s=⟨5,mO ws s.adv,0,0,0,0⟩):=ab (by unfold kP;rw[hb,aW];rfl);have HS:Hid (ix ws s=bE ws s.adv):=ab (by unfold ix;rw[hb,aW];rfl);have yG:Hid (lW ws jc s=s.adv):=ab (if_pos aW);have eP:=ab aW;clear hb aW;go_enter func188,ntmps188;have mq:=λo=>ab (aA ie (by decide) ((uh HQ).alloc o));simp only[uh HB,uh HE]at mq;go_wp2_with fail
   refine(uh (mq _)).mono ?_;rintro e w1 ⟨rfl,dW,bU⟩;have mZ:=((ar.refl F w).alloc _).trans bU;obtain⟨fN,eM,yt⟩:=bH (uh HQ).m bU;have jg:=ab fN;have fH:=ab dW;have cI:=ab mZ;clear dW bU mZ fN;have lN:=aA jc (by decide) (uh fH);rw[uh eP,uh yG]at lN;replace lN:=ab lN
   go_wp2_with fail
   refine(uh lN).mono ?_;rintro e w2 ⟨rfl,ce,bZ⟩;obtain⟨jN,lx,Dj⟩:=az (uh jg) eM bZ;have oM:=ab jN;have ep:=ab ce;have dh:=ab ((uh cI).trans bZ);clear ce bZ jN;go_wp2_with fail
   refine(fC (uh ep)).mono ?_;rintro e w3 ⟨rfl,F3,fT,cS⟩;obtain⟨lq,jR,K4⟩:=az (uh oM) lx cS;have pE:=ab lq;have ja:=ab fT;have iV:=ab ((uh dh).trans cS);clear fT cS lq;obtain⟨⟨qr0,qr1,qr2,qr3,qr4,qr5⟩,zr0,zr1,zr2,zr3,zr4,zr5⟩:=gG (uh pE);clear pE;go_wp2_with fail
   refine bodyPost_ret (v:=.agg #[.int .i64 5,.int .i64 (mO ws s.adv),.int .i64 0,.int .i64 0,.int .i64 0,.int .i64 0]) (by simp[results,Tryz.results188,go_sem,qr0,qr1,qr2,qr3,qr4,qr5]) rfl ⟨by rw[uh HN];rfl,F3,?_,?_⟩
   .rw[uh HS];exact(((((((uh ja).setOther jR _).setOther jR _).setOther jR _).setOther jR _).setOther jR _).setOther jR _)
   .exact(((((((uh iV).setCell (zq1 (zq4 _)) _).setCell (zq1 (zq4 _)) _).setCell (zq1 (zq4 _)) _).setCell (zq1 (zq4 _)) _).setCell (zq1 (zq4 _)) _).setCell (zq1 (zq4 _)) _)
  |false =>
   have yG:Hid (lW ws jc s=s):=ab (if_neg (by simp[aW]));have eP:=ab aW;cases dy:bL ws iO (bE ws s) with
   |true =>
    have HN:Hid (kP ws s=⟨3,mO ws s,dT ws (zN ws (bE ws s)),fh ws (zN ws (bE ws s)),0,0⟩):=ab (by unfold kP;rw[hb,aW,dy];rfl);have HS:Hid (ix ws s=cd ws (zN ws (bE ws s))):=ab (by unfold ix;rw[hb,aW,dy];rfl);have HE3:Hid (lW ws iO (bE ws s)=(bE ws s).adv):=ab (if_pos dy);have HL:Hid (aF ws gU (aF ws kN (bE ws s).adv)=zN ws (bE ws s)):=ab rfl;have tD:=ab dy;clear hb aW dy;go_enter func188,ntmps188;have mq:=λo=>ab (aA ie (by decide) ((uh HQ).alloc o));simp only[uh HB,uh HE]at mq;go_wp2_with fail
    refine(uh (mq _)).mono ?_;rintro e w1 ⟨rfl,dW,bU⟩;have mZ:=((ar.refl F w).alloc _).trans bU;obtain⟨fN,eM,yt⟩:=bH (uh HQ).m bU;have jg:=ab fN;have fH:=ab dW;have cI:=ab mZ;clear dW bU mZ fN;have lN:=aA jc (by decide) (uh fH);rw[uh eP,uh yG]at lN;replace lN:=ab lN
    go_wp2_with fail
    refine(uh lN).mono ?_;rintro e w2 ⟨rfl,ce,bZ⟩;obtain⟨jN,lx,Dj⟩:=az (uh jg) eM bZ;have oM:=ab jN;have ep:=ab ce;have dh:=ab ((uh cI).trans bZ);clear ce bZ jN;go_wp2_with fail
    refine(fC (uh ep)).mono ?_;rintro e w3 ⟨rfl,F3,fT,cS⟩;obtain⟨lq,jR,K4⟩:=az (uh oM) lx cS;have pE:=ab lq;have ja:=ab fT;have iV:=ab ((uh dh).trans cS);clear fT cS lq;have x8:=aA iO (by decide) (uh ja);rw[uh tD,uh HE3]at x8;replace x8:=ab x8
    go_wp2_with fail
    refine(uh x8).mono ?_;rintro e w4 ⟨rfl,mx,fE⟩;obtain⟨qH,mb,Pv⟩:=az (uh pE) jR fE;have uV:=ab qH;have oO:=ab mx;have mF:=ab ((uh iV).trans fE);clear mx fE qH;go_wp2_with fail
    refine(aZ kN (by decide) (uh oO)).mono ?_;rintro e w5 ⟨rfl,sg,gh⟩;obtain⟨Dd,yu,aal⟩:=az (uh uV) mb gh;have J4:=ab Dd;have Hb:=ab sg;have tE:=ab ((uh mF).trans gh);clear sg gh Dd;go_wp2_with fail
    refine(aZ gU (by decide) (uh Hb)).mono ?_;rintro e w6 ⟨rfl,hI6,KI⟩;rw[uh HL]at hI6;obtain⟨O5,Dr,alF⟩:=az (uh J4) yu KI;have S4:=ab O5;have HI6:=ab hI6;have HS6:=ab ((uh tE).trans KI);clear hI6 KI O5;go_wp2_with fail
    refine(iy (uh HI6)).mono ?_;rintro e w7 ⟨rfl,F7,hI7,Ez⟩;obtain⟨afE,K7,alG⟩:=az (uh S4) Dr Ez;have adC:=ab afE;have HI7:=ab hI7;have WM:=ab ((uh HS6).trans Ez);clear hI7 Ez afE;obtain⟨⟨qr0,qr1,qr2,qr3,qr4,qr5⟩,zr0,zr1,zr2,zr3,zr4,zr5⟩:=gG (uh adC);clear adC;go_wp2_with fail
    refine bodyPost_ret (v:=.agg #[.int .i64 3,.int .i64 (mO ws s),.int .i64 (dT ws (zN ws (bE ws s))),.int .i64 (fh ws (zN ws (bE ws s))),.int .i64 0,.int .i64 0]) (by simp[results,Tryz.results188,go_sem,cell?_alloc_past,alG,qr0,qr1,qr2,qr3,qr4,qr5]) rfl ⟨by rw[uh HN];rfl,F7,?_,?_⟩
    .rw[uh HS];exact(((((((uh HI7).setOther K7 _).setOther K7 _).setOther K7 _).setOther K7 _).setOther K7 _).setOther K7 _).alloc _
    .exact(((((((uh WM).setCell (zq1 (zq4 _)) _).setCell (zq1 (zq4 _)) _).setCell (zq1 (zq4 _)) _).setCell (zq1 (zq4 _)) _).setCell (zq1 (zq4 _)) _).setCell (zq1 (zq4 _)) _).alloc _
   |false =>
    have HN:Hid (kP ws s=xO ws (mO ws s) (aF ws gU (bE ws s))):=ab (by unfold kP;rw[hb,aW,dy];rfl);have HS:Hid (ix ws s=oQ ws (aF ws gU (bE ws s))):=ab (by unfold ix;rw[hb,aW,dy];rfl);have HE3:Hid (lW ws iO (bE ws s)=bE ws s):=ab (if_neg (by simp[dy]));have tD:=ab dy;clear hb aW dy;go_enter func188,ntmps188;have mq:=λo=>ab (aA ie (by decide) ((uh HQ).alloc o));simp only[uh HB,uh HE]at mq;go_wp2_with fail
    refine(uh (mq _)).mono ?_;rintro e w1 ⟨rfl,dW,bU⟩;have mZ:=((ar.refl F w).alloc _).trans bU;obtain⟨fN,eM,yt⟩:=bH (uh HQ).m bU;have jg:=ab fN;have fH:=ab dW;have cI:=ab mZ;clear dW bU mZ fN;have lN:=aA jc (by decide) (uh fH);rw[uh eP,uh yG]at lN;replace lN:=ab lN
    go_wp2_with fail
    refine(uh lN).mono ?_;rintro e w2 ⟨rfl,ce,bZ⟩;obtain⟨jN,lx,Dj⟩:=az (uh jg) eM bZ;have oM:=ab jN;have ep:=ab ce;have dh:=ab ((uh cI).trans bZ);clear ce bZ jN;go_wp2_with fail
    refine(fC (uh ep)).mono ?_;rintro e w3 ⟨rfl,F3,fT,cS⟩;obtain⟨lq,jR,K4⟩:=az (uh oM) lx cS;have pE:=ab lq;have ja:=ab fT;have iV:=ab ((uh dh).trans cS);clear fT cS lq;have x8:=aA iO (by decide) (uh ja);rw[uh tD,uh HE3]at x8;replace x8:=ab x8
    go_wp2_with fail
    refine(uh x8).mono ?_;rintro e w4 ⟨rfl,mx,fE⟩;obtain⟨qH,mb,Pv⟩:=az (uh pE) jR fE;have uV:=ab qH;have oO:=ab mx;have mF:=ab ((uh iV).trans fE);clear mx fE qH;go_wp2_with fail
    refine(aZ gU (by decide) (uh oO)).mono ?_;rintro e w5 ⟨rfl,sg,gh⟩;obtain⟨Dd,yu,aal⟩:=az (uh uV) mb gh;have J4:=ab Dd;have Hb:=ab sg;have tE:=ab ((uh mF).trans gh);clear sg gh Dd;go_wp2_with fail
    refine(vy (mO ws s) (uh Hb)).mono ?_;rintro e w6 ⟨rfl,F6,hI6,KI⟩;obtain⟨O5,Dr,alF⟩:=az (uh J4) yu KI;have S4:=ab O5;have HI6:=ab hI6;have HS6:=ab ((uh tE).trans KI);clear hI6 KI O5;obtain⟨A0,Ck⟩:∃A0,A0=xO ws (mO ws s) (aF ws gU (bE ws s)):=⟨_,rfl⟩;have HA0:=ab Ck;rw[<-Ck]at HN ⊢;clear Ck;obtain⟨n0,n1,n2,n3,n4,n5⟩:=A0;simp only[Nd.cells];obtain⟨⟨qr0,qr1,qr2,qr3,qr4,qr5⟩,zr0,zr1,zr2,zr3,zr4,zr5⟩:=gG (uh S4);clear S4;go_wp2_with fail
    refine bodyPost_ret (v:=.agg #[.int .i64 n0,.int .i64 n1,.int .i64 n2,.int .i64 n3,.int .i64 n4,.int .i64 n5]) (by simp[results,Tryz.results188,go_sem,qr0,qr1,qr2,qr3,qr4,qr5]) rfl ⟨by rw[uh HN];rfl,F6,?_,?_⟩
    .rw[uh HS];exact(((((((uh HI6).setOther Dr _).setOther Dr _).setOther Dr _).setOther Dr _).setOther Dr _).setOther Dr _)
    .exact(((((((uh HS6).setCell (zq1 (zq4 _)) _).setCell (zq1 (zq4 _)) _).setCell (zq1 (zq4 _)) _).setCell (zq1 (zq4 _)) _).setCell (zq1 (zq4 _)) _).setCell (zq1 (zq4 _)) _)
end
def mC:ByteArray:=⟨#[123]⟩
def k8:ByteArray:=⟨#[125]⟩
def jd:ByteArray:=⟨#[59]⟩
def md:ByteArray:=⟨#[105,102]⟩
def bP:ByteArray:=⟨#[119,104,105,108,101]⟩
def iP:ByteArray:=⟨#[101,108,115,101]⟩
def ei(k n:Nat)(l:List Nd):List Nd:=l.modify k (λx=>{ x with ot:=n })
def gS(k n:Nat)(l:List Nd):List Nd:=l.modify k (λx=>{ x with nx:=n })
def iN:Nd:=⟨10,0,0,0,0,0⟩
def rK(ws:List ByteArray)(s:PS):PS:=ci (kP ws s) (aF ws jd (ix ws s))
def cJ(blk:PS->PS)(ws:List ByteArray)(s:PS):PS:=blk (gB ws (aF ws md s))
def lQ(t:Nat)(s:PS):PS:={ ci iN s.adv with nodes:=ei t (ci iN s.adv).nodes.length (ci iN s.adv).nodes }
def Np(j:Nat)(s:PS):PS:={ s with nodes:=gS j s.nodes.length s.nodes }
def pO(blk:PS->PS)(ws:List ByteArray)(s:PS):PS :=
 if bL ws iP (cJ blk ws s) then Np (cJ blk ws s).nodes.length (blk (lQ s.nodes.length (cJ blk ws s)))
 else { cJ blk ws s with nodes:=ei s.nodes.length (cJ blk ws s).nodes.length (cJ blk ws s).nodes }
def nz(blk:PS->PS)(ws:List ByteArray)(s:PS):PS:=blk (gB ws (aF ws bP s))
def xY(blk:PS->PS)(ws:List ByteArray)(s:PS):PS :=
 { ci iN (nz blk ws s) with nodes:=ei s.nodes.length (ci iN (nz blk ws s)).nodes.length (gS (nz blk ws s).nodes.length s.nodes.length (ci iN (nz blk ws s)).nodes) }
def kA(blk:PS->PS)(ws:List ByteArray)(s:PS):PS:=if bL ws md s then pO blk ws s else if bL ws bP s then xY blk ws s else rK ws s
def ji(c:PS->PS)(ws:List ByteArray):Nat->PS->PS
 |0,s=>s
 |n+1,s=>if s.failed||bL ws k8 s then s else ji c ws n (c s)
def cM(ws:List ByteArray):Nat->PS->PS
 |0,s=>s
 |f+1,s=>aF ws k8 (ji (kA (cM ws f) ws) ws (ws.length+2) (aF ws mC s))
theorem bS(k n:Nat)(l:List Nd):(ei k n l).length=l.length:=by simp[ei]
theorem dx(k n:Nat)(l:List Nd):(gS k n l).length=l.length:=by simp[gS]
def fb(s:PS):Nat:=if s.failed then 1 else 0
section
variable {ws:List ByteArray} {s:PS}
theorem vt(k:ByteArray)(hk:k.size≠0)(h:s.failed=true):bL ws k s=false:=by
 cases hb:bL ws k s with
 |false=>rfl
 |true=>have:=(zD (ws:=ws) (s:=s) (by rw[jj hb];exact hk)).1;rw[h]at this;cases this
theorem jJ(k:ByteArray)(h:(aF ws k s).failed=false):bL ws k s=true/\s.failed=false/\(aF ws k s).pos=s.pos+1:=by
 unfold aF at *;split at h
 .rename_i hb;rw[if_pos hb];exact⟨hb,h,rfl⟩
 .cases h
theorem Ko(k:ByteArray)(hk:k.size≠0)(h:s.failed=true):(aF ws k s).failed=true:=by
 unfold aF;rw[vt k hk h];rfl
theorem qi(h:(bE ws s).failed=false):aK (pk ws s)=true/\s.failed=false/\(bE ws s).pos=s.pos+1:=by
 unfold bE at *;split at h
 .rename_i hb;rw[if_pos hb];exact⟨hb,h,rfl⟩
 .cases h
theorem uT(h:(cd ws s).failed=false):s.failed=false/\(cd ws s).pos=s.pos+1:=by
 unfold cd at *;split at h
 .rename_i hb;rw[if_pos hb];exact⟨h,rfl⟩
 .rename_i hb;rw[if_neg hb];exact(qi h).2
theorem Za(h:(tI ws s).failed=false):s.failed=false:=by
 unfold tI at h;split at h
 .exact h
 .have h1:=(uT h).1;unfold yW at h1;split at h1
  .exact(qi h1).2.1
  .exact(qi (jJ _ h1).2.1).2.1
theorem RH(h:(gB ws s).failed=false):s.failed=false:=(jJ _ (Za (jJ _ h).2.1)).2.1
theorem YX(h:(oQ ws s).failed=false):s.failed=false:=by
 unfold oQ at h;split at h
 .exact h
 .split at h
  .exact(uT (jJ _ h).2.1).1
  .exact(uT h).1
theorem abV(h:(ix ws s).failed=false):s.failed=false/\s.pos<(ix ws s).pos:=by
 unfold ix at *;split at h
 .rename_i hb;rw[if_pos hb];exact⟨h,Nat.lt_succ_self _⟩
 .rename_i hb;rw[if_neg hb];split at h
  .rename_i aW;rw[if_pos aW];exact⟨(qi h).2.1,by rw[(qi h).2.2];show s.pos<s.pos+1+1;omega⟩
  .rename_i aW;rw[if_neg aW];split at h
   .rename_i dy;rw[if_pos dy];have h1:=uT h;unfold zN at h1;have h2:=(qi (jJ _ (jJ _ h1.1).2.1).2.1).2;refine⟨h2.1,?_⟩;have e1:=iT (ws:=ws) (s:=zN ws (bE ws s));have e2:(bE ws s).adv.pos<=(zN ws (bE ws s)).pos:=zq3 (cy kN) (cy gU);have e3:=dl (s:=bE ws s);omega
   .rename_i dy;rw[if_neg dy];have h1:=jJ _ (YX h);have h2:=(qi h1.2.1).2;refine⟨h2.1,?_⟩;have e1:(aF ws gU (bE ws s)).pos<=(oQ ws (aF ws gU (bE ws s))).pos:=by
     unfold oQ;split
     .exact dl
     .split
      .exact zq3 (zq3 iT dl) (cy _)
      .exact iT
    omega
theorem TJ:s.pos<=(tI ws s).pos:=by
 unfold tI;split
 .exact dl
 .refine zq3 (zq3 (rB (ws:=ws)) ?_) iT;unfold yW;split
  .exact dl
  .exact cy _
theorem uR:s.pos<=(gB ws s).pos:=zq3 (zq3 (cy gl) TJ) (cy iW)
theorem oK:(gB ws s).nodes.length=s.nodes.length+1:=by
 unfold gB ci;simp[sP]
theorem V3:s.pos<=(ix ws s).pos:=by
 unfold ix;split
 .exact dl
 .split
  .exact zq3 dl rB
  .split
   .exact zq3 (zq3 (zq3 (zq3 rB dl) (cy kN)) (cy gU)) iT
   .refine zq3 (zq3 (rB (ws:=ws)) (cy (ws:=ws) gU)) ?_;unfold oQ;split
    .exact dl
    .split
     .exact zq3 (zq3 iT dl) (cy _)
     .exact iT
structure MG(blk:PS->PS):Prop where
 pos:∀s,s.pos<=(blk s).pos
 nodes:∀s,s.nodes.length<=(blk s).nodes.length
 ok:∀s,(blk s).failed=false->s.failed=false
 phi:∀s,(blk s).nodes.length+2*s.pos<=s.nodes.length+2*(blk s).pos+fb (blk s)
theorem y7(s:PS):fb s<=1:=by unfold fb;split <;> omega
theorem y9{s:PS}(h:s.failed=false):fb s=0:=by unfold fb;rw[h];rfl
theorem Ft{s:PS}(h:s.failed=true):fb s=1:=by unfold fb;rw[h];rfl
theorem jG{blk:PS->PS}(g:MG blk):s.pos<=(kA blk ws s).pos/\s.nodes.length<=(kA blk ws s).nodes.length /\
  ((kA blk ws s).failed=false->s.failed=false/\s.pos<(kA blk ws s).pos)/\(kA blk ws s).nodes.length+2*s.pos<=s.nodes.length+2*(kA blk ws s).pos+fb (kA blk ws s):=by
 unfold kA;split
 .rename_i hb;have e1:(aF ws md s)=s.adv:=if_pos hb;have a1:s.adv.pos=s.pos+1:=rfl;have a2:=uR (ws:=ws) (s:=s.adv);have a3:=oK (ws:=ws) (s:=s.adv);have a4:s.adv.nodes=s.nodes:=rfl;rw[a4]at a3;have eA:cJ blk ws s=blk (gB ws s.adv):=by unfold cJ;rw[e1]
  have p1:=g.pos (gB ws s.adv);have p2:=g.nodes (gB ws s.adv);have p3:=g.ok (gB ws s.adv);have p4:=g.phi (gB ws s.adv);rw[<-eA]at p1 p2 p3 p4;have ok1:(cJ blk ws s).failed=false->s.failed=false:=λh=>RH (s:=s.adv) (p3 h);unfold pO;split
  .rename_i aW;have okA:(cJ blk ws s).failed=false:=(zD (by rw[jj aW];decide)).1;have f0:=y9 okA;have b1:(lQ s.nodes.length (cJ blk ws s)).pos=(cJ blk ws s).pos+1:=rfl;have b2:(lQ s.nodes.length (cJ blk ws s)).nodes.length=(cJ blk ws s).nodes.length+1:=(by simp[lQ,bS,ci,PS.adv]);have q1:=g.pos (lQ s.nodes.length (cJ blk ws s));have q2:=g.nodes (lQ s.nodes.length (cJ blk ws s));have q4:=g.phi (lQ s.nodes.length (cJ blk ws s));generalize blk (lQ s.nodes.length (cJ blk ws s))=z at q1 q2 q4;have c1:(Np (cJ blk ws s).nodes.length z).pos=z.pos:=rfl;have c2:(Np (cJ blk ws s).nodes.length z).nodes.length=z.nodes.length:=(by simp[Np,dx]);have c3:fb (Np (cJ blk ws s).nodes.length z)=fb z:=rfl;rw[c1,c2,c3];exact⟨by omega,by omega,λ_=>⟨ok1 okA,by omega⟩,by omega⟩
  .simp only[bS];have c3:fb { cJ blk ws s with nodes:=ei s.nodes.length (cJ blk ws s).nodes.length (cJ blk ws s).nodes }=fb (cJ blk ws s):=rfl;rw[c3];have:=y7 (cJ blk ws s);exact⟨by omega,by omega,λh=>⟨ok1 h,by omega⟩,by omega⟩
 .split
  .rename_i _ hb;have e1:(aF ws bP s)=s.adv:=if_pos hb;have a1:s.adv.pos=s.pos+1:=rfl;have a2:=uR (ws:=ws) (s:=s.adv);have a3:=oK (ws:=ws) (s:=s.adv);have a4:s.adv.nodes=s.nodes:=rfl;rw[a4]at a3;have eA:nz blk ws s=blk (gB ws s.adv):=(by unfold nz;rw[e1]);have p1:=g.pos (gB ws s.adv);have p2:=g.nodes (gB ws s.adv);have p3:=g.ok (gB ws s.adv);have p4:=g.phi (gB ws s.adv);rw[<-eA]at p1 p2 p3 p4;have ok1:(nz blk ws s).failed=false->s.failed=false:=λh=>RH (s:=s.adv) (p3 h);have c1:(xY blk ws s).pos=(nz blk ws s).pos:=rfl;have c2:(xY blk ws s).nodes.length=(nz blk ws s).nodes.length+1:=(by simp[xY,bS,dx,ci]);have c3:fb (xY blk ws s)=fb (nz blk ws s):=rfl;have c4:(xY blk ws s).failed=(nz blk ws s).failed:=rfl;rw[c1,c2,c3,c4];exact⟨by omega,by omega,λh=>⟨ok1 h,by omega⟩,by omega⟩
  .have a1:=V3 (ws:=ws) (s:=s);have a2:=cy (ws:=ws) (s:=ix ws s) jd;have c1:(rK ws s).pos=(aF ws jd (ix ws s)).pos:=rfl;have c2:(rK ws s).nodes.length=s.nodes.length+1:=(by simp[rK,ci,bp,zO]);have c4:(rK ws s).failed=(aF ws jd (ix ws s)).failed:=rfl;cases hf:(rK ws s).failed with
   |true =>
    rw[c1,c2,Ft hf];exact⟨by omega,by omega,(λh=>absurd h (by simp)),by omega⟩
   |false =>
    rw[c4]at hf;have h1:=jJ _ hf;have h2:=abV h1.2.1;rw[c1,c2];exact⟨by omega,by omega,λ_=>⟨h2.1,by omega⟩,by omega⟩
theorem NB{c:PS->PS}(hc:∀s,s.pos<=(c s).pos/\s.nodes.length<=(c s).nodes.length/\((c s).failed=false->s.failed=false)/\(c s).nodes.length+2*s.pos<=s.nodes.length+2*(c s).pos+fb (c s))(n:Nat):
  ∀s,s.pos<=(ji c ws n s).pos/\s.nodes.length<=(ji c ws n s).nodes.length/\((ji c ws n s).failed=false->s.failed=false)/\(ji c ws n s).nodes.length+2*s.pos<=s.nodes.length+2*(ji c ws n s).pos+fb (ji c ws n s):=by
 induction n with
 |zero=>intro s;exact⟨zq4 _,zq4 _,id,by simp only[ji];omega⟩
 |succ n ih =>
  intro s;simp only[ji];split
  .exact⟨zq4 _,zq4 _,id,by omega⟩
  .obtain⟨a,b,d,e⟩:=ih (c s);obtain⟨a',b',d',e'⟩:=hc s;refine⟨by omega,by omega,λh=>d' (d h),?_⟩;cases hf:(c s).failed with
   |false=>rw[y9 hf]at e';omega
   |true =>
    have:fb (ji c ws n (c s))=1:=by
     cases hg:(ji c ws n (c s)).failed with
     |true=>exact Ft hg
     |false=>rw[d hg]at hf;cases hf
    have hn:ji c ws n (c s)=c s:=by
     cases n with
     |zero=>rfl
     |succ n=>simp[ji,hf]
    rw[hn]at e ⊢;omega
theorem jE(f:Nat):MG (cM ws f):=by
 induction f with
 |zero=>exact⟨λ_=>zq4 _,λ_=>zq4 _,λ_=>id,λ_=>by simp only[cM];omega⟩
 |succ f ih =>
  have hc:=λn s=>NB (ws:=ws) (c:=kA (cM ws f) ws) (λs=>⟨(jG ih).1,(jG ih).2.1,λh=>((jG ih).2.2.1 h).1,(jG ih).2.2.2⟩) n s;refine⟨λs=>?_,λs=>?_,λs h=>?_,λs=>?_⟩
  .exact zq3 (zq3 (cy mC) (hc _ _).1) (cy k8)
  .simp only[cM,bp];have:=(hc (ws.length+2) (aF ws mC s)).2.1;rw[bp]at this;exact this
  .exact(jJ _ ((hc _ _).2.2.1 (jJ _ h).2.1)).2.1
  .simp only[cM,bp];have h1:=(hc (ws.length+2) (aF ws mC s)).2.2.2;have h2:=cy (ws:=ws) (s:=s) mC;rw[bp]at h1;generalize ji (kA (cM ws f) ws) ws (ws.length+2) (aF ws mC s)=z at h1 ⊢;have h3:=cy (ws:=ws) (s:=z) k8;cases hf:z.failed with
   |false=>rw[y9 hf]at h1;omega
   |true =>
    have h4:fb (aF ws k8 z)=1:=Ft (Ko k8 (by decide) hf);have h5:=y7 z;omega
end
