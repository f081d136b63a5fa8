import Derived.Test.YtciihepbeacppaaGreatM01
set_option maxRecDepth 100000
set_option maxHeartbeats 0
namespace Go.Proofs.YtciihepbeacppaaGreat
open Tryz Go.RowKit List World Below
set_option linter.unusedVariables false
section
variable {P:Program} (w:World)
theorem aQ {ops:Array Oper} {rest:List Oper} {o:Oper} {a:Act} {Q:Exit->Act->World->Prop}
  (hg:o.guard=none) (s x:Operand) (t:TypeId) (ng:o.op=Op.call { callee:=Callee.builtin Builtin.append,args:=#[s,x],argTypes:=#[t,t] })
  (base:Nat) (e:TypeId) (i:TypeInfo) (z:Value) (size bytes:Nat) (ht:P.underlying t=some (.slice e)) (hi:P.info? e=some i) (hz:i.zero=some z)
  (iP:i.size=size) (C5:i.bytes=bytes) (Iq:z.cells.size=size) (lu:0<size)
  (v:Value) (n:Nat) (xs:List Value) (hs:a.eval s=v) (aO:w.ownsRow base e size v n xs)
  (ad:Addr) (c:Nat) (news:List Value) (hx:a.eval x=.slice (some ad) 1 c) (hl:news.length=size) (gF:∀j u,news[j]?=some u->w.cell? (ad.add j)=some u) (h1:∀u∈news,u.oneCell'=true)
  (Hg:n+1<=1000000) (hb:bytes<=1000) (fH:base<=w.heap.size)
  (hK:∀g cap w',w'.ownsRow base e size (.slice (some ⟨g,0,none⟩) (n+1) cap) (n+1) (xs++news)->w.grownBy w' v.ownBlock->(some g=v.ownBlock\/g=w.heap.size)->wpList P ops Q rest (a.put o.dst (.slice (some ⟨g,0,none⟩) (n+1) cap)) w') :
  wpList P ops Q (o::rest) a w:=by
 refine wpList_plain hg λK hK'=>?_;obtain⟨v',w',Dm,r1,r2,r3,g,cap,rfl⟩:=By (P:=P) w base t o.type e i z size bytes ht hi hz iP C5 Iq lu v n xs aO ad c news hl gF h1 Hg hb fH;unfold Oper.wp;simp[execOp,ng,resolve,invoke,builtin,hs,hx,Dm,Result.andThen];exact hK' _ _ (hK g cap w' r1 r2 (by simpa[Value.ownBlock] using r3))
end
theorem aM(w:World)(b:Nat)(hb:b=w.heap.size)(xs:List Value)(T:TypeId):∀(j:Nat) (u:Value),xs[j]?=some u->(w.alloc (.cells xs.toArray T)).cell? ((⟨b,0,none⟩:Addr).add j)=some u:=by
 intro j u hj;subst hb;rw[show(⟨w.heap.size,0,none⟩:Addr).add j=⟨w.heap.size,j,none⟩ by unfold Addr.add;split <;> simp_all];rw[cell?_alloc_mark];simpa using hj
theorem cf.one(a:cf):∀u∈a.cells,u.oneCell'=true:=by
 intro u hu;simp[cf.cells]at hu;rcases hu with rfl|rfl|rfl|rfl|rfl <;> rfl
theorem xH(l:List cf)(a:cf):bI (l++[a])=bI l++a.cells:=by simp[bI]
theorem infoAtom:(prog.info? 239).map (λi=>(i.zero,i.size,i.bytes))=some (some (.agg #[.int .i64 0,.int .i64 0,.int .i64 0,.int .i64 0,.int .i64 0]),5,40):=by kernel_rfl
theorem RJ(w:World)(b B:Nat)(hb:b=w.heap.size)(hB:B<=w.heap.size)(T:TypeId)(sz:Nat)(xs:List Value)(hx:xs.length=sz):(w.alloc (.cells xs.toArray T)).ownsRow B T sz (.slice (some ⟨b,0,none⟩) 1 1) 1 xs:=by
 subst hb;subst hx;exact⟨by simp,.inr ⟨w.heap.size,1,xs.toArray,rfl,hB,heap_alloc_new w _,zq4 _,by decide,by simp,by simp⟩⟩
section
variable {B:Nat} {WV:Value} {w:World} {P:Nat} {ws:List ByteArray} {s:PS} {F:List Nat} {wv vv hv nv:Value}
theorem r9{w w':World}{B:Nat}{e:TypeId}{sz n:Nat}{v:Value}{xs:List Value}{F F':List Nat}(h:w.ownsRow B e sz v n xs)(hS:aq F w F' w')(ho:∀k,v.ownBlock=some k->k ∉ F):w'.ownsRow B e sz v n xs :=
 ae h (λk hk=>hS.block k (h.lt k hk).2 (ho k hk))
theorem IL{w:World}{B:Nat}{e:TypeId}{sz n:Nat}{v:Value}{xs:List Value}(h:w.ownsRow B e sz v n xs)(o o':Obj):((w.alloc o).alloc o').ownsRow B e sz v n xs:=(h.alloc o).alloc o'
theorem Hb {wr w3 w4:World} {F2 F3:List Nat} {st':PS} {v:Value} {al:List cf} {o o':Obj} {g n cap:Nat} (hS:aq F w F2 wr) (aO:wr.ownsRow w.heap.size 239 5 v al.length (bI al)) (Dh:∀k,v.ownBlock=some k->k ∉ F2)
  (eI:d9 B WV w3 P ws st' F3) (cF:aq F2 wr F3 w3) (hg:((w3.alloc o).alloc o').grownBy w4 v.ownBlock) (hb:some g=v.ownBlock\/g=w3.heap.size+1+1) :
  d9 B WV w4 P ws st' F3/\aq F w F3 w4/\∀k,(Value.slice (some ⟨g,0,none⟩) n cap).ownBlock=some k->k ∉ F3:=by
 have Ie:∀k,v.ownBlock=some k->k ∉ F3:=by
  intro k hk hm;rcases cF.foot k hm with h|h
  .exact Dh k hk h
  .have:=(aO.lt k hk).2;omega
 have ag2:=((hS.trans cF).alloc o).alloc o';refine⟨⟨((eI.m.alloc o).alloc o').of_eq (λk hk=>hg.block k (by have:=(eI.m.mem k hk).2;simp;omega) (λe=>Ie k e.symm hk)),eI.f⟩,ag2.grown hg (λk hk=>zq1 (aO.lt k hk).1),?_⟩;intro k hk hm;simp[Value.ownBlock]at hk;subst hk;rcases hb with hb|hb
 .exact Ie g hb.symm hm
 .have:=(eI.m.mem g hm).2;omega
theorem KQ(n:Nat)(h:bH ws cY s=false):iu ws n s=([],s):=by
 cases n with
 |zero=>rfl
 |succ n=>simp[iu,h]
theorem VH(n:Nat)(h:bH ws cY s=true):iu ws (n+1) s=(oy ws s.adv::(iu ws n (dQ ws s.adv)).1,(iu ws n (dQ ws s.adv)).2):=by simp[iu,h]
theorem Ap(h:d9 B WV w P ws s F):
  Calls prog 121 #[.pointer (some ⟨P,0,none⟩)] w λe w'=>∃v F',e=.returned v/\d9 B WV w' P ws (pP ws s) F'/\aq F w F' w' /\
   w'.ownsRow w.heap.size 239 5 v (Za ws s).length (bI (Za ws s))/\(∀k,v.ownBlock=some k->k ∉ F'):=by
 obtain⟨i0,hi,fW,fy,fJ⟩:=info_parts infoAtom;have HQ:=ab h;obtain⟨hl,_,_,_⟩:=h.f;clear h;go_enter func121,ntmps121;go_wp2_with fail
 refine(zV (uh HQ)).mono ?_;rintro e w1 ⟨rfl,F1,dy,bN⟩;have ep:=ab dy;have cg:=ab bN;clear dy bN;obtain⟨A0,zA⟩:∃A0,A0=oy ws s:=⟨_,rfl⟩;have YQ:=ab zA;rw[<-zA];clear zA;obtain⟨k0,k1,k2,k3,k4⟩:=A0;simp only[cf.cells];go_wp2_with fail
 go_loopg [4] (ws.length+1) (λm v wr=>∃(st:PS) (al:List cf) (F2:List Nat),d9 B WV wr P ws st F2/\aq F w F2 wr/\wr.ownsRow w.heap.size 239 5 v al.length (bI al)/\(∀k,v.ownBlock=some k->k ∉ F2)/\al.length<=st.pos+1 /\
  Hid (ws.length<m+st.pos/\Za ws s=al++(iu ws m st).1/\pP ws s=(iu ws m st).2))
 case atStart =>
  refine⟨dQ ws s,[⟨k0,k1,k2,k3,k4⟩],F1,((uh ep).alloc _).alloc _,((uh cg).alloc _).alloc _,?_,?_,by simp,?_⟩
  .have aia:=(uh cg).size;exact gQ (RJ (w1.alloc _) (w1.heap.size+1) w.heap.size (by simp) (by simp;omega) _ 5 [.int .i64 k0,.int .i64 k1,.int .i64 k2,.int .i64 k3,.int .i64 k4] rfl) rfl (by simp[bI,cf.cells])
  .intro k hk hm;simp[Value.ownBlock]at hk;have:=((uh ep).m.mem k hm).2;omega
  .exact⟨by omega,by rw[Za,<-uh YQ];rfl,rfl⟩
 case round =>
  obtain⟨st,al,F2,hI,hS,aO,Dh,db,acj⟩:=hrel;obtain⟨_,WO,_,_⟩:=hI.f;have HI:=ab hI;have HS:=ab hS;have Pv:=ab aO;have Pu:=ab Dh;have HA:=az cY (by decide) hI;clear hI hS aO Dh;cases hb:bH ws cY st with
  |false =>
   have qC:Hid (kq ws cY st=st):=ab (if_neg (by simp[hb]));rw[hb,uh qC]at HA;replace HA:=ab HA
   have HB:=ab hb;clear hb;go_wp2_with fail
   refine(uh HA).mono ?_;rintro e w2 ⟨rfl,bX,bO⟩;have dJ:=ab bX;have cj:=ab bO;clear bX bO;go_wp2_with fail
   go_ret;obtain⟨_,TJ,oq⟩:=uh acj;rw[KQ _ (uh HB)]at TJ oq;refine⟨_,F2,rfl,by rw[oq];exact uh dJ,(uh HS).trans (uh cj),?_,uh Pu⟩;rw[TJ,append_nil];exact ae (uh Pv) (λk hk=>(uh cj).block k ((uh Pv).lt k hk).2 (uh Pu k hk))
  |true =>
   have qC:Hid (kq ws cY st=st.adv):=ab (if_pos hb);rw[hb,uh qC]at HA;replace HA:=ab HA
   have HB:=ab hb;have an0:st.pos<ws.length:=JK (by decide) hb;clear hb;go_wp2_with fail
   refine(uh HA).mono ?_;rintro e w2 ⟨rfl,bX,bO⟩;have dJ:=ab bX;have cj:=ab bO;clear bX bO;go_wp2_with fail
   refine(zV (uh dJ)).mono ?_;rintro e w3 ⟨rfl,F3,eI,cF⟩;have hU:=ab eI;have gW:=ab ((uh cj).trans cF);clear eI cF;obtain⟨A1,hA1⟩:∃A1,A1=oy ws st.adv:=⟨_,rfl⟩;have kP:=ab hA1;rw[<-hA1];clear hA1;obtain⟨j0,j1,j2,j3,j4⟩:=A1;simp only[cf.cells];go_wp2_with (at_builtin;refine aQ _ rfl (.tmp 14) (.tmp 16) 102 rfl w.heap.size 239 i0 _ 5 40 underlying102 hi fW fy fJ rfl (by decide) _ al.length (bI al) rfl (IL (r9 (uh Pv) (uh gW) (uh Pu)) _ _) ⟨_,0,none⟩ 1 [.int .i64 j0,.int .i64 j1,.int .i64 j2,.int .i64 j3,.int .i64 j4] rfl rfl ?c1 ?c2 ?c3 ?c4 ?c5 ?_)
   case c1=>exact aM (w3.alloc _) _ (by simp) [.int .i64 j0,.int .i64 j1,.int .i64 j2,.int .i64 j3,.int .i64 j4] _
   case c2=>exact cf.one ⟨j0,j1,j2,j3,j4⟩
   case c3=>omega
   case c4=>omega
   case c5=>have:=(uh HS).size;have:=(uh gW).size;simp;omega
   intro g cap w4 gI dM iL;have R:=Hb (n:=al.length+1) (cap:=cap) (uh HS) (uh Pv) (uh Pu) (uh hU) (uh gW) dM iL;have HR:=ab R;have HO4:=ab gI;clear R gI dM iL;go_wp2_with fail
   obtain⟨hfm,TJ,oq⟩:=uh acj;obtain⟨m,rfl⟩:∃m,gk=m+1:=⟨gk-1,by omega⟩;rw[VH _ (uh HB),<-uh kP]at TJ oq;go_roundg m
   case measure=>omega
   case rel =>
    have WL:=PL (ws:=ws) (s:=st.adv);have WM:st.adv.pos=st.pos+1:=rfl;refine⟨dQ ws st.adv,al++[⟨j0,j1,j2,j3,j4⟩],F3,(uh HR).1,(uh HR).2.1,?_,(uh HR).2.2,by simp;omega,⟨by omega,?_,oq⟩⟩
    .exact gQ (uh HO4) (by simp) (by rw[xH];rfl)
    .rw[TJ];simp
end
def bY(nd:Nd)(s:PS):PS:={ s with nodes:=s.nodes++[{ nd with nx:=s.nodes.length+1 }] }
theorem bu{w:World}{B:Nat}{e:TypeId}{sz n:Nat}{v:Value}{xs:List Value}(h:w.ownsRow B e sz v n xs):∃ao cap,v=.slice ao n cap:=by
 rcases h.2 with⟨rfl,rfl⟩|⟨g,cap,cur,rfl,_⟩ <;> exact⟨_,_,rfl⟩
theorem Nd.one(a:Nd):∀u∈a.cells,u.oneCell'=true:=by
 intro u hu;simp[Nd.cells]at hu;rcases hu with rfl|rfl|rfl|rfl|rfl|rfl <;> rfl
theorem fG{w:World}{r:Nat}{a b c d e f:Value}{t:TypeId}(h:w.heap[r]?=some (.cells #[a,b,c,d,e,f] t (0,0))):
  (w.cell? ⟨r,0,none⟩=some a/\w.cell? ⟨r,1,none⟩=some b/\w.cell? ⟨r,2,none⟩=some c/\w.cell? ⟨r,3,none⟩=some d/\w.cell? ⟨r,4,none⟩=some e/\w.cell? ⟨r,5,none⟩=some f) /\
  w.frozen? ⟨r,0,none⟩=false/\w.frozen? ⟨r,1,none⟩=false/\w.frozen? ⟨r,2,none⟩=false/\w.frozen? ⟨r,3,none⟩=false/\w.frozen? ⟨r,4,none⟩=false/\w.frozen? ⟨r,5,none⟩=false :=
 ⟨(iG h).1,(iG h).2 0,(iG h).2 1,(iG h).2 2,(iG h).2 3,(iG h).2 4,(iG h).2 5⟩
section
variable {B:Nat} {WV:Value} {w:World} {P:Nat} {ws:List ByteArray} {s:PS} {F:List Nat} {wv vv hv nv:Value}
theorem rE(nd:Nd)(h:d9 B WV w P ws s F)(hn:s.nodes.length<=100000):
  Calls prog 123 #[.pointer (some ⟨P,0,none⟩),.agg nd.cells.toArray] w λe w'=>e=.returned (.int .i64 s.nodes.length)/\∃F',d9 B WV w' P ws (bY nd s) F'/\aq F w F' w':=by
 obtain⟨i0,hi,fW,fy,fJ⟩:=info_parts infoNode;have HQ:=ab h;obtain⟨n0,n1,n2,n3,n4,n5⟩:=nd;obtain⟨w0,kW⟩:∃w0,w0=w.alloc (.cells #[.int .i64 n0,.int .i64 n1,.int .i64 n2,.int .i64 n3,.int .i64 ((s.nodes.length:Int)+1),.int .i64 n5] 186):=⟨_,rfl⟩;have h0:d9 B WV w0 P ws s F:=by rw[kW];exact h.alloc _
 have qC:Hid (aq F w F w0):=ab (by rw[kW];exact(aq.refl F w).alloc _);have WQ:w0.heap[w.heap.size]?=some (.cells #[.int .i64 n0,.int .i64 n1,.int .i64 n2,.int .i64 n3,.int .i64 ((s.nodes.length:Int)+1),.int .i64 n5] 186 (0,0)):=by rw[kW];exact heap_alloc_new w _
 have US:=ab kW;have ni:w.heap.size<w0.heap.size:=by rw[kW];simp
 have HN0:Hid (w.heap.size ∉ F):=ab (λhm=>by have:=(h.m.mem _ hm).2;omega);clear kW;obtain⟨wv,vv,hv,nv,dN⟩:=h.m.named;obtain⟨_,_,_,_,c5,fz⟩:=dN.readsV;obtain⟨ao,cap,rfl⟩:=bu dN.2.2.2.2.2.1;have hPw:P<w.heap.size:=(h.m.mem P h.m.memP).2;have f5:=fz 5;clear h h0 fz;simp only[Nd.cells];go_enter func123,ntmps123;go_wp2_with fail
 rw[<-uh US];have Di:de B WV w0 P ws s F wv vv hv (.slice ao s.nodes.length cap):=by rw[uh US];exact dN.alloc _
 clear c5 f5;obtain⟨_,_,_,_,c5,fz⟩:=Di.readsV;have f5:=fz 5;obtain⟨⟨q0,q1,q2,q3,q4,q5⟩,_⟩:=fG WQ;have ss:=ab WQ;have wu:P<w0.heap.size:=by omega
 have Qn:B<=w0.heap.size:=by have:=(Di.is.mem P Di.is.memP).1;omega
 have BS:Hid ((Value.slice ao s.nodes.length cap).ownBlock≠some P):=ab (λe=>Di.apart.1 P (by simp[e]) rfl);have jc:=ab Di.2.2.2.2.2.1;have nM:∀(b j k:Nat) (o:Obj) (v:Value),b<w0.heap.size->w0.cell? ⟨b,j,none⟩=some v->((w0.drewN k).alloc o).cell? ⟨b,j,none⟩=some v:=λb j k o v hb hv=>(cell?_of_block (a:=⟨b,j,none⟩) (heap_alloc (w0.drewN k) o b hb)).trans hv;have c5a:=λk o=>nM P 5 k o _ wu c5;have q0a:=λk o=>nM _ 0 k o _ ni q0;have q1a:=λk o=>nM _ 1 k o _ ni q1;have q2a:=λk o=>nM _ 2 k o _ ni q2;have q3a:=λk o=>nM _ 3 k o _ ni q3;have q4a:=λk o=>nM _ 4 k o _ ni q4;have q5a:=λk o=>nM _ 5 k o _ ni q5;have HV0:=ab Di;clear nM fz Di WQ dN;go_region_law (refine iC _ rfl (.tmp 18) (.tmp 20) 103 rfl B 186 i0 _ 6 48 underlying103 hi fW fy fJ rfl (by decide) (.slice ao s.nodes.length cap) s.nodes.length (bi s.nodes) (by simp[Act.eval]) (qu (uh jc) _ _) ⟨w0.heap.size,0,none⟩ 1 [.int .i64 n0,.int .i64 n1,.int .i64 n2,.int .i64 n3,.int .i64 ((s.nodes.length:Int)+1),.int .i64 n5] (by simp[Act.eval]) rfl (aM (w0.drewN _) _ rfl _ _) (Nd.one ⟨n0,n1,n2,n3,s.nodes.length+1,n5⟩) (by omega) (by omega) (wK Qn _ _) ?_;intro g2 cap2 w2 br aL dA;have c5':=gj aL wu (uh BS) 5 c5;have f5':=eb aL wu (uh BS) 5 f5;obtain⟨F',VS,V4⟩:=de.pushNodes ⟨n0,n1,n2,n3,s.nodes.length+1,n5⟩ ((uh HV0).drewN _) aL br dA;have uB:=ab VS;have HS':=ab V4;clear br aL dA VS V4)
 all_goals
  go_wp2_with fail
  go_ret;exact⟨rfl,F',⟨uh uB,(uh HQ).f⟩,((uh qC).drewN _).trans (uh HS')⟩
end
def mV:ByteArray:=⟨#[110,101,119]⟩
def gL:ByteArray:=⟨#[46]⟩
def kN:ByteArray:=⟨#[110]⟩
def f8:ByteArray:=⟨#[115,107,105,112]⟩
def ie:ByteArray:=⟨#[102,114,101,101]⟩
def v7(ws:List ByteArray)(s:PS):PS:=if bH ws qR s then s.adv else aF ws fQ s
def OL(ws:List ByteArray)(s:PS):Nat:=if bH ws qR s then 9 else 8
def q9(ws:List ByteArray)(s:PS):PS:=if bH ws cY s then s.adv else bU ws (v7 ws (bz ws s))
def zx(ws:List ByteArray)(s:PS):Nd :=
 if bH ws cY s then ⟨7,0,0,0,0,0⟩ else ⟨OL ws (bz ws s),lq ws s,du ws (v7 ws (bz ws s)),d7 ws (v7 ws (bz ws s)),0,0⟩
def Jq(ws:List ByteArray)(s:PS):PS:=aF ws gY (q9 ws (aF ws fh s))
def fB(ws:List ByteArray)(s:PS):PS:=bY (zx ws (aF ws fh s)) (Jq ws s)
def BW(ws:List ByteArray)(s:PS):Bool:=du ws s==1&&bH ws gL (bU ws s)
def mR(ws:List ByteArray)(s:PS):PS:=if bH ws mV s then s.adv else if BW ws s then aF ws kN (bU ws s).adv else bU ws s
def uD(ws:List ByteArray)(v:Nat)(s:PS):Nd:=if bH ws mV s then ⟨4,v,0,0,0,0⟩ else if BW ws s then ⟨2,v,du ws s,d7 ws s,0,0⟩ else ⟨1,v,du ws s,d7 ws s,0,0⟩
def xh(ws:List ByteArray)(s:PS):PS:=aF ws fQ (aF ws kN s.adv)
def gp(ws:List ByteArray)(s:PS):PS :=
 if bH ws f8 s then s.adv else if bH ws ie s then bz ws s.adv else if bH ws gL (bz ws s) then bU ws (xh ws (bz ws s)) else mR ws (aF ws fQ (bz ws s))
def jt(ws:List ByteArray)(s:PS):Nd :=
 if bH ws f8 s then ⟨6,0,0,0,0,0⟩ else if bH ws ie s then ⟨5,lq ws s.adv,0,0,0,0⟩ else
 if bH ws gL (bz ws s) then ⟨3,lq ws s,du ws (xh ws (bz ws s)),d7 ws (xh ws (bz ws s)),0,0⟩ else uD ws (lq ws s) (aF ws fQ (bz ws s))
section
variable {B:Nat} {WV:Value} {w:World} {P:Nat} {ws:List ByteArray} {s:PS} {F:List Nat}
theorem vh(h:d9 B WV w P ws s F):
  Calls prog 247 #[.pointer (some ⟨P,0,none⟩)] w λe w'=>e=.returned (.agg (zx ws s).cells.toArray)/\∃F',d9 B WV w' P ws (q9 ws s) F'/\aq F w F' w':=by
 have HQ:=ab h;clear h;cases hb:bH ws cY s with
 |true =>
  have HN:Hid (zx ws s=⟨7,0,0,0,0,0⟩):=ab (if_pos hb);have HS:Hid (q9 ws s=s.adv):=ab (if_pos hb);have HE:Hid (kq ws cY s=s.adv):=ab (if_pos hb);have HB:=ab hb;clear hb;go_enter func247,ntmps247;have kP:=λo=>ab (az cY (by decide) ((uh HQ).alloc o));simp only[uh HB,uh HE]at kP;go_wp2_with fail
  refine(uh (kP _)).mono ?_;rintro e w1 ⟨rfl,dy,bN⟩;have lI:=((aq.refl F w).alloc _).trans bN;obtain⟨eC,dR,vu⟩:=bD (uh HQ).m bN;have ik:=ab eC;have ep:=ab dy;have cg:=ab lI;clear dy bN lI eC;obtain⟨⟨qr0,qr1,qr2,qr3,qr4,qr5⟩,zr0,zr1,zr2,zr3,zr4,zr5⟩:=fG (uh ik);clear ik;go_wp2_with fail
  refine bodyPost_ret (v:=.agg #[.int .i64 7,.int .i64 0,.int .i64 0,.int .i64 0,.int .i64 0,.int .i64 0]) (by simp[results,Tryz.results247,go_sem,qr0,qr1,qr2,qr3,qr4,qr5]) rfl ⟨by rw[uh HN];rfl,F,?_,?_⟩
  .rw[uh HS];exact(((((((uh ep).setOther dR _).setOther dR _).setOther dR _).setOther dR _).setOther dR _).setOther dR _)
  .exact(((((((uh cg).setCell (zq1 (zq4 _)) _).setCell (zq1 (zq4 _)) _).setCell (zq1 (zq4 _)) _).setCell (zq1 (zq4 _)) _).setCell (zq1 (zq4 _)) _).setCell (zq1 (zq4 _)) _)
 |false =>
  have HE:Hid (kq ws cY s=s):=ab (if_neg (by simp[hb]));have HN:Hid (zx ws s=⟨OL ws (bz ws s),lq ws s,du ws (v7 ws (bz ws s)),d7 ws (v7 ws (bz ws s)),0,0⟩):=ab (if_neg (by simp[hb]));have HS:Hid (q9 ws s=bU ws (v7 ws (bz ws s))):=ab (if_neg (by simp[hb]));have HB:=ab hb;clear hb;cases aR:bH ws qR (bz ws s) with
  |true =>
   have HO:Hid (OL ws (bz ws s)=9):=ab (if_pos aR);have HT:Hid (v7 ws (bz ws s)=(bz ws s).adv):=ab (if_pos aR);have vJ:Hid (kq ws qR (bz ws s)=(bz ws s).adv):=ab (if_pos aR);have dS:=ab aR;clear aR;rw[uh HO,uh HT]at HN;rw[uh HT]at HS;go_enter func247,ntmps247;have kP:=λo=>ab (az cY (by decide) ((uh HQ).alloc o));simp only[uh HB,uh HE]at kP;go_wp2_with fail
   refine(uh (kP _)).mono ?_;rintro e w1 ⟨rfl,dy,bN⟩;have lI:=((aq.refl F w).alloc _).trans bN;obtain⟨eC,dR,vu⟩:=bD (uh HQ).m bN;have ik:=ab eC;have ep:=ab dy;have cg:=ab lI;clear dy bN lI eC;go_wp2_with fail
   refine(ei (uh ep)).mono ?_;rintro e w2 ⟨rfl,F2,bX,bO⟩;obtain⟨iM,jP,AH⟩:=ax (uh ik) dR bO;have mO:=ab iM;have dJ:=ab bX;have cj:=ab ((uh cg).trans bO);clear bX bO iM;have Co:=az qR (by decide) (uh dJ);rw[uh dS,uh vJ]at Co;replace Co:=ab Co
   go_wp2_with fail
   refine(uh Co).mono ?_;rintro e w3 ⟨rfl,eI,cF⟩;obtain⟨jL,iO,Id⟩:=ax (uh mO) jP cF;have nD:=ab jL;have hU:=ab eI;have gW:=ab ((uh cj).trans cF);clear eI cF jL;go_wp2_with fail
   refine(gq (uh hU)).mono ?_;rintro e w4 ⟨rfl,F4,kU,el⟩;obtain⟨oJ,kD,L7⟩:=ax (uh nD) iO el;have sl:=ab oJ;have mP:=ab kU;have k6:=ab ((uh gW).trans el);clear kU el oJ;obtain⟨⟨qr0,qr1,qr2,qr3,qr4,qr5⟩,zr0,zr1,zr2,zr3,zr4,zr5⟩:=fG (uh sl);clear sl;go_wp2_with fail
   refine bodyPost_ret (v:=.agg #[.int .i64 9,.int .i64 (lq ws s),.int .i64 (du ws (bz ws s).adv),.int .i64 (d7 ws (bz ws s).adv),.int .i64 0,.int .i64 0]) (by simp[results,Tryz.results247,go_sem,cell?_alloc_past,L7,qr0,qr1,qr2,qr3,qr4,qr5]) rfl ⟨by rw[uh HN];rfl,F4,?_,?_⟩
   .rw[uh HS];exact(((((((uh mP).setOther kD _).setOther kD _).setOther kD _).setOther kD _).setOther kD _).setOther kD _).alloc _
   .exact(((((((uh k6).setCell (zq1 (zq4 _)) _).setCell (zq1 (zq4 _)) _).setCell (zq1 (zq4 _)) _).setCell (zq1 (zq4 _)) _).setCell (zq1 (zq4 _)) _).setCell (zq1 (zq4 _)) _).alloc _
  |false =>
   have HO:Hid (OL ws (bz ws s)=8):=ab (if_neg (by simp[aR]));have HT:Hid (v7 ws (bz ws s)=aF ws fQ (bz ws s)):=ab (if_neg (by simp[aR]));have vJ:Hid (kq ws qR (bz ws s)=bz ws s):=ab (if_neg (by simp[aR]));have dS:=ab aR;clear aR;rw[uh HO,uh HT]at HN;rw[uh HT]at HS;go_enter func247,ntmps247;have kP:=λo=>ab (az cY (by decide) ((uh HQ).alloc o));simp only[uh HB,uh HE]at kP;go_wp2_with fail
   refine(uh (kP _)).mono ?_;rintro e w1 ⟨rfl,dy,bN⟩;have lI:=((aq.refl F w).alloc _).trans bN;obtain⟨eC,dR,vu⟩:=bD (uh HQ).m bN;have ik:=ab eC;have ep:=ab dy;have cg:=ab lI;clear dy bN lI eC;go_wp2_with fail
   refine(ei (uh ep)).mono ?_;rintro e w2 ⟨rfl,F2,bX,bO⟩;obtain⟨iM,jP,AH⟩:=ax (uh ik) dR bO;have mO:=ab iM;have dJ:=ab bX;have cj:=ab ((uh cg).trans bO);clear bX bO iM;have Co:=az qR (by decide) (uh dJ);rw[uh dS,uh vJ]at Co;replace Co:=ab Co
   go_wp2_with fail
   refine(uh Co).mono ?_;rintro e w3 ⟨rfl,eI,cF⟩;obtain⟨jL,iO,Id⟩:=ax (uh mO) jP cF;have nD:=ab jL;have hU:=ab eI;have gW:=ab ((uh cj).trans cF);clear eI cF jL;go_wp2_with fail
   refine(aX fQ (by decide) (uh hU)).mono ?_;rintro e w4 ⟨rfl,kU,el⟩;obtain⟨oJ,kD,L7⟩:=ax (uh nD) iO el;have sl:=ab oJ;have mP:=ab kU;have k6:=ab ((uh gW).trans el);clear kU el oJ;go_wp2_with fail
   refine(gq (uh mP)).mono ?_;rintro e w5 ⟨rfl,F5,qg,eY⟩;obtain⟨AA,vx,WA⟩:=ax (uh sl) kD eY;have GG:=ab AA;have Ec:=ab qg;have qZ:=ab ((uh k6).trans eY);clear qg eY AA;obtain⟨⟨qr0,qr1,qr2,qr3,qr4,qr5⟩,zr0,zr1,zr2,zr3,zr4,zr5⟩:=fG (uh GG);clear GG;go_wp2_with fail
   refine bodyPost_ret (v:=.agg #[.int .i64 8,.int .i64 (lq ws s),.int .i64 (du ws (aF ws fQ (bz ws s))),.int .i64 (d7 ws (aF ws fQ (bz ws s))),.int .i64 0,.int .i64 0]) (by simp[results,Tryz.results247,go_sem,cell?_alloc_past,WA,qr0,qr1,qr2,qr3,qr4,qr5]) rfl ⟨by rw[uh HN];rfl,F5,?_,?_⟩
   .rw[uh HS];exact(((((((uh Ec).setOther vx _).setOther vx _).setOther vx _).setOther vx _).setOther vx _).setOther vx _).alloc _
   .exact(((((((uh qZ).setCell (zq1 (zq4 _)) _).setCell (zq1 (zq4 _)) _).setCell (zq1 (zq4 _)) _).setCell (zq1 (zq4 _)) _).setCell (zq1 (zq4 _)) _).setCell (zq1 (zq4 _)) _).alloc _
end
section
variable {ws:List ByteArray} {s:PS}
theorem bn(k:ByteArray):(aF ws k s).nodes=s.nodes:=by unfold aF;split <;> rfl
theorem j7:(bz ws s).nodes=s.nodes:=by unfold bz;split <;> rfl
theorem iZ:(bU ws s).nodes=s.nodes:=by unfold bU;split;rfl;exact j7
theorem mL:(eu ws s).nodes=s.nodes:=by unfold eu;split;rfl;exact iZ
theorem GW:(v7 ws s).nodes=s.nodes:=by unfold v7;split;rfl;exact bn _
theorem GV:(q9 ws s).nodes=s.nodes:=by unfold q9;split;rfl;rw[iZ,GW,j7]
theorem qA:(Jq ws s).nodes=s.nodes:=by unfold Jq;rw[bn,GV,bn]
theorem GR:(mR ws s).nodes=s.nodes:=by unfold mR;split;rfl;split;rw[bn];exact iZ;exact iZ
theorem xi:(gp ws s).nodes=s.nodes:=by
 unfold gp;split;rfl;split;rw[j7];rfl;split
 .rw[iZ];unfold xh;rw[bn,bn];exact j7
 .rw[GR,bn,j7]
end
section
variable {B:Nat} {WV:Value} {w:World} {P:Nat} {ws:List ByteArray} {s:PS} {F:List Nat}
theorem ut(hn:s.nodes.length<=100000)(h:d9 B WV w P ws s F):
  Calls prog 214 #[.pointer (some ⟨P,0,none⟩)] w λe w'=>e=.returned (.int .i64 s.nodes.length)/\∃F',d9 B WV w' P ws (fB ws s) F'/\aq F w F' w':=by
 have HQ:=ab h;clear h;go_enter func214,ntmps214;go_wp2_with fail
 refine(aX fh (by decide) (uh HQ)).mono ?_;rintro e w1 ⟨rfl,dy,bN⟩;have ep:=ab dy;have cg:=ab bN;clear dy bN;go_wp2_with fail
 refine(vh (uh ep)).mono ?_;rintro e w2 ⟨rfl,F2,bX,bO⟩;have dJ:=ab bX;have cj:=ab ((uh cg).trans bO);clear bX bO;obtain⟨A0,zA⟩:∃A0,A0=zx ws (aF ws fh s):=⟨_,rfl⟩;have YQ:=ab zA;rw[<-zA];clear zA;obtain⟨n0,n1,n2,n3,n4,n5⟩:=A0;simp only[Nd.cells];go_wp2_with fail
 refine(aX gY (by decide) ((uh dJ).alloc _)).mono ?_;rintro e w3 ⟨rfl,eI,cF⟩;have C3:=((aq.refl F2 w2).alloc _).trans cF;obtain⟨abT,anM,anD⟩:=bD (uh dJ).m cF;have afB:=ab abT;have hU:=ab eI;have gW:=ab ((uh cj).trans C3);clear eI cF C3 abT;obtain⟨⟨q0,q1,q2,q3,q4,q5⟩,_⟩:=fG (uh afB);have C4:=rE ⟨n0,n1,n2,n3,n4,n5⟩ (uh hU) (by show(Jq ws s).nodes.length<=100000;rw[qA];exact hn);simp only[Nd.cells]at C4;have Ur:=ab C4;clear C4;go_wp2_with fail
 refine(uh Ur).mono ?_;rintro e w4 ⟨rfl,F4,kU,el⟩;have mP:=ab kU;have k6:=ab ((uh gW).trans el);clear kU el;go_wp2_with fail
 go_ret;refine⟨bj (by show(((Jq ws s).nodes.length:Nat):Int)=_;rw[qA]),F4,?_,uh k6⟩;unfold fB;rw[<-uh YQ];exact uh mP
theorem sJ(v:Nat)(h:d9 B WV w P ws s F):
  Calls prog 216 #[.pointer (some ⟨P,0,none⟩),.int .i64 (v:Int)] w λe w'=>e=.returned (.agg (uD ws v s).cells.toArray)/\∃F',d9 B WV w' P ws (mR ws s) F'/\aq F w F' w':=by
 have HQ:=ab h;clear h;cases hb:bH ws mV s with
 |true =>
  have HN:Hid (uD ws v s=⟨4,v,0,0,0,0⟩):=ab (if_pos hb);have HS:Hid (mR ws s=s.adv):=ab (if_pos hb);have HE:Hid (kq ws mV s=s.adv):=ab (if_pos hb);have HB:=ab hb;clear hb;go_enter func216,ntmps216;have kP:=λo=>ab (az mV (by decide) ((uh HQ).alloc o));simp only[uh HB,uh HE]at kP;go_wp2_with fail
  refine(uh (kP _)).mono ?_;rintro e w1 ⟨rfl,dy,bN⟩;have lI:=((aq.refl F w).alloc _).trans bN;obtain⟨eC,dR,vu⟩:=bD (uh HQ).m bN;have ik:=ab eC;have ep:=ab dy;have cg:=ab lI;clear dy bN lI eC;obtain⟨⟨qr0,qr1,qr2,qr3,qr4,qr5⟩,zr0,zr1,zr2,zr3,zr4,zr5⟩:=fG (uh ik);clear ik;go_wp2_with fail
  refine bodyPost_ret (v:=.agg #[.int .i64 4,.int .i64 v,.int .i64 0,.int .i64 0,.int .i64 0,.int .i64 0]) (by simp[results,Tryz.results216,go_sem,qr0,qr1,qr2,qr3,qr4,qr5]) rfl ⟨by rw[uh HN];rfl,F,?_,?_⟩
  .rw[uh HS];exact(((((((uh ep).setOther dR _).setOther dR _).setOther dR _).setOther dR _).setOther dR _).setOther dR _)
  .exact(((((((uh cg).setCell (zq1 (zq4 _)) _).setCell (zq1 (zq4 _)) _).setCell (zq1 (zq4 _)) _).setCell (zq1 (zq4 _)) _).setCell (zq1 (zq4 _)) _).setCell (zq1 (zq4 _)) _)
 |false =>
  have HE:Hid (kq ws mV s=s):=ab (if_neg (by simp[hb]));have HB:=ab hb;cases hk:(du ws s==1) with
  |false =>
   have HN:Hid (uD ws v s=⟨1,v,du ws s,d7 ws s,0,0⟩):=ab (by unfold uD BW;rw[hb,hk];rfl);have HS:Hid (mR ws s=bU ws s):=ab (by unfold mR BW;rw[hb,hk];rfl);have hkf:(((du ws s:Nat):Int)==1)=false:=(by simp at hk ⊢;omega);clear hb hk;go_enter func216,ntmps216;have kP:=λo=>ab (az mV (by decide) ((uh HQ).alloc o));simp only[uh HB,uh HE]at kP;go_wp2_with fail
   refine(uh (kP _)).mono ?_;rintro e w1 ⟨rfl,dy,bN⟩;have lI:=((aq.refl F w).alloc _).trans bN;obtain⟨eC,dR,vu⟩:=bD (uh HQ).m bN;have ik:=ab eC;have ep:=ab dy;have cg:=ab lI;clear dy bN lI eC;go_wp2_with fail
   refine(gq (uh ep)).mono ?_;rintro e w2 ⟨rfl,F2,bX,bO⟩;obtain⟨iM,jP,AH⟩:=ax (uh ik) dR bO;have mO:=ab iM;have dJ:=ab bX;have cj:=ab ((uh cg).trans bO);clear bX bO iM;obtain⟨⟨qr0,qr1,qr2,qr3,qr4,qr5⟩,zr0,zr1,zr2,zr3,zr4,zr5⟩:=fG (uh mO);clear mO;go_wp2_with fail
   refine bodyPost_ret (v:=.agg #[.int .i64 1,.int .i64 v,.int .i64 (du ws s),.int .i64 (d7 ws s),.int .i64 0,.int .i64 0]) (by simp[results,Tryz.results216,go_sem,cell?_alloc_past,AH,qr0,qr1,qr2,qr3,qr4,qr5]) rfl ⟨by rw[uh HN];rfl,F2,?_,?_⟩
   .rw[uh HS];exact(((((((uh dJ).setOther jP _).setOther jP _).setOther jP _).setOther jP _).setOther jP _).setOther jP _).alloc _
   .exact(((((((uh cj).setCell (zq1 (zq4 _)) _).setCell (zq1 (zq4 _)) _).setCell (zq1 (zq4 _)) _).setCell (zq1 (zq4 _)) _).setCell (zq1 (zq4 _)) _).setCell (zq1 (zq4 _)) _).alloc _
  |true =>
   have hkt:(((du ws s:Nat):Int)==1)=true:=(by simp at hk ⊢;omega);cases hd:bH ws gL (bU ws s) with
   |false =>
    have HN:Hid (uD ws v s=⟨1,v,du ws s,d7 ws s,0,0⟩):=ab (by unfold uD BW;rw[hb,hk,hd];rfl);have HS:Hid (mR ws s=bU ws s):=ab (by unfold mR BW;rw[hb,hk,hd];rfl);have vJ:Hid (kq ws gL (bU ws s)=bU ws s):=ab (if_neg (by simp[hd]));have dS:=ab hd;clear hb hk hd;go_enter func216,ntmps216;have kP:=λo=>ab (az mV (by decide) ((uh HQ).alloc o));simp only[uh HB,uh HE]at kP;go_wp2_with fail
    refine(uh (kP _)).mono ?_;rintro e w1 ⟨rfl,dy,bN⟩;have lI:=((aq.refl F w).alloc _).trans bN;obtain⟨eC,dR,vu⟩:=bD (uh HQ).m bN;have ik:=ab eC;have ep:=ab dy;have cg:=ab lI;clear dy bN lI eC;go_wp2_with fail
    refine(gq (uh ep)).mono ?_;rintro e w2 ⟨rfl,F2,bX,bO⟩;obtain⟨iM,jP,AH⟩:=ax (uh ik) dR bO;have mO:=ab iM;have dJ:=ab bX;have cj:=ab ((uh cg).trans bO);clear bX bO iM;have Co:=λo=>ab (az gL (by decide) ((uh dJ).alloc o));simp only[uh dS,uh vJ]at Co;go_wp2_with fail
    refine(uh (Co _)).mono ?_;rintro e w3 ⟨rfl,eI,cF⟩;have C3:=((aq.refl F2 w2).alloc _).trans cF;obtain⟨jL,iO,Id⟩:=ax (uh mO) jP C3;obtain⟨Hu,acF,ahJ⟩:=bD (uh dJ).m cF;have nD:=ab jL;have Uw:=ab Hu;have hU:=ab eI;have gW:=ab ((uh cj).trans C3);clear eI cF C3 jL Hu;obtain⟨⟨qr0,qr1,qr2,qr3,qr4,qr5⟩,zr0,zr1,zr2,zr3,zr4,zr5⟩:=fG (uh nD);clear nD;obtain⟨⟨qb0,qb1⟩,zb0,zb1⟩:=ju (uh Uw);go_wp2_with fail
    refine bodyPost_ret (v:=.agg #[.int .i64 1,.int .i64 v,.int .i64 (du ws s),.int .i64 (d7 ws s),.int .i64 0,.int .i64 0]) (by simp[results,Tryz.results216,go_sem,qr0,qr1,qr2,qr3,qr4,qr5]) rfl ⟨by rw[uh HN];rfl,F2,?_,?_⟩
    .rw[uh HS];exact(((((((uh hU).setOther iO _).setOther iO _).setOther iO _).setOther iO _).setOther iO _).setOther iO _)
    .exact(((((((uh gW).setCell (zq1 (zq4 _)) _).setCell (zq1 (zq4 _)) _).setCell (zq1 (zq4 _)) _).setCell (zq1 (zq4 _)) _).setCell (zq1 (zq4 _)) _).setCell (zq1 (zq4 _)) _)
   |true =>
    have HN:Hid (uD ws v s=⟨2,v,du ws s,d7 ws s,0,0⟩):=ab (by unfold uD BW;rw[hb,hk,hd];rfl);have HS:Hid (mR ws s=aF ws kN (bU ws s).adv):=ab (by unfold mR BW;rw[hb,hk,hd];rfl);have vJ:Hid (kq ws gL (bU ws s)=(bU ws s).adv):=ab (if_pos hd);have dS:=ab hd;clear hb hk hd;go_enter func216,ntmps216;have kP:=λo=>ab (az mV (by decide) ((uh HQ).alloc o));simp only[uh HB,uh HE]at kP;go_wp2_with fail
    refine(uh (kP _)).mono ?_;rintro e w1 ⟨rfl,dy,bN⟩;have lI:=((aq.refl F w).alloc _).trans bN;obtain⟨eC,dR,vu⟩:=bD (uh HQ).m bN;have ik:=ab eC;have ep:=ab dy;have cg:=ab lI;clear dy bN lI eC;go_wp2_with fail
    refine(gq (uh ep)).mono ?_;rintro e w2 ⟨rfl,F2,bX,bO⟩;obtain⟨iM,jP,AH⟩:=ax (uh ik) dR bO;have mO:=ab iM;have dJ:=ab bX;have cj:=ab ((uh cg).trans bO);clear bX bO iM;have Co:=λo=>ab (az gL (by decide) ((uh dJ).alloc o));simp only[uh dS,uh vJ]at Co;go_wp2_with fail
    refine(uh (Co _)).mono ?_;rintro e w3 ⟨rfl,eI,cF⟩;have C3:=((aq.refl F2 w2).alloc _).trans cF;obtain⟨jL,iO,Id⟩:=ax (uh mO) jP C3;obtain⟨Hu,acF,ahJ⟩:=bD (uh dJ).m cF;have nD:=ab jL;have Uw:=ab Hu;have hU:=ab eI;have gW:=ab ((uh cj).trans C3);clear eI cF C3 jL Hu;go_wp2_with fail
    refine(aX kN (by decide) (uh hU)).mono ?_;rintro e w4 ⟨rfl,kU,el⟩;obtain⟨oJ,kD,L7⟩:=ax (uh nD) iO el;obtain⟨Wj,anO,anE⟩:=ax (uh Uw) acF el;have sl:=ab oJ;have afC:=ab Wj;have mP:=ab kU;have k6:=ab ((uh gW).trans el);clear kU el oJ Wj;obtain⟨⟨qr0,qr1,qr2,qr3,qr4,qr5⟩,zr0,zr1,zr2,zr3,zr4,zr5⟩:=fG (uh sl);clear sl;obtain⟨⟨qb0,qb1⟩,zb0,zb1⟩:=ju (uh afC);go_wp2_with fail
    refine bodyPost_ret (v:=.agg #[.int .i64 2,.int .i64 v,.int .i64 (du ws s),.int .i64 (d7 ws s),.int .i64 0,.int .i64 0]) (by simp[results,Tryz.results216,go_sem,qr0,qr1,qr2,qr3,qr4,qr5]) rfl ⟨by rw[uh HN];rfl,F2,?_,?_⟩
    .rw[uh HS];exact(((((((uh mP).setOther kD _).setOther kD _).setOther kD _).setOther kD _).setOther kD _).setOther kD _)
    .exact(((((((uh k6).setCell (zq1 (zq4 _)) _).setCell (zq1 (zq4 _)) _).setCell (zq1 (zq4 _)) _).setCell (zq1 (zq4 _)) _).setCell (zq1 (zq4 _)) _).setCell (zq1 (zq4 _)) _)
theorem DS(h:d9 B WV w P ws s F):
  Calls prog 188 #[.pointer (some ⟨P,0,none⟩)] w λe w'=>e=.returned (.agg (jt ws s).cells.toArray)/\∃F',d9 B WV w' P ws (gp ws s) F'/\aq F w F' w':=by
 have HQ:=ab h;clear h;cases hb:bH ws f8 s with
 |true =>
  have HN:Hid (jt ws s=⟨6,0,0,0,0,0⟩):=ab (if_pos hb);have HS:Hid (gp ws s=s.adv):=ab (if_pos hb);have HE:Hid (kq ws f8 s=s.adv):=ab (if_pos hb);have HB:=ab hb;clear hb;go_enter func188,ntmps188;have kP:=λo=>ab (az f8 (by decide) ((uh HQ).alloc o));simp only[uh HB,uh HE]at kP;go_wp2_with fail
  refine(uh (kP _)).mono ?_;rintro e w1 ⟨rfl,dy,bN⟩;have lI:=((aq.refl F w).alloc _).trans bN;obtain⟨eC,dR,vu⟩:=bD (uh HQ).m bN;have ik:=ab eC;have ep:=ab dy;have cg:=ab lI;clear dy bN lI eC;obtain⟨⟨qr0,qr1,qr2,qr3,qr4,qr5⟩,zr0,zr1,zr2,zr3,zr4,zr5⟩:=fG (uh ik);clear ik;go_wp2_with fail
  refine bodyPost_ret (v:=.agg #[.int .i64 6,.int .i64 0,.int .i64 0,.int .i64 0,.int .i64 0,.int .i64 0]) (by simp[results,Tryz.results188,go_sem,qr0,qr1,qr2,qr3,qr4,qr5]) rfl ⟨by rw[uh HN];rfl,F,?_,?_⟩
  .rw[uh HS];exact(((((((uh ep).setOther dR _).setOther dR _).setOther dR _).setOther dR _).setOther dR _).setOther dR _)
  .exact(((((((uh cg).setCell (zq1 (zq4 _)) _).setCell (zq1 (zq4 _)) _).setCell (zq1 (zq4 _)) _).setCell (zq1 (zq4 _)) _).setCell (zq1 (zq4 _)) _).setCell (zq1 (zq4 _)) _)
 |false =>
  have HE:Hid (kq ws f8 s=s):=ab (if_neg (by simp[hb]));have HB:=ab hb;cases aR:bH ws ie s with
  |true =>
   have HN:Hid (jt ws s=⟨5,lq ws s.adv,0,0,0,0⟩):=ab (by unfold jt;rw[hb,aR];rfl);have HS:Hid (gp ws s=bz ws s.adv):=ab (by unfold gp;rw[hb,aR];rfl);have vJ:Hid (kq ws ie s=s.adv):=ab (if_pos aR);have dS:=ab aR;clear hb aR;go_enter func188,ntmps188;have kP:=λo=>ab (az f8 (by decide) ((uh HQ).alloc o));simp only[uh HB,uh HE]at kP;go_wp2_with fail
   refine(uh (kP _)).mono ?_;rintro e w1 ⟨rfl,dy,bN⟩;have lI:=((aq.refl F w).alloc _).trans bN;obtain⟨eC,dR,vu⟩:=bD (uh HQ).m bN;have ik:=ab eC;have ep:=ab dy;have cg:=ab lI;clear dy bN lI eC;have j8:=az ie (by decide) (uh ep);rw[uh dS,uh vJ]at j8;replace j8:=ab j8
   go_wp2_with fail
   refine(uh j8).mono ?_;rintro e w2 ⟨rfl,bX,bO⟩;obtain⟨iM,jP,AH⟩:=ax (uh ik) dR bO;have mO:=ab iM;have dJ:=ab bX;have cj:=ab ((uh cg).trans bO);clear bX bO iM;go_wp2_with fail
   refine(ei (uh dJ)).mono ?_;rintro e w3 ⟨rfl,F3,eI,cF⟩;obtain⟨jL,iO,Id⟩:=ax (uh mO) jP cF;have nD:=ab jL;have hU:=ab eI;have gW:=ab ((uh cj).trans cF);clear eI cF jL;obtain⟨⟨qr0,qr1,qr2,qr3,qr4,qr5⟩,zr0,zr1,zr2,zr3,zr4,zr5⟩:=fG (uh nD);clear nD;go_wp2_with fail
   refine bodyPost_ret (v:=.agg #[.int .i64 5,.int .i64 (lq ws s.adv),.int .i64 0,.int .i64 0,.int .i64 0,.int .i64 0]) (by simp[results,Tryz.results188,go_sem,qr0,qr1,qr2,qr3,qr4,qr5]) rfl ⟨by rw[uh HN];rfl,F3,?_,?_⟩
   .rw[uh HS];exact(((((((uh hU).setOther iO _).setOther iO _).setOther iO _).setOther iO _).setOther iO _).setOther iO _)
   .exact(((((((uh gW).setCell (zq1 (zq4 _)) _).setCell (zq1 (zq4 _)) _).setCell (zq1 (zq4 _)) _).setCell (zq1 (zq4 _)) _).setCell (zq1 (zq4 _)) _).setCell (zq1 (zq4 _)) _)
  |false =>
   have vJ:Hid (kq ws ie s=s):=ab (if_neg (by simp[aR]));have dS:=ab aR;cases cU:bH ws gL (bz ws s) with
   |true =>
    have HN:Hid (jt ws s=⟨3,lq ws s,du ws (xh ws (bz ws s)),d7 ws (xh ws (bz ws s)),0,0⟩):=ab (by unfold jt;rw[hb,aR,cU];rfl);have HS:Hid (gp ws s=bU ws (xh ws (bz ws s))):=ab (by unfold gp;rw[hb,aR,cU];rfl);have Z4:Hid (kq ws gL (bz ws s)=(bz ws s).adv):=ab (if_pos cU);have HL:Hid (aF ws fQ (aF ws kN (bz ws s).adv)=xh ws (bz ws s)):=ab rfl;have qY:=ab cU;clear hb aR cU;go_enter func188,ntmps188;have kP:=λo=>ab (az f8 (by decide) ((uh HQ).alloc o));simp only[uh HB,uh HE]at kP;go_wp2_with fail
    refine(uh (kP _)).mono ?_;rintro e w1 ⟨rfl,dy,bN⟩;have lI:=((aq.refl F w).alloc _).trans bN;obtain⟨eC,dR,vu⟩:=bD (uh HQ).m bN;have ik:=ab eC;have ep:=ab dy;have cg:=ab lI;clear dy bN lI eC;have j8:=az ie (by decide) (uh ep);rw[uh dS,uh vJ]at j8;replace j8:=ab j8
    go_wp2_with fail
    refine(uh j8).mono ?_;rintro e w2 ⟨rfl,bX,bO⟩;obtain⟨iM,jP,AH⟩:=ax (uh ik) dR bO;have mO:=ab iM;have dJ:=ab bX;have cj:=ab ((uh cg).trans bO);clear bX bO iM;go_wp2_with fail
    refine(ei (uh dJ)).mono ?_;rintro e w3 ⟨rfl,F3,eI,cF⟩;obtain⟨jL,iO,Id⟩:=ax (uh mO) jP cF;have nD:=ab jL;have hU:=ab eI;have gW:=ab ((uh cj).trans cF);clear eI cF jL;have uX:=az gL (by decide) (uh hU);rw[uh qY,uh Z4]at uX;replace uX:=ab uX
    go_wp2_with fail
    refine(uh uX).mono ?_;rintro e w4 ⟨rfl,kU,el⟩;obtain⟨oJ,kD,L7⟩:=ax (uh nD) iO el;have sl:=ab oJ;have mP:=ab kU;have k6:=ab ((uh gW).trans el);clear kU el oJ;go_wp2_with fail
    refine(aX kN (by decide) (uh mP)).mono ?_;rintro e w5 ⟨rfl,qg,eY⟩;obtain⟨AA,vx,WA⟩:=ax (uh sl) kD eY;have GG:=ab AA;have Ec:=ab qg;have qZ:=ab ((uh k6).trans eY);clear qg eY AA;go_wp2_with fail
    refine(aX fQ (by decide) (uh Ec)).mono ?_;rintro e w6 ⟨rfl,Zg,Hp⟩;rw[uh HL]at Zg;obtain⟨Lx,AM,ahM⟩:=ax (uh GG) vx Hp;have Pj:=ab Lx;have HI6:=ab Zg;have Y2:=ab ((uh qZ).trans Hp);clear Zg Hp Lx;go_wp2_with fail
    refine(gq (uh HI6)).mono ?_;rintro e w7 ⟨rfl,F7,Zh,B4⟩;obtain⟨abV,If,ahN⟩:=ax (uh Pj) AM B4;have ZV:=ab abV;have HI7:=ab Zh;have S1:=ab ((uh Y2).trans B4);clear Zh B4 abV;obtain⟨⟨qr0,qr1,qr2,qr3,qr4,qr5⟩,zr0,zr1,zr2,zr3,zr4,zr5⟩:=fG (uh ZV);clear ZV;go_wp2_with fail
    refine bodyPost_ret (v:=.agg #[.int .i64 3,.int .i64 (lq ws s),.int .i64 (du ws (xh ws (bz ws s))),.int .i64 (d7 ws (xh ws (bz ws s))),.int .i64 0,.int .i64 0]) (by simp[results,Tryz.results188,go_sem,cell?_alloc_past,ahN,qr0,qr1,qr2,qr3,qr4,qr5]) rfl ⟨by rw[uh HN];rfl,F7,?_,?_⟩
    .rw[uh HS];exact(((((((uh HI7).setOther If _).setOther If _).setOther If _).setOther If _).setOther If _).setOther If _).alloc _
    .exact(((((((uh S1).setCell (zq1 (zq4 _)) _).setCell (zq1 (zq4 _)) _).setCell (zq1 (zq4 _)) _).setCell (zq1 (zq4 _)) _).setCell (zq1 (zq4 _)) _).setCell (zq1 (zq4 _)) _).alloc _
   |false =>
    have HN:Hid (jt ws s=uD ws (lq ws s) (aF ws fQ (bz ws s))):=ab (by unfold jt;rw[hb,aR,cU];rfl);have HS:Hid (gp ws s=mR ws (aF ws fQ (bz ws s))):=ab (by unfold gp;rw[hb,aR,cU];rfl);have Z4:Hid (kq ws gL (bz ws s)=bz ws s):=ab (if_neg (by simp[cU]));have qY:=ab cU;clear hb aR cU;go_enter func188,ntmps188;have kP:=λo=>ab (az f8 (by decide) ((uh HQ).alloc o));simp only[uh HB,uh HE]at kP;go_wp2_with fail
    refine(uh (kP _)).mono ?_;rintro e w1 ⟨rfl,dy,bN⟩;have lI:=((aq.refl F w).alloc _).trans bN;obtain⟨eC,dR,vu⟩:=bD (uh HQ).m bN;have ik:=ab eC;have ep:=ab dy;have cg:=ab lI;clear dy bN lI eC;have j8:=az ie (by decide) (uh ep);rw[uh dS,uh vJ]at j8;replace j8:=ab j8
    go_wp2_with fail
    refine(uh j8).mono ?_;rintro e w2 ⟨rfl,bX,bO⟩;obtain⟨iM,jP,AH⟩:=ax (uh ik) dR bO;have mO:=ab iM;have dJ:=ab bX;have cj:=ab ((uh cg).trans bO);clear bX bO iM;go_wp2_with fail
    refine(ei (uh dJ)).mono ?_;rintro e w3 ⟨rfl,F3,eI,cF⟩;obtain⟨jL,iO,Id⟩:=ax (uh mO) jP cF;have nD:=ab jL;have hU:=ab eI;have gW:=ab ((uh cj).trans cF);clear eI cF jL;have uX:=az gL (by decide) (uh hU);rw[uh qY,uh Z4]at uX;replace uX:=ab uX
    go_wp2_with fail
    refine(uh uX).mono ?_;rintro e w4 ⟨rfl,kU,el⟩;obtain⟨oJ,kD,L7⟩:=ax (uh nD) iO el;have sl:=ab oJ;have mP:=ab kU;have k6:=ab ((uh gW).trans el);clear kU el oJ;go_wp2_with fail
    refine(aX fQ (by decide) (uh mP)).mono ?_;rintro e w5 ⟨rfl,qg,eY⟩;obtain⟨AA,vx,WA⟩:=ax (uh sl) kD eY;have GG:=ab AA;have Ec:=ab qg;have qZ:=ab ((uh k6).trans eY);clear qg eY AA;go_wp2_with fail
    refine(sJ (lq ws s) (uh Ec)).mono ?_;rintro e w6 ⟨rfl,F6,Zg,Hp⟩;obtain⟨Lx,AM,ahM⟩:=ax (uh GG) vx Hp;have Pj:=ab Lx;have HI6:=ab Zg;have Y2:=ab ((uh qZ).trans Hp);clear Zg Hp Lx;obtain⟨A0,zA⟩:∃A0,A0=uD ws (lq ws s) (aF ws fQ (bz ws s)):=⟨_,rfl⟩;have YQ:=ab zA;rw[<-zA]at HN ⊢;clear zA;obtain⟨n0,n1,n2,n3,n4,n5⟩:=A0;simp only[Nd.cells];obtain⟨⟨qr0,qr1,qr2,qr3,qr4,qr5⟩,zr0,zr1,zr2,zr3,zr4,zr5⟩:=fG (uh Pj);clear Pj;go_wp2_with fail
    refine bodyPost_ret (v:=.agg #[.int .i64 n0,.int .i64 n1,.int .i64 n2,.int .i64 n3,.int .i64 n4,.int .i64 n5]) (by simp[results,Tryz.results188,go_sem,qr0,qr1,qr2,qr3,qr4,qr5]) rfl ⟨by rw[uh HN];rfl,F6,?_,?_⟩
    .rw[uh HS];exact(((((((uh HI6).setOther AM _).setOther AM _).setOther AM _).setOther AM _).setOther AM _).setOther AM _)
    .exact(((((((uh Y2).setCell (zq1 (zq4 _)) _).setCell (zq1 (zq4 _)) _).setCell (zq1 (zq4 _)) _).setCell (zq1 (zq4 _)) _).setCell (zq1 (zq4 _)) _).setCell (zq1 (zq4 _)) _)
end
def kY:ByteArray:=⟨#[123]⟩
def jG:ByteArray:=⟨#[125]⟩
def ig:ByteArray:=⟨#[59]⟩
def kX:ByteArray:=⟨#[105,102]⟩
def bQ:ByteArray:=⟨#[119,104,105,108,101]⟩
def gM:ByteArray:=⟨#[101,108,115,101]⟩
def dG(k n:Nat)(l:List Nd):List Nd:=l.modify k (λx=>{ x with ot:=n })
def fP(k n:Nat)(l:List Nd):List Nd:=l.modify k (λx=>{ x with nx:=n })
def gK:Nd:=⟨10,0,0,0,0,0⟩
def qT(ws:List ByteArray)(s:PS):PS:=bY (jt ws s) (aF ws ig (gp ws s))
def ch(blk:PS->PS)(ws:List ByteArray)(s:PS):PS:=blk (fB ws (aF ws kX s))
def kf(t:Nat)(s:PS):PS:={ bY gK s.adv with nodes:=dG t (bY gK s.adv).nodes.length (bY gK s.adv).nodes }
def J4(j:Nat)(s:PS):PS:={ s with nodes:=fP j s.nodes.length s.nodes }
def nH(blk:PS->PS)(ws:List ByteArray)(s:PS):PS :=
 if bH ws gM (ch blk ws s) then J4 (ch blk ws s).nodes.length (blk (kf s.nodes.length (ch blk ws s)))
 else { ch blk ws s with nodes:=dG s.nodes.length (ch blk ws s).nodes.length (ch blk ws s).nodes }
def lV(blk:PS->PS)(ws:List ByteArray)(s:PS):PS:=blk (fB ws (aF ws bQ s))
def uV(blk:PS->PS)(ws:List ByteArray)(s:PS):PS :=
 { bY gK (lV blk ws s) with nodes:=dG s.nodes.length (bY gK (lV blk ws s)).nodes.length (fP (lV blk ws s).nodes.length s.nodes.length (bY gK (lV blk ws s)).nodes) }
def jF(blk:PS->PS)(ws:List ByteArray)(s:PS):PS:=if bH ws kX s then nH blk ws s else if bH ws bQ s then uV blk ws s else qT ws s
def io(c:PS->PS)(ws:List ByteArray):Nat->PS->PS
 |0,s=>s
 |n+1,s=>if s.failed||bH ws jG s then s else io c ws n (c s)
def cC(ws:List ByteArray):Nat->PS->PS
 |0,s=>s
 |f+1,s=>aF ws jG (io (jF (cC ws f) ws) ws (ws.length+2) (aF ws kY s))
theorem bK(k n:Nat)(l:List Nd):(dG k n l).length=l.length:=by simp[dG]
theorem cS(k n:Nat)(l:List Nd):(fP k n l).length=l.length:=by simp[fP]
def fb(s:PS):Nat:=if s.failed then 1 else 0
section
variable {ws:List ByteArray} {s:PS}
theorem sG(k:ByteArray)(hk:k.size≠0)(h:s.failed=true):bH ws k s=false:=by
 cases hb:bH ws k s with
 |false=>rfl
 |true=>have:=(wS (ws:=ws) (s:=s) (by rw[ip hb];exact hk)).1;rw[h]at this;cases this
theorem iI(k:ByteArray)(h:(aF ws k s).failed=false):bH ws k s=true/\s.failed=false/\(aF ws k s).pos=s.pos+1:=by
 unfold aF at *;split at h
 .rename_i hb;rw[if_pos hb];exact⟨hb,h,rfl⟩
 .cases h
theorem GZ(k:ByteArray)(hk:k.size≠0)(h:s.failed=true):(aF ws k s).failed=true:=by
 unfold aF;rw[sG k hk h];rfl
theorem n8(h:(bz ws s).failed=false):aI (pk ws s)=true/\s.failed=false/\(bz ws s).pos=s.pos+1:=by
 unfold bz at *;split at h
 .rename_i hb;rw[if_pos hb];exact⟨hb,h,rfl⟩
 .cases h
theorem sj(h:(bU ws s).failed=false):s.failed=false/\(bU ws s).pos=s.pos+1:=by
 unfold bU at *;split at h
 .rename_i hb;rw[if_pos hb];exact⟨h,rfl⟩
 .rename_i hb;rw[if_neg hb];exact(n8 h).2
theorem Vl(h:(q9 ws s).failed=false):s.failed=false:=by
 unfold q9 at h;split at h
 .exact h
 .have h1:=(sj h).1;unfold v7 at h1;split at h1
  .exact(n8 h1).2.1
  .exact(n8 (iI _ h1).2.1).2.1
theorem N8(h:(fB ws s).failed=false):s.failed=false:=(iI _ (Vl (iI _ h).2.1)).2.1
theorem U8(h:(mR ws s).failed=false):s.failed=false:=by
 unfold mR at h;split at h
 .exact h
 .split at h
  .exact(sj (iI _ h).2.1).1
  .exact(sj h).1
theorem Yn(h:(gp ws s).failed=false):s.failed=false/\s.pos<(gp ws s).pos:=by
 unfold gp at *;split at h
 .rename_i hb;rw[if_pos hb];exact⟨h,Nat.lt_succ_self _⟩
 .rename_i hb;rw[if_neg hb];split at h
  .rename_i aR;rw[if_pos aR];exact⟨(n8 h).2.1,by rw[(n8 h).2.2];show s.pos<s.pos+1+1;omega⟩
  .rename_i aR;rw[if_neg aR];split at h
   .rename_i cU;rw[if_pos cU];have h1:=sj h;unfold xh at h1;have h2:=(n8 (iI _ (iI _ h1.1).2.1).2.1).2;refine⟨h2.1,?_⟩;have e1:=gS (ws:=ws) (s:=xh ws (bz ws s));have e2:(bz ws s).adv.pos<=(xh ws (bz ws s)).pos:=zq3 (bZ kN) (bZ fQ);have e3:=cQ (s:=bz ws s);omega
   .rename_i cU;rw[if_neg cU];have h1:=iI _ (U8 h);have h2:=(n8 h1.2.1).2;refine⟨h2.1,?_⟩;have e1:(aF ws fQ (bz ws s)).pos<=(mR ws (aF ws fQ (bz ws s))).pos:=by
     unfold mR;split
     .exact cQ
     .split
      .exact zq3 (zq3 gS cQ) (bZ _)
      .exact gS
    omega
theorem PV:s.pos<=(q9 ws s).pos:=by
 unfold q9;split
 .exact cQ
 .refine zq3 (zq3 (pI (ws:=ws)) ?_) gS;unfold v7;split
  .exact cQ
  .exact bZ _
theorem sg:s.pos<=(fB ws s).pos:=zq3 (zq3 (bZ fh) PV) (bZ gY)
theorem mN:(fB ws s).nodes.length=s.nodes.length+1:=by
 unfold fB bY;simp[qA]
theorem Sc:s.pos<=(gp ws s).pos:=by
 unfold gp;split
 .exact cQ
 .split
  .exact zq3 cQ pI
  .split
   .exact zq3 (zq3 (zq3 (zq3 pI cQ) (bZ kN)) (bZ fQ)) gS
   .refine zq3 (zq3 (pI (ws:=ws)) (bZ (ws:=ws) fQ)) ?_;unfold mR;split
    .exact cQ
    .split
     .exact zq3 (zq3 gS cQ) (bZ _)
     .exact gS
structure Jt(blk:PS->PS):Prop where
 pos:∀s,s.pos<=(blk s).pos
 nodes:∀s,s.nodes.length<=(blk s).nodes.length
 ok:∀s,(blk s).failed=false->s.failed=false
 phi:∀s,(blk s).nodes.length+2*s.pos<=s.nodes.length+2*(blk s).pos+fb (blk s)
theorem wb(s:PS):fb s<=1:=by unfold fb;split <;> omega
theorem wd{s:PS}(h:s.failed=false):fb s=0:=by unfold fb;rw[h];rfl
theorem CP{s:PS}(h:s.failed=true):fb s=1:=by unfold fb;rw[h];rfl
theorem iH{blk:PS->PS}(g:Jt blk):s.pos<=(jF blk ws s).pos/\s.nodes.length<=(jF blk ws s).nodes.length /\
  ((jF blk ws s).failed=false->s.failed=false/\s.pos<(jF blk ws s).pos)/\(jF blk ws s).nodes.length+2*s.pos<=s.nodes.length+2*(jF blk ws s).pos+fb (jF blk ws s):=by
 unfold jF;split
 .rename_i hb;have e1:(aF ws kX s)=s.adv:=if_pos hb;have a1:s.adv.pos=s.pos+1:=rfl;have a2:=sg (ws:=ws) (s:=s.adv);have a3:=mN (ws:=ws) (s:=s.adv);have a4:s.adv.nodes=s.nodes:=rfl;rw[a4]at a3;have eA:ch blk ws s=blk (fB ws s.adv):=by unfold ch;rw[e1]
  have p1:=g.pos (fB ws s.adv);have p2:=g.nodes (fB ws s.adv);have p3:=g.ok (fB ws s.adv);have p4:=g.phi (fB ws s.adv);rw[<-eA]at p1 p2 p3 p4;have ok1:(ch blk ws s).failed=false->s.failed=false:=λh=>N8 (s:=s.adv) (p3 h);unfold nH;split
  .rename_i aR;have okA:(ch blk ws s).failed=false:=(wS (by rw[ip aR];decide)).1;have f0:=wd okA;have b1:(kf s.nodes.length (ch blk ws s)).pos=(ch blk ws s).pos+1:=rfl;have b2:(kf s.nodes.length (ch blk ws s)).nodes.length=(ch blk ws s).nodes.length+1:=(by simp[kf,bK,bY,PS.adv]);have q1:=g.pos (kf s.nodes.length (ch blk ws s));have q2:=g.nodes (kf s.nodes.length (ch blk ws s));have q4:=g.phi (kf s.nodes.length (ch blk ws s));generalize blk (kf s.nodes.length (ch blk ws s))=z at q1 q2 q4;have c1:(J4 (ch blk ws s).nodes.length z).pos=z.pos:=rfl;have c2:(J4 (ch blk ws s).nodes.length z).nodes.length=z.nodes.length:=(by simp[J4,cS]);have c3:fb (J4 (ch blk ws s).nodes.length z)=fb z:=rfl;rw[c1,c2,c3];exact⟨by omega,by omega,λ_=>⟨ok1 okA,by omega⟩,by omega⟩
  .simp only[bK];have c3:fb { ch blk ws s with nodes:=dG s.nodes.length (ch blk ws s).nodes.length (ch blk ws s).nodes }=fb (ch blk ws s):=rfl;rw[c3];have:=wb (ch blk ws s);exact⟨by omega,by omega,λh=>⟨ok1 h,by omega⟩,by omega⟩
 .split
  .rename_i _ hb;have e1:(aF ws bQ s)=s.adv:=if_pos hb;have a1:s.adv.pos=s.pos+1:=rfl;have a2:=sg (ws:=ws) (s:=s.adv);have a3:=mN (ws:=ws) (s:=s.adv);have a4:s.adv.nodes=s.nodes:=rfl;rw[a4]at a3;have eA:lV blk ws s=blk (fB ws s.adv):=(by unfold lV;rw[e1]);have p1:=g.pos (fB ws s.adv);have p2:=g.nodes (fB ws s.adv);have p3:=g.ok (fB ws s.adv);have p4:=g.phi (fB ws s.adv);rw[<-eA]at p1 p2 p3 p4;have ok1:(lV blk ws s).failed=false->s.failed=false:=λh=>N8 (s:=s.adv) (p3 h);have c1:(uV blk ws s).pos=(lV blk ws s).pos:=rfl;have c2:(uV blk ws s).nodes.length=(lV blk ws s).nodes.length+1:=(by simp[uV,bK,cS,bY]);have c3:fb (uV blk ws s)=fb (lV blk ws s):=rfl;have c4:(uV blk ws s).failed=(lV blk ws s).failed:=rfl;rw[c1,c2,c3,c4];exact⟨by omega,by omega,λh=>⟨ok1 h,by omega⟩,by omega⟩
  .have a1:=Sc (ws:=ws) (s:=s);have a2:=bZ (ws:=ws) (s:=gp ws s) ig;have c1:(qT ws s).pos=(aF ws ig (gp ws s)).pos:=rfl;have c2:(qT ws s).nodes.length=s.nodes.length+1:=(by simp[qT,bY,bn,xi]);have c4:(qT ws s).failed=(aF ws ig (gp ws s)).failed:=rfl;cases hf:(qT ws s).failed with
   |true =>
    rw[c1,c2,CP hf];exact⟨by omega,by omega,(λh=>absurd h (by simp)),by omega⟩
   |false =>
    rw[c4]at hf;have h1:=iI _ hf;have h2:=Yn h1.2.1;rw[c1,c2];exact⟨by omega,by omega,λ_=>⟨h2.1,by omega⟩,by omega⟩
theorem Kd{c:PS->PS}(hc:∀s,s.pos<=(c s).pos/\s.nodes.length<=(c s).nodes.length/\((c s).failed=false->s.failed=false)/\(c s).nodes.length+2*s.pos<=s.nodes.length+2*(c s).pos+fb (c s))(n:Nat):
  ∀s,s.pos<=(io c ws n s).pos/\s.nodes.length<=(io c ws n s).nodes.length/\((io c ws n s).failed=false->s.failed=false)/\(io c ws n s).nodes.length+2*s.pos<=s.nodes.length+2*(io c ws n s).pos+fb (io c ws n s):=by
 induction n with
 |zero=>intro s;exact⟨zq4 _,zq4 _,id,by simp only[io];omega⟩
 |succ n ih =>
  intro s;simp only[io];split
  .exact⟨zq4 _,zq4 _,id,by omega⟩
  .obtain⟨a,b,d,e⟩:=ih (c s);obtain⟨a',b',d',e'⟩:=hc s;refine⟨by omega,by omega,λh=>d' (d h),?_⟩;cases hf:(c s).failed with
   |false=>rw[wd hf]at e';omega
   |true =>
    have:fb (io c ws n (c s))=1:=by
     cases hg:(io c ws n (c s)).failed with
     |true=>exact CP hg
     |false=>rw[d hg]at hf;cases hf
    have hn:io c ws n (c s)=c s:=by
     cases n with
     |zero=>rfl
     |succ n=>simp[io,hf]
    rw[hn]at e ⊢;omega
theorem iF(f:Nat):Jt (cC ws f):=by
 induction f with
 |zero=>exact⟨λ_=>zq4 _,λ_=>zq4 _,λ_=>id,λ_=>by simp only[cC];omega⟩
 |succ f ih =>
  have hc:=λn s=>Kd (ws:=ws) (c:=jF (cC ws f) ws) (λs=>⟨(iH ih).1,(iH ih).2.1,λh=>((iH ih).2.2.1 h).1,(iH ih).2.2.2⟩) n s;refine⟨λs=>?_,λs=>?_,λs h=>?_,λs=>?_⟩
  .exact zq3 (zq3 (bZ kY) (hc _ _).1) (bZ jG)
  .simp only[cC,bn];have:=(hc (ws.length+2) (aF ws kY s)).2.1;rw[bn]at this;exact this
  .exact(iI _ ((hc _ _).2.2.1 (iI _ h).2.1)).2.1
  .simp only[cC,bn];have h1:=(hc (ws.length+2) (aF ws kY s)).2.2.2;have h2:=bZ (ws:=ws) (s:=s) kY;rw[bn]at h1;generalize io (jF (cC ws f) ws) ws (ws.length+2) (aF ws kY s)=z at h1 ⊢;have h3:=bZ (ws:=ws) (s:=z) jG;cases hf:z.failed with
   |false=>rw[wd hf]at h1;omega
   |true =>
    have h4:fb (aF ws jG z)=1:=CP (GZ jG (by decide) hf);have h5:=wb z;omega
end
