import Derived.Test.YtciihepbeacppaaGreatM01
set_option maxRecDepth 100000
set_option maxHeartbeats 0
namespace Go.Proofs.YtciihepbeacppaaGreat
open Tryz Go.RowKit List World Below
set_option linter.unusedVariables false
section
variable {P:Program} (w:World)
theorem aK {ops:Array Oper} {rest:List Oper} {o:Oper} {a:Act} {Q:Exit->Act->World->Prop}
  (hg:o.guard=none) (s x:Operand) (t:TypeId) (dV:o.op=Op.call { callee:=Callee.builtin Builtin.append,args:=#[s,x],argTypes:=#[t,t] })
  (base:Nat) (e:TypeId) (i:TypeInfo) (z:Value) (size bytes:Nat) (ht:P.underlying t=some (.slice e)) (hi:P.info? e=some i) (hz:i.zero=some z)
  (iD:i.size=size) (DT:i.bytes=bytes) (Jt:z.cells.size=size) (jO:0<size)
  (v:Value) (n:Nat) (xs:List Value) (hs:a.eval s=v) (aN:w.ownsRow base e size v n xs)
  (ad:Addr) (c:Nat) (news:List Value) (hx:a.eval x=.slice (some ad) 1 c) (hl:news.length=size) (gj:∀j u,news[j]?=some u->w.cell? (ad.add j)=some u) (h1:∀u∈news,u.oneCell'=true)
  (IJ:n+1<=1000000) (hb:bytes<=1000) (jx:base<=w.heap.size)
  (hK:∀g cap w',w'.ownsRow base e size (.slice (some ⟨g,0,none⟩) (n+1) cap) (n+1) (xs++news)->w.grownBy w' v.ownBlock->(some g=v.ownBlock\/g=w.heap.size)->wpList P ops Q rest (a.put o.dst (.slice (some ⟨g,0,none⟩) (n+1) cap)) w') :
  wpList P ops Q (o::rest) a w:=by
 refine wpList_plain hg λK hK'=>?_;obtain⟨v',w',qY,r1,r2,r3,g,cap,rfl⟩:=B5 (P:=P) w base t o.type e i z size bytes ht hi hz iD DT Jt jO v n xs aN ad c news hl gj h1 IJ hb jx;unfold Oper.wp;simp[execOp,dV,resolve,invoke,builtin,hs,hx,qY,Result.andThen];exact hK' _ _ (hK g cap w' r1 r2 (by simpa[Value.ownBlock] using r3))
end
theorem aJ(w:World)(b:Nat)(hb:b=w.heap.size)(xs:List Value)(T:TypeId):∀(j:Nat) (u:Value),xs[j]?=some u->(w.alloc (.cells xs.toArray T)).cell? ((⟨b,0,none⟩:Addr).add j)=some u:=by
 intro j u hj;subst hb;rw[show(⟨w.heap.size,0,none⟩:Addr).add j=⟨w.heap.size,j,none⟩ by unfold Addr.add;split <;> simp_all];rw[cell?_alloc_mark];simpa using hj
theorem bt.one(a:bt):∀u∈a.cells,u.oneCell'=true:=by
 intro u hu;simp[bt.cells]at hu;rcases hu with rfl|rfl|rfl|rfl|rfl <;> rfl
theorem xU(l:List bt)(a:bt):bh (l++[a])=bh l++a.cells:=by simp[bh]
theorem infoAtom:(prog.info? 239).map (λi=>(i.zero,i.size,i.bytes))=some (some (.agg #[.int .i64 0,.int .i64 0,.int .i64 0,.int .i64 0,.int .i64 0]),5,40):=by kernel_rfl
theorem TH(w:World)(b B:Nat)(hb:b=w.heap.size)(hB:B<=w.heap.size)(T:TypeId)(sz:Nat)(xs:List Value)(hx:xs.length=sz):(w.alloc (.cells xs.toArray T)).ownsRow B T sz (.slice (some ⟨b,0,none⟩) 1 1) 1 xs:=by
 subst hb;subst hx;exact⟨by simp,.inr ⟨w.heap.size,1,xs.toArray,rfl,hB,heap_alloc_new w _,zq4 _,by decide,by simp,by simp⟩⟩
section
variable {B:Nat} {WV:Value} {w:World} {P:Nat} {ws:List ByteArray} {s:PS} {F:List Nat} {wv vv hv nv:Value}
theorem oP{w w':World}{B:Nat}{e:TypeId}{sz n:Nat}{v:Value}{xs:List Value}{F F':List Nat}(h:w.ownsRow B e sz v n xs)(hS:am F w F' w')(ho:∀k,v.ownBlock=some k->k ∉ F):w'.ownsRow B e sz v n xs :=
 ae h (λk hk=>hS.block k (h.lt k hk).2 (ho k hk))
theorem JO{w:World}{B:Nat}{e:TypeId}{sz n:Nat}{v:Value}{xs:List Value}(h:w.ownsRow B e sz v n xs)(o o':Obj):((w.alloc o).alloc o').ownsRow B e sz v n xs:=(h.alloc o).alloc o'
theorem IG {wr w3 w4:World} {F2 F3:List Nat} {st':PS} {v:Value} {al:List bt} {o o':Obj} {g n cap:Nat} (hS:am F w F2 wr) (aN:wr.ownsRow w.heap.size 239 5 v al.length (bh al)) (Eg:∀k,v.ownBlock=some k->k ∉ F2)
  (eF:ee B WV w3 P ws st' F3) (cd:am F2 wr F3 w3) (hg:((w3.alloc o).alloc o').grownBy w4 v.ownBlock) (hb:some g=v.ownBlock\/g=w3.heap.size+1+1) :
  ee B WV w4 P ws st' F3/\am F w F3 w4/\∀k,(Value.slice (some ⟨g,0,none⟩) n cap).ownBlock=some k->k ∉ F3:=by
 have Jc:∀k,v.ownBlock=some k->k ∉ F3:=by
  intro k hk hm;rcases cd.foot k hm with h|h
  .exact Eg k hk h
  .have:=(aN.lt k hk).2;omega
 have aiV:=((hS.trans cd).alloc o).alloc o';refine⟨⟨((eF.m.alloc o).alloc o').of_eq (λk hk=>hg.block k (by have:=(eF.m.mem k hk).2;simp;omega) (λe=>Jc k e.symm hk)),eF.f⟩,aiV.grown hg (λk hk=>zq1 (aN.lt k hk).1),?_⟩;intro k hk hm;simp[Value.ownBlock]at hk;subst hk;rcases hb with hb|hb
 .exact Jc g hb.symm hm
 .have:=(eF.m.mem g hm).2;omega
theorem Mj(n:Nat)(h:em ws fi s=false):pj ws n s=([],s):=by
 cases n with
 |zero=>rfl
 |succ n=>simp[pj,h]
theorem XT(n:Nat)(h:em ws fi s=true):pj ws (n+1) s=(FD ws s.adv::(pj ws n (mm ws s.adv)).1,(pj ws n (mm ws s.adv)).2):=by simp[pj,h]
theorem AS(h:ee B WV w P ws s F):
  Calls prog 121 #[.pointer (some ⟨P,0,none⟩)] w λe w'=>∃v F',e=.returned v/\ee B WV w' P ws (F9 ws s) F'/\am F w F' w' /\
   w'.ownsRow w.heap.size 239 5 v (foA ws s).length (bh (foA ws s))/\(∀k,v.ownBlock=some k->k ∉ F'):=by
 obtain⟨i0,hi,dG,du,ef⟩:=info_parts infoAtom;have HQ:=ab h;obtain⟨hl,_,_,_⟩:=h.f;clear h;go_enter func121,ntmps121;go_wp2_with fail
 refine(Av (uh HQ)).mono ?_;rintro e w1 ⟨rfl,F1,cV,bE⟩;have dy:=ab cV;have bC:=ab bE;clear cV bE;obtain⟨A0,vm⟩:∃A0,A0=FD ws s:=⟨_,rfl⟩;have HA0:=ab vm;rw[<-vm];clear vm;obtain⟨k0,k1,k2,k3,k4⟩:=A0;simp only[bt.cells];go_wp2_with fail
 go_loopg [4] (ws.length+1) (λm v wr=>∃(st:PS) (al:List bt) (F2:List Nat),ee B WV wr P ws st F2/\am F w F2 wr/\wr.ownsRow w.heap.size 239 5 v al.length (bh al)/\(∀k,v.ownBlock=some k->k ∉ F2)/\al.length<=st.pos+1 /\
  Hid (ws.length<m+st.pos/\foA ws s=al++(pj ws m st).1/\F9 ws s=(pj ws m st).2))
 case atStart =>
  refine⟨mm ws s,[⟨k0,k1,k2,k3,k4⟩],F1,((uh dy).alloc _).alloc _,((uh bC).alloc _).alloc _,?_,?_,by simp,?_⟩
  .have akh:=(uh bC).size;exact gu (TH (w1.alloc _) (w1.heap.size+1) w.heap.size (by simp) (by simp;omega) _ 5 [.int .i64 k0,.int .i64 k1,.int .i64 k2,.int .i64 k3,.int .i64 k4] rfl) rfl (by simp[bh,bt.cells])
  .intro k hk hm;simp[Value.ownBlock]at hk;have:=((uh dy).m.mem k hm).2;omega
  .exact⟨by omega,by rw[foA,<-uh HA0];rfl,rfl⟩
 case round =>
  obtain⟨st,al,F2,hI,hS,aN,Eg,dg,adY⟩:=hrel;obtain⟨_,tt,_,_⟩:=hI.f;have HI:=ab hI;have HS:=ab hS;have QJ:=ab aN;have QI:=ab Eg;have HA:=aB fi (by decide) hI;clear hI hS aN Eg;cases hb:em ws fi st with
  |false =>
   have qe:Hid (jR ws fi st=st):=ab (if_neg (by simp[hb]));rw[hb,uh qe]at HA;replace HA:=ab HA
   have HB:=ab hb;clear hb;go_wp2_with fail
   refine(uh HA).mono ?_;rintro e w2 ⟨rfl,bT,bK⟩;have db:=ab bT;have bz:=ab bK;clear bT bK;go_wp2_with fail
   go_ret;obtain⟨_,VI,nD⟩:=uh adY;rw[Mj _ (uh HB)]at VI nD;refine⟨_,F2,rfl,by rw[nD];exact uh db,(uh HS).trans (uh bz),?_,uh QI⟩;rw[VI,append_nil];exact ae (uh QJ) (λk hk=>(uh bz).block k ((uh QJ).lt k hk).2 (uh QI k hk))
  |true =>
   have qe:Hid (jR ws fi st=st.adv):=ab (if_pos hb);rw[hb,uh qe]at HA;replace HA:=ab HA
   have HB:=ab hb;have aqx:st.pos<ws.length:=KT (by decide) hb;clear hb;go_wp2_with fail
   refine(uh HA).mono ?_;rintro e w2 ⟨rfl,bT,bK⟩;have db:=ab bT;have bz:=ab bK;clear bT bK;go_wp2_with fail
   refine(Av (uh db)).mono ?_;rintro e w3 ⟨rfl,F3,eF,cd⟩;have gI:=ab eF;have dd:=ab ((uh bz).trans cd);clear eF cd;obtain⟨A1,hA1⟩:∃A1,A1=FD ws st.adv:=⟨_,rfl⟩;have ki:=ab hA1;rw[<-hA1];clear hA1;obtain⟨j0,j1,j2,j3,j4⟩:=A1;simp only[bt.cells];go_wp2_with (at_builtin;refine aK _ rfl (.tmp 14) (.tmp 16) 102 rfl w.heap.size 239 i0 _ 5 40 underlying102 hi dG du ef rfl (by decide) _ al.length (bh al) rfl (JO (oP (uh QJ) (uh dd) (uh QI)) _ _) ⟨_,0,none⟩ 1 [.int .i64 j0,.int .i64 j1,.int .i64 j2,.int .i64 j3,.int .i64 j4] rfl rfl ?c1 ?c2 ?c3 ?c4 ?c5 ?_)
   case c1=>exact aJ (w3.alloc _) _ (by simp) [.int .i64 j0,.int .i64 j1,.int .i64 j2,.int .i64 j3,.int .i64 j4] _
   case c2=>exact bt.one ⟨j0,j1,j2,j3,j4⟩
   case c3=>omega
   case c4=>omega
   case c5=>have:=(uh HS).size;have:=(uh dd).size;simp;omega
   intro g cap w4 dO bU gi;have R:=IG (n:=al.length+1) (cap:=cap) (uh HS) (uh QJ) (uh QI) (uh gI) (uh dd) bU gi;have HR:=ab R;have HO4:=ab dO;clear R dO bU gi;go_wp2_with fail
   obtain⟨hfm,VI,nD⟩:=uh adY;obtain⟨m,rfl⟩:∃m,gk=m+1:=⟨gk-1,by omega⟩;rw[XT _ (uh HB),<-uh ki]at VI nD;go_roundg m
   case measure=>omega
   case rel =>
    have Bs:=Q2 (ws:=ws) (s:=st.adv);have SP:st.adv.pos=st.pos+1:=rfl;refine⟨mm ws st.adv,al++[⟨j0,j1,j2,j3,j4⟩],F3,(uh HR).1,(uh HR).2.1,?_,(uh HR).2.2,by simp;omega,⟨by omega,?_,nD⟩⟩
    .exact gu (uh HO4) (by simp) (by rw[xU];rfl)
    .rw[VI];simp
end
def dZ(nd:Nd)(s:PS):PS:={ s with nodes:=s.nodes++[{ nd with nx:=s.nodes.length+1 }] }
theorem bm{w:World}{B:Nat}{e:TypeId}{sz n:Nat}{v:Value}{xs:List Value}(h:w.ownsRow B e sz v n xs):∃ao cap,v=.slice ao n cap:=by
 rcases h.2 with⟨rfl,rfl⟩|⟨g,cap,cur,rfl,_⟩ <;> exact⟨_,_,rfl⟩
theorem Nd.one(a:Nd):∀u∈a.cells,u.oneCell'=true:=by
 intro u hu;simp[Nd.cells]at hu;rcases hu with rfl|rfl|rfl|rfl|rfl|rfl <;> rfl
theorem eY{w:World}{r:Nat}{a b c d e f:Value}{t:TypeId}(h:w.heap[r]?=some (.cells #[a,b,c,d,e,f] t (0,0))):
  (w.cell? ⟨r,0,none⟩=some a/\w.cell? ⟨r,1,none⟩=some b/\w.cell? ⟨r,2,none⟩=some c/\w.cell? ⟨r,3,none⟩=some d/\w.cell? ⟨r,4,none⟩=some e/\w.cell? ⟨r,5,none⟩=some f) /\
  w.frozen? ⟨r,0,none⟩=false/\w.frozen? ⟨r,1,none⟩=false/\w.frozen? ⟨r,2,none⟩=false/\w.frozen? ⟨r,3,none⟩=false/\w.frozen? ⟨r,4,none⟩=false/\w.frozen? ⟨r,5,none⟩=false :=
 ⟨(im h).1,(im h).2 0,(im h).2 1,(im h).2 2,(im h).2 3,(im h).2 4,(im h).2 5⟩
section
variable {B:Nat} {WV:Value} {w:World} {P:Nat} {ws:List ByteArray} {s:PS} {F:List Nat} {wv vv hv nv:Value}
theorem ro(nd:Nd)(h:ee B WV w P ws s F)(hn:s.nodes.length<=100000):
  Calls prog 123 #[.pointer (some ⟨P,0,none⟩),.agg nd.cells.toArray] w λe w'=>e=.returned (.int .i64 s.nodes.length)/\∃F',ee B WV w' P ws (dZ nd s) F'/\am F w F' w':=by
 obtain⟨i0,hi,dG,du,ef⟩:=info_parts infoNode;have HQ:=ab h;obtain⟨n0,n1,n2,n3,n4,n5⟩:=nd;obtain⟨w0,fS⟩:∃w0,w0=w.alloc (.cells #[.int .i64 n0,.int .i64 n1,.int .i64 n2,.int .i64 n3,.int .i64 ((s.nodes.length:Int)+1),.int .i64 n5] 186):=⟨_,rfl⟩;have h0:ee B WV w0 P ws s F:=by rw[fS];exact h.alloc _
 have qe:Hid (am F w F w0):=ab (by rw[fS];exact(am.refl F w).alloc _);have Qk:w0.heap[w.heap.size]?=some (.cells #[.int .i64 n0,.int .i64 n1,.int .i64 n2,.int .i64 n3,.int .i64 ((s.nodes.length:Int)+1),.int .i64 n5] 186 (0,0)):=by rw[fS];exact heap_alloc_new w _
 have Xb:=ab fS;have mI:w.heap.size<w0.heap.size:=by rw[fS];simp
 have WQ:Hid (w.heap.size ∉ F):=ab (λhm=>by have:=(h.m.mem _ hm).2;omega);clear fS;obtain⟨wv,vv,hv,nv,dL⟩:=h.m.named;obtain⟨_,_,_,_,c5,fz⟩:=dL.readsV;obtain⟨ao,cap,rfl⟩:=bm dL.2.2.2.2.2.1;have hPw:P<w.heap.size:=(h.m.mem P h.m.memP).2;have f5:=fz 5;clear h h0 fz;simp only[Nd.cells];go_enter func123,ntmps123;go_wp2_with fail
 rw[<-uh Xb];have Eh:cU B WV w0 P ws s F wv vv hv (.slice ao s.nodes.length cap):=by rw[uh Xb];exact dL.alloc _
 clear c5 f5;obtain⟨_,_,_,_,c5,fz⟩:=Eh.readsV;have f5:=fz 5;obtain⟨⟨q0,q1,q2,q3,q4,q5⟩,_⟩:=eY Qk;have px:=ab Qk;have wN:P<w0.heap.size:=by omega
 have RW:B<=w0.heap.size:=by have:=(Eh.is.mem P Eh.is.memP).1;omega
 have CC:Hid ((Value.slice ao s.nodes.length cap).ownBlock≠some P):=ab (λe=>Eh.apart.1 P (by simp[e]) rfl);have ii:=ab Eh.2.2.2.2.2.1;have mG:∀(b j k:Nat) (o:Obj) (v:Value),b<w0.heap.size->w0.cell? ⟨b,j,none⟩=some v->((w0.drewN k).alloc o).cell? ⟨b,j,none⟩=some v:=λb j k o v hb hv=>(cell?_of_block (a:=⟨b,j,none⟩) (heap_alloc (w0.drewN k) o b hb)).trans hv;have c5a:=λk o=>mG P 5 k o _ wN c5;have q0a:=λk o=>mG _ 0 k o _ mI q0;have q1a:=λk o=>mG _ 1 k o _ mI q1;have q2a:=λk o=>mG _ 2 k o _ mI q2;have q3a:=λk o=>mG _ 3 k o _ mI q3;have q4a:=λk o=>mG _ 4 k o _ mI q4;have q5a:=λk o=>mG _ 5 k o _ mI q5;have HV0:=ab Eh;clear mG fz Eh Qk dL;go_region_law (refine ib _ rfl (.tmp 18) (.tmp 20) 103 rfl B 186 i0 _ 6 48 underlying103 hi dG du ef rfl (by decide) (.slice ao s.nodes.length cap) s.nodes.length (a7 s.nodes) (by simp[Act.eval]) (pY (uh ii) _ _) ⟨w0.heap.size,0,none⟩ 1 [.int .i64 n0,.int .i64 n1,.int .i64 n2,.int .i64 n3,.int .i64 ((s.nodes.length:Int)+1),.int .i64 n5] (by simp[Act.eval]) rfl (aJ (w0.drewN _) _ rfl _ _) (Nd.one ⟨n0,n1,n2,n3,s.nodes.length+1,n5⟩) (by omega) (by omega) (xe RW _ _) ?_;intro g2 cap2 w2 aZ aI cE;have c5':=fP aI wN (uh CC) 5 c5;have f5':=eg aI wN (uh CC) 5 f5;obtain⟨F',X3,Sj⟩:=cU.pushNodes ⟨n0,n1,n2,n3,s.nodes.length+1,n5⟩ ((uh HV0).drewN _) aI aZ cE;have uH:=ab X3;have HS':=ab Sj;clear aZ aI cE X3 Sj)
 all_goals
  go_wp2_with fail
  go_ret;exact⟨rfl,F',⟨uh uH,(uh HQ).f⟩,((uh qe).drewN _).trans (uh HS')⟩
end
def yR:ByteArray:=⟨#[110,101,119]⟩
def pS:ByteArray:=⟨#[46]⟩
def kN:ByteArray:=⟨#[110]⟩
def ou:ByteArray:=⟨#[115,107,105,112]⟩
def qz:ByteArray:=⟨#[102,114,101,101]⟩
def CJ(ws:List ByteArray)(s:PS):PS:=if em ws BC s then s.adv else bB ws om s
def Rk(ws:List ByteArray)(s:PS):Nat:=if em ws BC s then 9 else 8
def vh(ws:List ByteArray)(s:PS):PS:=if em ws fi s then s.adv else dS ws (CJ ws (cG ws s))
def zO(ws:List ByteArray)(s:PS):Nd :=
 if em ws fi s then ⟨7,0,0,0,0,0⟩ else ⟨Rk ws (cG ws s),rg ws s,fE ws (CJ ws (cG ws s)),gU ws (CJ ws (cG ws s)),0,0⟩
def Pm(ws:List ByteArray)(s:PS):PS:=bB ws jh (vh ws (bB ws fI s))
def jq(ws:List ByteArray)(s:PS):PS:=dZ (zO ws (bB ws fI s)) (Pm ws s)
def Q1(ws:List ByteArray)(s:PS):Bool:=fE ws s==1&&em ws pS (dS ws s)
def sG(ws:List ByteArray)(s:PS):PS:=if em ws yR s then s.adv else if Q1 ws s then bB ws kN (dS ws s).adv else dS ws s
def zL(ws:List ByteArray)(v:Nat)(s:PS):Nd:=if em ws yR s then ⟨4,v,0,0,0,0⟩ else if Q1 ws s then ⟨2,v,fE ws s,gU ws s,0,0⟩ else ⟨1,v,fE ws s,gU ws s,0,0⟩
def EY(ws:List ByteArray)(s:PS):PS:=bB ws om (bB ws kN s.adv)
def mx(ws:List ByteArray)(s:PS):PS :=
 if em ws ou s then s.adv else if em ws qz s then cG ws s.adv else if em ws pS (cG ws s) then dS ws (EY ws (cG ws s)) else sG ws (bB ws om (cG ws s))
def nj(ws:List ByteArray)(s:PS):Nd :=
 if em ws ou s then ⟨6,0,0,0,0,0⟩ else if em ws qz s then ⟨5,rg ws s.adv,0,0,0,0⟩ else
 if em ws pS (cG ws s) then ⟨3,rg ws s,fE ws (EY ws (cG ws s)),gU ws (EY ws (cG ws s)),0,0⟩ else zL ws (rg ws s) (bB ws om (cG ws s))
section
variable {B:Nat} {WV:Value} {w:World} {P:Nat} {ws:List ByteArray} {s:PS} {F:List Nat}
theorem vi(h:ee B WV w P ws s F):
  Calls prog 247 #[.pointer (some ⟨P,0,none⟩)] w λe w'=>e=.returned (.agg (zO ws s).cells.toArray)/\∃F',ee B WV w' P ws (vh ws s) F'/\am F w F' w':=by
 have HQ:=ab h;clear h;cases hb:em ws fi s with
 |true =>
  have HN:Hid (zO ws s=⟨7,0,0,0,0,0⟩):=ab (if_pos hb);have HS:Hid (vh ws s=s.adv):=ab (if_pos hb);have HE:Hid (jR ws fi s=s.adv):=ab (if_pos hb);have HB:=ab hb;clear hb;go_enter func247,ntmps247;have ki:=λo=>ab (aB fi (by decide) ((uh HQ).alloc o));simp only[uh HB,uh HE]at ki;go_wp2_with fail
  refine(uh (ki _)).mono ?_;rintro e w1 ⟨rfl,cV,bE⟩;have kW:=((am.refl F w).alloc _).trans bE;obtain⟨ez,dR,vB⟩:=bq (uh HQ).m bE;have gL:=ab ez;have dy:=ab cV;have bC:=ab kW;clear cV bE kW ez;obtain⟨⟨qr0,qr1,qr2,qr3,qr4,qr5⟩,zr0,zr1,zr2,zr3,zr4,zr5⟩:=eY (uh gL);clear gL;go_wp2_with fail
  refine bodyPost_ret (v:=.agg #[.int .i64 7,.int .i64 0,.int .i64 0,.int .i64 0,.int .i64 0,.int .i64 0]) (by simp[results,Tryz.results247,go_sem,qr0,qr1,qr2,qr3,qr4,qr5]) rfl ⟨by rw[uh HN];rfl,F,?_,?_⟩
  .rw[uh HS];exact(((((((uh dy).setOther dR _).setOther dR _).setOther dR _).setOther dR _).setOther dR _).setOther dR _)
  .exact(((((((uh bC).setCell (zq1 (zq4 _)) _).setCell (zq1 (zq4 _)) _).setCell (zq1 (zq4 _)) _).setCell (zq1 (zq4 _)) _).setCell (zq1 (zq4 _)) _).setCell (zq1 (zq4 _)) _)
 |false =>
  have HE:Hid (jR ws fi s=s):=ab (if_neg (by simp[hb]));have HN:Hid (zO ws s=⟨Rk ws (cG ws s),rg ws s,fE ws (CJ ws (cG ws s)),gU ws (CJ ws (cG ws s)),0,0⟩):=ab (if_neg (by simp[hb]));have HS:Hid (vh ws s=dS ws (CJ ws (cG ws s))):=ab (if_neg (by simp[hb]));have HB:=ab hb;clear hb;cases ax:em ws BC (cG ws s) with
  |true =>
   have HO:Hid (Rk ws (cG ws s)=9):=ab (if_pos ax);have HT:Hid (CJ ws (cG ws s)=(cG ws s).adv):=ab (if_pos ax);have ig:Hid (jR ws BC (cG ws s)=(cG ws s).adv):=ab (if_pos ax);have bu:=ab ax;clear ax;rw[uh HO,uh HT]at HN;rw[uh HT]at HS;go_enter func247,ntmps247;have ki:=λo=>ab (aB fi (by decide) ((uh HQ).alloc o));simp only[uh HB,uh HE]at ki;go_wp2_with fail
   refine(uh (ki _)).mono ?_;rintro e w1 ⟨rfl,cV,bE⟩;have kW:=((am.refl F w).alloc _).trans bE;obtain⟨ez,dR,vB⟩:=bq (uh HQ).m bE;have gL:=ab ez;have dy:=ab cV;have bC:=ab kW;clear cV bE kW ez;go_wp2_with fail
   refine(el (uh dy)).mono ?_;rintro e w2 ⟨rfl,F2,bT,bK⟩;obtain⟨iu,jC,Bm⟩:=ay (uh gL) dR bK;have mg:=ab iu;have db:=ab bT;have bz:=ab ((uh bC).trans bK);clear bT bK iu;have C5:=aB BC (by decide) (uh db);rw[uh bu,uh ig]at C5;replace C5:=ab C5
   go_wp2_with fail
   refine(uh C5).mono ?_;rintro e w3 ⟨rfl,eF,cd⟩;obtain⟨jy,iC,Ja⟩:=ay (uh mg) jC cd;have mP:=ab jy;have gI:=ab eF;have dd:=ab ((uh bz).trans cd);clear eF cd jy;go_wp2_with fail
   refine(fV (uh gI)).mono ?_;rintro e w4 ⟨rfl,F4,ko,dA⟩;obtain⟨nY,jY,Ni⟩:=ay (uh mP) iC dA;have sd:=ab nY;have mh:=ab ko;have dW:=ab ((uh dd).trans dA);clear ko dA nY;obtain⟨⟨qr0,qr1,qr2,qr3,qr4,qr5⟩,zr0,zr1,zr2,zr3,zr4,zr5⟩:=eY (uh sd);clear sd;go_wp2_with fail
   refine bodyPost_ret (v:=.agg #[.int .i64 9,.int .i64 (rg ws s),.int .i64 (fE ws (cG ws s).adv),.int .i64 (gU ws (cG ws s).adv),.int .i64 0,.int .i64 0]) (by simp[results,Tryz.results247,go_sem,cell?_alloc_past,Ni,qr0,qr1,qr2,qr3,qr4,qr5]) rfl ⟨by rw[uh HN];rfl,F4,?_,?_⟩
   .rw[uh HS];exact(((((((uh mh).setOther jY _).setOther jY _).setOther jY _).setOther jY _).setOther jY _).setOther jY _).alloc _
   .exact(((((((uh dW).setCell (zq1 (zq4 _)) _).setCell (zq1 (zq4 _)) _).setCell (zq1 (zq4 _)) _).setCell (zq1 (zq4 _)) _).setCell (zq1 (zq4 _)) _).setCell (zq1 (zq4 _)) _).alloc _
  |false =>
   have HO:Hid (Rk ws (cG ws s)=8):=ab (if_neg (by simp[ax]));have HT:Hid (CJ ws (cG ws s)=bB ws om (cG ws s)):=ab (if_neg (by simp[ax]));have ig:Hid (jR ws BC (cG ws s)=cG ws s):=ab (if_neg (by simp[ax]));have bu:=ab ax;clear ax;rw[uh HO,uh HT]at HN;rw[uh HT]at HS;go_enter func247,ntmps247;have ki:=λo=>ab (aB fi (by decide) ((uh HQ).alloc o));simp only[uh HB,uh HE]at ki;go_wp2_with fail
   refine(uh (ki _)).mono ?_;rintro e w1 ⟨rfl,cV,bE⟩;have kW:=((am.refl F w).alloc _).trans bE;obtain⟨ez,dR,vB⟩:=bq (uh HQ).m bE;have gL:=ab ez;have dy:=ab cV;have bC:=ab kW;clear cV bE kW ez;go_wp2_with fail
   refine(el (uh dy)).mono ?_;rintro e w2 ⟨rfl,F2,bT,bK⟩;obtain⟨iu,jC,Bm⟩:=ay (uh gL) dR bK;have mg:=ab iu;have db:=ab bT;have bz:=ab ((uh bC).trans bK);clear bT bK iu;have C5:=aB BC (by decide) (uh db);rw[uh bu,uh ig]at C5;replace C5:=ab C5
   go_wp2_with fail
   refine(uh C5).mono ?_;rintro e w3 ⟨rfl,eF,cd⟩;obtain⟨jy,iC,Ja⟩:=ay (uh mg) jC cd;have mP:=ab jy;have gI:=ab eF;have dd:=ab ((uh bz).trans cd);clear eF cd jy;go_wp2_with fail
   refine(aR om (by decide) (uh gI)).mono ?_;rintro e w4 ⟨rfl,ko,dA⟩;obtain⟨nY,jY,Ni⟩:=ay (uh mP) iC dA;have sd:=ab nY;have mh:=ab ko;have dW:=ab ((uh dd).trans dA);clear ko dA nY;go_wp2_with fail
   refine(fV (uh mh)).mono ?_;rintro e w5 ⟨rfl,F5,pM,ep⟩;obtain⟨Bd,vE,YO⟩:=ay (uh sd) jY ep;have Ib:=ab Bd;have Fi:=ab pM;have gN:=ab ((uh dW).trans ep);clear pM ep Bd;obtain⟨⟨qr0,qr1,qr2,qr3,qr4,qr5⟩,zr0,zr1,zr2,zr3,zr4,zr5⟩:=eY (uh Ib);clear Ib;go_wp2_with fail
   refine bodyPost_ret (v:=.agg #[.int .i64 8,.int .i64 (rg ws s),.int .i64 (fE ws (bB ws om (cG ws s))),.int .i64 (gU ws (bB ws om (cG ws s))),.int .i64 0,.int .i64 0]) (by simp[results,Tryz.results247,go_sem,cell?_alloc_past,YO,qr0,qr1,qr2,qr3,qr4,qr5]) rfl ⟨by rw[uh HN];rfl,F5,?_,?_⟩
   .rw[uh HS];exact(((((((uh Fi).setOther vE _).setOther vE _).setOther vE _).setOther vE _).setOther vE _).setOther vE _).alloc _
   .exact(((((((uh gN).setCell (zq1 (zq4 _)) _).setCell (zq1 (zq4 _)) _).setCell (zq1 (zq4 _)) _).setCell (zq1 (zq4 _)) _).setCell (zq1 (zq4 _)) _).setCell (zq1 (zq4 _)) _).alloc _
end
section
variable {ws:List ByteArray} {s:PS}
theorem aX(k:ByteArray):(bB ws k s).nodes=s.nodes:=by unfold bB;split <;> rfl
theorem jL:(cG ws s).nodes=s.nodes:=by unfold cG;split <;> rfl
theorem iL:(dS ws s).nodes=s.nodes:=by unfold dS;split;rfl;exact jL
theorem l8:(kD ws s).nodes=s.nodes:=by unfold kD;split;rfl;exact iL
theorem Iv:(CJ ws s).nodes=s.nodes:=by unfold CJ;split;rfl;exact aX _
theorem Iu:(vh ws s).nodes=s.nodes:=by unfold vh;split;rfl;rw[iL,Iv,jL]
theorem qd:(Pm ws s).nodes=s.nodes:=by unfold Pm;rw[aX,Iu,aX]
theorem Iq:(sG ws s).nodes=s.nodes:=by unfold sG;split;rfl;split;rw[aX];exact iL;exact iL
theorem xC:(mx ws s).nodes=s.nodes:=by
 unfold mx;split;rfl;split;rw[jL];rfl;split
 .rw[iL];unfold EY;rw[aX,aX];exact jL
 .rw[Iq,aX,jL]
end
section
variable {B:Nat} {WV:Value} {w:World} {P:Nat} {ws:List ByteArray} {s:PS} {F:List Nat}
theorem uw(hn:s.nodes.length<=100000)(h:ee B WV w P ws s F):
  Calls prog 214 #[.pointer (some ⟨P,0,none⟩)] w λe w'=>e=.returned (.int .i64 s.nodes.length)/\∃F',ee B WV w' P ws (jq ws s) F'/\am F w F' w':=by
 have HQ:=ab h;clear h;go_enter func214,ntmps214;go_wp2_with fail
 refine(aR fI (by decide) (uh HQ)).mono ?_;rintro e w1 ⟨rfl,cV,bE⟩;have dy:=ab cV;have bC:=ab bE;clear cV bE;go_wp2_with fail
 refine(vi (uh dy)).mono ?_;rintro e w2 ⟨rfl,F2,bT,bK⟩;have db:=ab bT;have bz:=ab ((uh bC).trans bK);clear bT bK;obtain⟨A0,vm⟩:∃A0,A0=zO ws (bB ws fI s):=⟨_,rfl⟩;have HA0:=ab vm;rw[<-vm];clear vm;obtain⟨n0,n1,n2,n3,n4,n5⟩:=A0;simp only[Nd.cells];go_wp2_with fail
 refine(aR jh (by decide) ((uh db).alloc _)).mono ?_;rintro e w3 ⟨rfl,eF,cd⟩;have nC:=((am.refl F2 w2).alloc _).trans cd;obtain⟨adw,aql,aqd⟩:=bq (uh db).m cd;have ahh:=ab adw;have gI:=ab eF;have dd:=ab ((uh bz).trans nC);clear eF cd nC adw;obtain⟨⟨q0,q1,q2,q3,q4,q5⟩,_⟩:=eY (uh ahh);have DS:=ro ⟨n0,n1,n2,n3,n4,n5⟩ (uh gI) (by show(Pm ws s).nodes.length<=100000;rw[qd];exact hn);simp only[Nd.cells]at DS;have Wr:=ab DS;clear DS;go_wp2_with fail
 refine(uh Wr).mono ?_;rintro e w4 ⟨rfl,F4,ko,dA⟩;have mh:=ab ko;have dW:=ab ((uh dd).trans dA);clear ko dA;go_wp2_with fail
 go_ret;refine⟨aQ (by show(((Pm ws s).nodes.length:Nat):Int)=_;rw[qd]),F4,?_,uh dW⟩;unfold jq;rw[<-uh HA0];exact uh mh
theorem sH(v:Nat)(h:ee B WV w P ws s F):
  Calls prog 216 #[.pointer (some ⟨P,0,none⟩),.int .i64 (v:Int)] w λe w'=>e=.returned (.agg (zL ws v s).cells.toArray)/\∃F',ee B WV w' P ws (sG ws s) F'/\am F w F' w':=by
 have HQ:=ab h;clear h;cases hb:em ws yR s with
 |true =>
  have HN:Hid (zL ws v s=⟨4,v,0,0,0,0⟩):=ab (if_pos hb);have HS:Hid (sG ws s=s.adv):=ab (if_pos hb);have HE:Hid (jR ws yR s=s.adv):=ab (if_pos hb);have HB:=ab hb;clear hb;go_enter func216,ntmps216;have ki:=λo=>ab (aB yR (by decide) ((uh HQ).alloc o));simp only[uh HB,uh HE]at ki;go_wp2_with fail
  refine(uh (ki _)).mono ?_;rintro e w1 ⟨rfl,cV,bE⟩;have kW:=((am.refl F w).alloc _).trans bE;obtain⟨ez,dR,vB⟩:=bq (uh HQ).m bE;have gL:=ab ez;have dy:=ab cV;have bC:=ab kW;clear cV bE kW ez;obtain⟨⟨qr0,qr1,qr2,qr3,qr4,qr5⟩,zr0,zr1,zr2,zr3,zr4,zr5⟩:=eY (uh gL);clear gL;go_wp2_with fail
  refine bodyPost_ret (v:=.agg #[.int .i64 4,.int .i64 v,.int .i64 0,.int .i64 0,.int .i64 0,.int .i64 0]) (by simp[results,Tryz.results216,go_sem,qr0,qr1,qr2,qr3,qr4,qr5]) rfl ⟨by rw[uh HN];rfl,F,?_,?_⟩
  .rw[uh HS];exact(((((((uh dy).setOther dR _).setOther dR _).setOther dR _).setOther dR _).setOther dR _).setOther dR _)
  .exact(((((((uh bC).setCell (zq1 (zq4 _)) _).setCell (zq1 (zq4 _)) _).setCell (zq1 (zq4 _)) _).setCell (zq1 (zq4 _)) _).setCell (zq1 (zq4 _)) _).setCell (zq1 (zq4 _)) _)
 |false =>
  have HE:Hid (jR ws yR s=s):=ab (if_neg (by simp[hb]));have HB:=ab hb;cases hk:(fE ws s==1) with
  |false =>
   have HN:Hid (zL ws v s=⟨1,v,fE ws s,gU ws s,0,0⟩):=ab (by unfold zL Q1;rw[hb,hk];rfl);have HS:Hid (sG ws s=dS ws s):=ab (by unfold sG Q1;rw[hb,hk];rfl);have hkf:(((fE ws s:Nat):Int)==1)=false:=(by simp at hk ⊢;omega);clear hb hk;go_enter func216,ntmps216;have ki:=λo=>ab (aB yR (by decide) ((uh HQ).alloc o));simp only[uh HB,uh HE]at ki;go_wp2_with fail
   refine(uh (ki _)).mono ?_;rintro e w1 ⟨rfl,cV,bE⟩;have kW:=((am.refl F w).alloc _).trans bE;obtain⟨ez,dR,vB⟩:=bq (uh HQ).m bE;have gL:=ab ez;have dy:=ab cV;have bC:=ab kW;clear cV bE kW ez;go_wp2_with fail
   refine(fV (uh dy)).mono ?_;rintro e w2 ⟨rfl,F2,bT,bK⟩;obtain⟨iu,jC,Bm⟩:=ay (uh gL) dR bK;have mg:=ab iu;have db:=ab bT;have bz:=ab ((uh bC).trans bK);clear bT bK iu;obtain⟨⟨qr0,qr1,qr2,qr3,qr4,qr5⟩,zr0,zr1,zr2,zr3,zr4,zr5⟩:=eY (uh mg);clear mg;go_wp2_with fail
   refine bodyPost_ret (v:=.agg #[.int .i64 1,.int .i64 v,.int .i64 (fE ws s),.int .i64 (gU ws s),.int .i64 0,.int .i64 0]) (by simp[results,Tryz.results216,go_sem,cell?_alloc_past,Bm,qr0,qr1,qr2,qr3,qr4,qr5]) rfl ⟨by rw[uh HN];rfl,F2,?_,?_⟩
   .rw[uh HS];exact(((((((uh db).setOther jC _).setOther jC _).setOther jC _).setOther jC _).setOther jC _).setOther jC _).alloc _
   .exact(((((((uh bz).setCell (zq1 (zq4 _)) _).setCell (zq1 (zq4 _)) _).setCell (zq1 (zq4 _)) _).setCell (zq1 (zq4 _)) _).setCell (zq1 (zq4 _)) _).setCell (zq1 (zq4 _)) _).alloc _
  |true =>
   have hkt:(((fE ws s:Nat):Int)==1)=true:=(by simp at hk ⊢;omega);cases hd:em ws pS (dS ws s) with
   |false =>
    have HN:Hid (zL ws v s=⟨1,v,fE ws s,gU ws s,0,0⟩):=ab (by unfold zL Q1;rw[hb,hk,hd];rfl);have HS:Hid (sG ws s=dS ws s):=ab (by unfold sG Q1;rw[hb,hk,hd];rfl);have ig:Hid (jR ws pS (dS ws s)=dS ws s):=ab (if_neg (by simp[hd]));have bu:=ab hd;clear hb hk hd;go_enter func216,ntmps216;have ki:=λo=>ab (aB yR (by decide) ((uh HQ).alloc o));simp only[uh HB,uh HE]at ki;go_wp2_with fail
    refine(uh (ki _)).mono ?_;rintro e w1 ⟨rfl,cV,bE⟩;have kW:=((am.refl F w).alloc _).trans bE;obtain⟨ez,dR,vB⟩:=bq (uh HQ).m bE;have gL:=ab ez;have dy:=ab cV;have bC:=ab kW;clear cV bE kW ez;go_wp2_with fail
    refine(fV (uh dy)).mono ?_;rintro e w2 ⟨rfl,F2,bT,bK⟩;obtain⟨iu,jC,Bm⟩:=ay (uh gL) dR bK;have mg:=ab iu;have db:=ab bT;have bz:=ab ((uh bC).trans bK);clear bT bK iu;have C5:=λo=>ab (aB pS (by decide) ((uh db).alloc o));simp only[uh bu,uh ig]at C5;go_wp2_with fail
    refine(uh (C5 _)).mono ?_;rintro e w3 ⟨rfl,eF,cd⟩;have nC:=((am.refl F2 w2).alloc _).trans cd;obtain⟨jy,iC,Ja⟩:=ay (uh mg) jC nC;obtain⟨IX,aen,ajO⟩:=bq (uh db).m cd;have mP:=ab jy;have Ww:=ab IX;have gI:=ab eF;have dd:=ab ((uh bz).trans nC);clear eF cd nC jy IX;obtain⟨⟨qr0,qr1,qr2,qr3,qr4,qr5⟩,zr0,zr1,zr2,zr3,zr4,zr5⟩:=eY (uh mP);clear mP;obtain⟨⟨qb0,qb1⟩,zb0,zb1⟩:=jd (uh Ww);go_wp2_with fail
    refine bodyPost_ret (v:=.agg #[.int .i64 1,.int .i64 v,.int .i64 (fE ws s),.int .i64 (gU ws s),.int .i64 0,.int .i64 0]) (by simp[results,Tryz.results216,go_sem,qr0,qr1,qr2,qr3,qr4,qr5]) rfl ⟨by rw[uh HN];rfl,F2,?_,?_⟩
    .rw[uh HS];exact(((((((uh gI).setOther iC _).setOther iC _).setOther iC _).setOther iC _).setOther iC _).setOther iC _)
    .exact(((((((uh dd).setCell (zq1 (zq4 _)) _).setCell (zq1 (zq4 _)) _).setCell (zq1 (zq4 _)) _).setCell (zq1 (zq4 _)) _).setCell (zq1 (zq4 _)) _).setCell (zq1 (zq4 _)) _)
   |true =>
    have HN:Hid (zL ws v s=⟨2,v,fE ws s,gU ws s,0,0⟩):=ab (by unfold zL Q1;rw[hb,hk,hd];rfl);have HS:Hid (sG ws s=bB ws kN (dS ws s).adv):=ab (by unfold sG Q1;rw[hb,hk,hd];rfl);have ig:Hid (jR ws pS (dS ws s)=(dS ws s).adv):=ab (if_pos hd);have bu:=ab hd;clear hb hk hd;go_enter func216,ntmps216;have ki:=λo=>ab (aB yR (by decide) ((uh HQ).alloc o));simp only[uh HB,uh HE]at ki;go_wp2_with fail
    refine(uh (ki _)).mono ?_;rintro e w1 ⟨rfl,cV,bE⟩;have kW:=((am.refl F w).alloc _).trans bE;obtain⟨ez,dR,vB⟩:=bq (uh HQ).m bE;have gL:=ab ez;have dy:=ab cV;have bC:=ab kW;clear cV bE kW ez;go_wp2_with fail
    refine(fV (uh dy)).mono ?_;rintro e w2 ⟨rfl,F2,bT,bK⟩;obtain⟨iu,jC,Bm⟩:=ay (uh gL) dR bK;have mg:=ab iu;have db:=ab bT;have bz:=ab ((uh bC).trans bK);clear bT bK iu;have C5:=λo=>ab (aB pS (by decide) ((uh db).alloc o));simp only[uh bu,uh ig]at C5;go_wp2_with fail
    refine(uh (C5 _)).mono ?_;rintro e w3 ⟨rfl,eF,cd⟩;have nC:=((am.refl F2 w2).alloc _).trans cd;obtain⟨jy,iC,Ja⟩:=ay (uh mg) jC nC;obtain⟨IX,aen,ajO⟩:=bq (uh db).m cd;have mP:=ab jy;have Ww:=ab IX;have gI:=ab eF;have dd:=ab ((uh bz).trans nC);clear eF cd nC jy IX;go_wp2_with fail
    refine(aR kN (by decide) (uh gI)).mono ?_;rintro e w4 ⟨rfl,ko,dA⟩;obtain⟨nY,jY,Ni⟩:=ay (uh mP) iC dA;obtain⟨Ys,aqn,aqe⟩:=ay (uh Ww) aen dA;have sd:=ab nY;have ahi:=ab Ys;have mh:=ab ko;have dW:=ab ((uh dd).trans dA);clear ko dA nY Ys;obtain⟨⟨qr0,qr1,qr2,qr3,qr4,qr5⟩,zr0,zr1,zr2,zr3,zr4,zr5⟩:=eY (uh sd);clear sd;obtain⟨⟨qb0,qb1⟩,zb0,zb1⟩:=jd (uh ahi);go_wp2_with fail
    refine bodyPost_ret (v:=.agg #[.int .i64 2,.int .i64 v,.int .i64 (fE ws s),.int .i64 (gU ws s),.int .i64 0,.int .i64 0]) (by simp[results,Tryz.results216,go_sem,qr0,qr1,qr2,qr3,qr4,qr5]) rfl ⟨by rw[uh HN];rfl,F2,?_,?_⟩
    .rw[uh HS];exact(((((((uh mh).setOther jY _).setOther jY _).setOther jY _).setOther jY _).setOther jY _).setOther jY _)
    .exact(((((((uh dW).setCell (zq1 (zq4 _)) _).setCell (zq1 (zq4 _)) _).setCell (zq1 (zq4 _)) _).setCell (zq1 (zq4 _)) _).setCell (zq1 (zq4 _)) _).setCell (zq1 (zq4 _)) _)
theorem E0(h:ee B WV w P ws s F):
  Calls prog 188 #[.pointer (some ⟨P,0,none⟩)] w λe w'=>e=.returned (.agg (nj ws s).cells.toArray)/\∃F',ee B WV w' P ws (mx ws s) F'/\am F w F' w':=by
 have HQ:=ab h;clear h;cases hb:em ws ou s with
 |true =>
  have HN:Hid (nj ws s=⟨6,0,0,0,0,0⟩):=ab (if_pos hb);have HS:Hid (mx ws s=s.adv):=ab (if_pos hb);have HE:Hid (jR ws ou s=s.adv):=ab (if_pos hb);have HB:=ab hb;clear hb;go_enter func188,ntmps188;have ki:=λo=>ab (aB ou (by decide) ((uh HQ).alloc o));simp only[uh HB,uh HE]at ki;go_wp2_with fail
  refine(uh (ki _)).mono ?_;rintro e w1 ⟨rfl,cV,bE⟩;have kW:=((am.refl F w).alloc _).trans bE;obtain⟨ez,dR,vB⟩:=bq (uh HQ).m bE;have gL:=ab ez;have dy:=ab cV;have bC:=ab kW;clear cV bE kW ez;obtain⟨⟨qr0,qr1,qr2,qr3,qr4,qr5⟩,zr0,zr1,zr2,zr3,zr4,zr5⟩:=eY (uh gL);clear gL;go_wp2_with fail
  refine bodyPost_ret (v:=.agg #[.int .i64 6,.int .i64 0,.int .i64 0,.int .i64 0,.int .i64 0,.int .i64 0]) (by simp[results,Tryz.results188,go_sem,qr0,qr1,qr2,qr3,qr4,qr5]) rfl ⟨by rw[uh HN];rfl,F,?_,?_⟩
  .rw[uh HS];exact(((((((uh dy).setOther dR _).setOther dR _).setOther dR _).setOther dR _).setOther dR _).setOther dR _)
  .exact(((((((uh bC).setCell (zq1 (zq4 _)) _).setCell (zq1 (zq4 _)) _).setCell (zq1 (zq4 _)) _).setCell (zq1 (zq4 _)) _).setCell (zq1 (zq4 _)) _).setCell (zq1 (zq4 _)) _)
 |false =>
  have HE:Hid (jR ws ou s=s):=ab (if_neg (by simp[hb]));have HB:=ab hb;cases ax:em ws qz s with
  |true =>
   have HN:Hid (nj ws s=⟨5,rg ws s.adv,0,0,0,0⟩):=ab (by unfold nj;rw[hb,ax];rfl);have HS:Hid (mx ws s=cG ws s.adv):=ab (by unfold mx;rw[hb,ax];rfl);have ig:Hid (jR ws qz s=s.adv):=ab (if_pos ax);have bu:=ab ax;clear hb ax;go_enter func188,ntmps188;have ki:=λo=>ab (aB ou (by decide) ((uh HQ).alloc o));simp only[uh HB,uh HE]at ki;go_wp2_with fail
   refine(uh (ki _)).mono ?_;rintro e w1 ⟨rfl,cV,bE⟩;have kW:=((am.refl F w).alloc _).trans bE;obtain⟨ez,dR,vB⟩:=bq (uh HQ).m bE;have gL:=ab ez;have dy:=ab cV;have bC:=ab kW;clear cV bE kW ez;have jP:=aB qz (by decide) (uh dy);rw[uh bu,uh ig]at jP;replace jP:=ab jP
   go_wp2_with fail
   refine(uh jP).mono ?_;rintro e w2 ⟨rfl,bT,bK⟩;obtain⟨iu,jC,Bm⟩:=ay (uh gL) dR bK;have mg:=ab iu;have db:=ab bT;have bz:=ab ((uh bC).trans bK);clear bT bK iu;go_wp2_with fail
   refine(el (uh db)).mono ?_;rintro e w3 ⟨rfl,F3,eF,cd⟩;obtain⟨jy,iC,Ja⟩:=ay (uh mg) jC cd;have mP:=ab jy;have gI:=ab eF;have dd:=ab ((uh bz).trans cd);clear eF cd jy;obtain⟨⟨qr0,qr1,qr2,qr3,qr4,qr5⟩,zr0,zr1,zr2,zr3,zr4,zr5⟩:=eY (uh mP);clear mP;go_wp2_with fail
   refine bodyPost_ret (v:=.agg #[.int .i64 5,.int .i64 (rg ws s.adv),.int .i64 0,.int .i64 0,.int .i64 0,.int .i64 0]) (by simp[results,Tryz.results188,go_sem,qr0,qr1,qr2,qr3,qr4,qr5]) rfl ⟨by rw[uh HN];rfl,F3,?_,?_⟩
   .rw[uh HS];exact(((((((uh gI).setOther iC _).setOther iC _).setOther iC _).setOther iC _).setOther iC _).setOther iC _)
   .exact(((((((uh dd).setCell (zq1 (zq4 _)) _).setCell (zq1 (zq4 _)) _).setCell (zq1 (zq4 _)) _).setCell (zq1 (zq4 _)) _).setCell (zq1 (zq4 _)) _).setCell (zq1 (zq4 _)) _)
  |false =>
   have ig:Hid (jR ws qz s=s):=ab (if_neg (by simp[ax]));have bu:=ab ax;cases bF:em ws pS (cG ws s) with
   |true =>
    have HN:Hid (nj ws s=⟨3,rg ws s,fE ws (EY ws (cG ws s)),gU ws (EY ws (cG ws s)),0,0⟩):=ab (by unfold nj;rw[hb,ax,bF];rfl);have HS:Hid (mx ws s=dS ws (EY ws (cG ws s))):=ab (by unfold mx;rw[hb,ax,bF];rfl);have PN:Hid (jR ws pS (cG ws s)=(cG ws s).adv):=ab (if_pos bF);have HL:Hid (bB ws om (bB ws kN (cG ws s).adv)=EY ws (cG ws s)):=ab rfl;have mN:=ab bF;clear hb ax bF;go_enter func188,ntmps188;have ki:=λo=>ab (aB ou (by decide) ((uh HQ).alloc o));simp only[uh HB,uh HE]at ki;go_wp2_with fail
    refine(uh (ki _)).mono ?_;rintro e w1 ⟨rfl,cV,bE⟩;have kW:=((am.refl F w).alloc _).trans bE;obtain⟨ez,dR,vB⟩:=bq (uh HQ).m bE;have gL:=ab ez;have dy:=ab cV;have bC:=ab kW;clear cV bE kW ez;have jP:=aB qz (by decide) (uh dy);rw[uh bu,uh ig]at jP;replace jP:=ab jP
    go_wp2_with fail
    refine(uh jP).mono ?_;rintro e w2 ⟨rfl,bT,bK⟩;obtain⟨iu,jC,Bm⟩:=ay (uh gL) dR bK;have mg:=ab iu;have db:=ab bT;have bz:=ab ((uh bC).trans bK);clear bT bK iu;go_wp2_with fail
    refine(el (uh db)).mono ?_;rintro e w3 ⟨rfl,F3,eF,cd⟩;obtain⟨jy,iC,Ja⟩:=ay (uh mg) jC cd;have mP:=ab jy;have gI:=ab eF;have dd:=ab ((uh bz).trans cd);clear eF cd jy;have uX:=aB pS (by decide) (uh gI);rw[uh mN,uh PN]at uX;replace uX:=ab uX
    go_wp2_with fail
    refine(uh uX).mono ?_;rintro e w4 ⟨rfl,ko,dA⟩;obtain⟨nY,jY,Ni⟩:=ay (uh mP) iC dA;have sd:=ab nY;have mh:=ab ko;have dW:=ab ((uh dd).trans dA);clear ko dA nY;go_wp2_with fail
    refine(aR kN (by decide) (uh mh)).mono ?_;rintro e w5 ⟨rfl,pM,ep⟩;obtain⟨Bd,vE,YO⟩:=ay (uh sd) jY ep;have Ib:=ab Bd;have Fi:=ab pM;have gN:=ab ((uh dW).trans ep);clear pM ep Bd;go_wp2_with fail
    refine(aR om (by decide) (uh Fi)).mono ?_;rintro e w6 ⟨rfl,hI6,IR⟩;rw[uh HL]at hI6;obtain⟨MT,Bo,ajQ⟩:=ay (uh Ib) vE IR;have Qy:=ab MT;have HI6:=ab hI6;have Ai:=ab ((uh gN).trans IR);clear hI6 IR MT;go_wp2_with fail
    refine(fV (uh HI6)).mono ?_;rintro e w7 ⟨rfl,F7,hI7,CN⟩;obtain⟨ady,Jd,ajR⟩:=ay (uh Qy) Bo CN;have abr:=ab ady;have HI7:=ab hI7;have U3:=ab ((uh Ai).trans CN);clear hI7 CN ady;obtain⟨⟨qr0,qr1,qr2,qr3,qr4,qr5⟩,zr0,zr1,zr2,zr3,zr4,zr5⟩:=eY (uh abr);clear abr;go_wp2_with fail
    refine bodyPost_ret (v:=.agg #[.int .i64 3,.int .i64 (rg ws s),.int .i64 (fE ws (EY ws (cG ws s))),.int .i64 (gU ws (EY ws (cG ws s))),.int .i64 0,.int .i64 0]) (by simp[results,Tryz.results188,go_sem,cell?_alloc_past,ajR,qr0,qr1,qr2,qr3,qr4,qr5]) rfl ⟨by rw[uh HN];rfl,F7,?_,?_⟩
    .rw[uh HS];exact(((((((uh HI7).setOther Jd _).setOther Jd _).setOther Jd _).setOther Jd _).setOther Jd _).setOther Jd _).alloc _
    .exact(((((((uh U3).setCell (zq1 (zq4 _)) _).setCell (zq1 (zq4 _)) _).setCell (zq1 (zq4 _)) _).setCell (zq1 (zq4 _)) _).setCell (zq1 (zq4 _)) _).setCell (zq1 (zq4 _)) _).alloc _
   |false =>
    have HN:Hid (nj ws s=zL ws (rg ws s) (bB ws om (cG ws s))):=ab (by unfold nj;rw[hb,ax,bF];rfl);have HS:Hid (mx ws s=sG ws (bB ws om (cG ws s))):=ab (by unfold mx;rw[hb,ax,bF];rfl);have PN:Hid (jR ws pS (cG ws s)=cG ws s):=ab (if_neg (by simp[bF]));have mN:=ab bF;clear hb ax bF;go_enter func188,ntmps188;have ki:=λo=>ab (aB ou (by decide) ((uh HQ).alloc o));simp only[uh HB,uh HE]at ki;go_wp2_with fail
    refine(uh (ki _)).mono ?_;rintro e w1 ⟨rfl,cV,bE⟩;have kW:=((am.refl F w).alloc _).trans bE;obtain⟨ez,dR,vB⟩:=bq (uh HQ).m bE;have gL:=ab ez;have dy:=ab cV;have bC:=ab kW;clear cV bE kW ez;have jP:=aB qz (by decide) (uh dy);rw[uh bu,uh ig]at jP;replace jP:=ab jP
    go_wp2_with fail
    refine(uh jP).mono ?_;rintro e w2 ⟨rfl,bT,bK⟩;obtain⟨iu,jC,Bm⟩:=ay (uh gL) dR bK;have mg:=ab iu;have db:=ab bT;have bz:=ab ((uh bC).trans bK);clear bT bK iu;go_wp2_with fail
    refine(el (uh db)).mono ?_;rintro e w3 ⟨rfl,F3,eF,cd⟩;obtain⟨jy,iC,Ja⟩:=ay (uh mg) jC cd;have mP:=ab jy;have gI:=ab eF;have dd:=ab ((uh bz).trans cd);clear eF cd jy;have uX:=aB pS (by decide) (uh gI);rw[uh mN,uh PN]at uX;replace uX:=ab uX
    go_wp2_with fail
    refine(uh uX).mono ?_;rintro e w4 ⟨rfl,ko,dA⟩;obtain⟨nY,jY,Ni⟩:=ay (uh mP) iC dA;have sd:=ab nY;have mh:=ab ko;have dW:=ab ((uh dd).trans dA);clear ko dA nY;go_wp2_with fail
    refine(aR om (by decide) (uh mh)).mono ?_;rintro e w5 ⟨rfl,pM,ep⟩;obtain⟨Bd,vE,YO⟩:=ay (uh sd) jY ep;have Ib:=ab Bd;have Fi:=ab pM;have gN:=ab ((uh dW).trans ep);clear pM ep Bd;go_wp2_with fail
    refine(sH (rg ws s) (uh Fi)).mono ?_;rintro e w6 ⟨rfl,F6,hI6,IR⟩;obtain⟨MT,Bo,ajQ⟩:=ay (uh Ib) vE IR;have Qy:=ab MT;have HI6:=ab hI6;have Ai:=ab ((uh gN).trans IR);clear hI6 IR MT;obtain⟨A0,vm⟩:∃A0,A0=zL ws (rg ws s) (bB ws om (cG ws s)):=⟨_,rfl⟩;have HA0:=ab vm;rw[<-vm]at HN ⊢;clear vm;obtain⟨n0,n1,n2,n3,n4,n5⟩:=A0;simp only[Nd.cells];obtain⟨⟨qr0,qr1,qr2,qr3,qr4,qr5⟩,zr0,zr1,zr2,zr3,zr4,zr5⟩:=eY (uh Qy);clear Qy;go_wp2_with fail
    refine bodyPost_ret (v:=.agg #[.int .i64 n0,.int .i64 n1,.int .i64 n2,.int .i64 n3,.int .i64 n4,.int .i64 n5]) (by simp[results,Tryz.results188,go_sem,qr0,qr1,qr2,qr3,qr4,qr5]) rfl ⟨by rw[uh HN];rfl,F6,?_,?_⟩
    .rw[uh HS];exact(((((((uh HI6).setOther Bo _).setOther Bo _).setOther Bo _).setOther Bo _).setOther Bo _).setOther Bo _)
    .exact(((((((uh Ai).setCell (zq1 (zq4 _)) _).setCell (zq1 (zq4 _)) _).setCell (zq1 (zq4 _)) _).setCell (zq1 (zq4 _)) _).setCell (zq1 (zq4 _)) _).setCell (zq1 (zq4 _)) _)
end
def Ac:ByteArray:=⟨#[123]⟩
def CV:ByteArray:=⟨#[125]⟩
def lj:ByteArray:=⟨#[59]⟩
def Gz:ByteArray:=⟨#[105,102]⟩
def fT:ByteArray:=⟨#[119,104,105,108,101]⟩
def wZ:ByteArray:=⟨#[101,108,115,101]⟩
def eB(k n:Nat)(l:List Nd):List Nd:=l.modify k (λx=>{ x with ot:=n })
def gK(k n:Nat)(l:List Nd):List Nd:=l.modify k (λx=>{ x with nx:=n })
def lh:Nd:=⟨10,0,0,0,0,0⟩
def Kr(ws:List ByteArray)(s:PS):PS:=dZ (nj ws s) (bB ws lj (mx ws s))
def fO(blk:PS->PS)(ws:List ByteArray)(s:PS):PS:=blk (jq ws (bB ws Gz s))
def sK(t:Nat)(s:PS):PS:={ dZ lh s.adv with nodes:=eB t (dZ lh s.adv).nodes.length (dZ lh s.adv).nodes }
def Q7(j:Nat)(s:PS):PS:={ s with nodes:=gK j s.nodes.length s.nodes }
def Kd(blk:PS->PS)(ws:List ByteArray)(s:PS):PS :=
 if em ws wZ (fO blk ws s) then Q7 (fO blk ws s).nodes.length (blk (sK s.nodes.length (fO blk ws s)))
 else { fO blk ws s with nodes:=eB s.nodes.length (fO blk ws s).nodes.length (fO blk ws s).nodes }
def rN(blk:PS->PS)(ws:List ByteArray)(s:PS):PS:=blk (jq ws (bB ws fT s))
def CW(blk:PS->PS)(ws:List ByteArray)(s:PS):PS :=
 { dZ lh (rN blk ws s) with nodes:=eB s.nodes.length (dZ lh (rN blk ws s)).nodes.length (gK (rN blk ws s).nodes.length s.nodes.length (dZ lh (rN blk ws s)).nodes) }
def vf(blk:PS->PS)(ws:List ByteArray)(s:PS):PS:=if em ws Gz s then Kd blk ws s else if em ws fT s then CW blk ws s else Kr ws s
def mV(c:PS->PS)(ws:List ByteArray):Nat->PS->PS
 |0,s=>s
 |n+1,s=>if s.failed||em ws CV s then s else mV c ws n (c s)
def FG(ws:List ByteArray):Nat->PS->PS
 |0,s=>s
 |f+1,s=>bB ws CV (mV (vf (FG ws f) ws) ws (ws.length+2) (bB ws Ac s))
theorem dx(k n:Nat)(l:List Nd):(eB k n l).length=l.length:=by simp[eB]
theorem ek(k n:Nat)(l:List Nd):(gK k n l).length=l.length:=by simp[gK]
def fb(s:PS):Nat:=if s.failed then 1 else 0
section
variable {ws:List ByteArray} {s:PS}
theorem sA(k:ByteArray)(hk:k.size≠0)(h:s.failed=true):em ws k s=false:=by
 cases hb:em ws k s with
 |false=>rfl
 |true=>have:=(xp (ws:=ws) (s:=s) (by rw[gO hb];exact hk)).1;rw[h]at this;cases this
theorem cO(k:ByteArray)(h:(bB ws k s).failed=false):em ws k s=true/\s.failed=false/\(bB ws k s).pos=s.pos+1:=by
 unfold bB at *;split at h
 .rename_i hb;rw[if_pos hb];exact⟨hb,h,rfl⟩
 .cases h
theorem IB(k:ByteArray)(hk:k.size≠0)(h:s.failed=true):(bB ws k s).failed=true:=by
 unfold bB;rw[sA k hk h];rfl
theorem lF(h:(cG ws s).failed=false):tK (pk ws s)=true/\s.failed=false/\(cG ws s).pos=s.pos+1:=by
 unfold cG at *;split at h
 .rename_i hb;rw[if_pos hb];exact⟨hb,h,rfl⟩
 .cases h
theorem mb(h:(dS ws s).failed=false):s.failed=false/\(dS ws s).pos=s.pos+1:=by
 unfold dS at *;split at h
 .rename_i hb;rw[if_pos hb];exact⟨h,rfl⟩
 .rename_i hb;rw[if_neg hb];exact(lF h).2
theorem Lv(h:(vh ws s).failed=false):s.failed=false:=by
 unfold vh at h;split at h
 .exact h
 .have h1:=(mb h).1;unfold CJ at h1;split at h1
  .exact(lF h1).2.1
  .exact(lF (cO _ h1).2.1).2.1
theorem Po(h:(jq ws s).failed=false):s.failed=false:=(cO _ (Lv (cO _ h).2.1)).2.1
theorem K8(h:(sG ws s).failed=false):s.failed=false:=by
 unfold sG at h;split at h
 .exact h
 .split at h
  .exact(mb (cO _ h).2.1).1
  .exact(mb h).1
theorem O2(h:(mx ws s).failed=false):s.failed=false/\s.pos<(mx ws s).pos:=by
 unfold mx at *;split at h
 .rename_i hb;rw[if_pos hb];exact⟨h,Nat.lt_succ_self _⟩
 .rename_i hb;rw[if_neg hb];split at h
  .rename_i ax;rw[if_pos ax];exact⟨(lF h).2.1,by rw[(lF h).2.2];show s.pos<s.pos+1+1;omega⟩
  .rename_i ax;rw[if_neg ax];split at h
   .rename_i bF;rw[if_pos bF];have h1:=mb h;unfold EY at h1;have h2:=(lF (cO _ (cO _ h1.1).2.1).2.1).2;refine⟨h2.1,?_⟩;have e1:=gw (ws:=ws) (s:=EY ws (cG ws s));have e2:(cG ws s).adv.pos<=(EY ws (cG ws s)).pos:=zq3 (bY kN) (bY om);have e3:=cI (s:=cG ws s);omega
   .rename_i bF;rw[if_neg bF];have h1:=cO _ (K8 h);have h2:=(lF h1.2.1).2;refine⟨h2.1,?_⟩;have e1:(bB ws om (cG ws s)).pos<=(sG ws (bB ws om (cG ws s))).pos:=by
     unfold sG;split
     .exact cI
     .split
      .exact zq3 (zq3 gw cI) (bY _)
      .exact gw
    omega
theorem Rl:s.pos<=(vh ws s).pos:=by
 unfold vh;split
 .exact cI
 .refine zq3 (zq3 (oV (ws:=ws)) ?_) gw;unfold CJ;split
  .exact cI
  .exact bY _
theorem rY:s.pos<=(jq ws s).pos:=zq3 (zq3 (bY fI) Rl) (bY jh)
theorem l9:(jq ws s).nodes.length=s.nodes.length+1:=by
 unfold jq dZ;simp[qd]
theorem Uc:s.pos<=(mx ws s).pos:=by
 unfold mx;split
 .exact cI
 .split
  .exact zq3 cI oV
  .split
   .exact zq3 (zq3 (zq3 (zq3 oV cI) (bY kN)) (bY om)) gw
   .refine zq3 (zq3 (oV (ws:=ws)) (bY (ws:=ws) om)) ?_;unfold sG;split
    .exact cI
    .split
     .exact zq3 (zq3 gw cI) (bY _)
     .exact gw
structure Kw(blk:PS->PS):Prop where
 pos:∀s,s.pos<=(blk s).pos
 nodes:∀s,s.nodes.length<=(blk s).nodes.length
 ok:∀s,(blk s).failed=false->s.failed=false
 phi:∀s,(blk s).nodes.length+2*s.pos<=s.nodes.length+2*(blk s).pos+fb (blk s)
theorem wA(s:PS):fb s<=1:=by unfold fb;split <;> omega
theorem wD{s:PS}(h:s.failed=false):fb s=0:=by unfold fb;rw[h];rfl
theorem DE{s:PS}(h:s.failed=true):fb s=1:=by unfold fb;rw[h];rfl
theorem io{blk:PS->PS}(g:Kw blk):s.pos<=(vf blk ws s).pos/\s.nodes.length<=(vf blk ws s).nodes.length /\
  ((vf blk ws s).failed=false->s.failed=false/\s.pos<(vf blk ws s).pos)/\(vf blk ws s).nodes.length+2*s.pos<=s.nodes.length+2*(vf blk ws s).pos+fb (vf blk ws s):=by
 unfold vf;split
 .rename_i hb;have e1:(bB ws Gz s)=s.adv:=if_pos hb;have a1:s.adv.pos=s.pos+1:=rfl;have a2:=rY (ws:=ws) (s:=s.adv);have a3:=l9 (ws:=ws) (s:=s.adv);have a4:s.adv.nodes=s.nodes:=rfl;rw[a4]at a3;have eA:fO blk ws s=blk (jq ws s.adv):=by unfold fO;rw[e1]
  have p1:=g.pos (jq ws s.adv);have p2:=g.nodes (jq ws s.adv);have p3:=g.ok (jq ws s.adv);have p4:=g.phi (jq ws s.adv);rw[<-eA]at p1 p2 p3 p4;have ok1:(fO blk ws s).failed=false->s.failed=false:=λh=>Po (s:=s.adv) (p3 h);unfold Kd;split
  .rename_i ax;have okA:(fO blk ws s).failed=false:=(xp (by rw[gO ax];decide)).1;have f0:=wD okA;have b1:(sK s.nodes.length (fO blk ws s)).pos=(fO blk ws s).pos+1:=rfl;have b2:(sK s.nodes.length (fO blk ws s)).nodes.length=(fO blk ws s).nodes.length+1:=(by simp[sK,dx,dZ,PS.adv]);have q1:=g.pos (sK s.nodes.length (fO blk ws s));have q2:=g.nodes (sK s.nodes.length (fO blk ws s));have q4:=g.phi (sK s.nodes.length (fO blk ws s));generalize blk (sK s.nodes.length (fO blk ws s))=z at q1 q2 q4;have c1:(Q7 (fO blk ws s).nodes.length z).pos=z.pos:=rfl;have c2:(Q7 (fO blk ws s).nodes.length z).nodes.length=z.nodes.length:=(by simp[Q7,ek]);have c3:fb (Q7 (fO blk ws s).nodes.length z)=fb z:=rfl;rw[c1,c2,c3];exact⟨by omega,by omega,λ_=>⟨ok1 okA,by omega⟩,by omega⟩
  .simp only[dx];have c3:fb { fO blk ws s with nodes:=eB s.nodes.length (fO blk ws s).nodes.length (fO blk ws s).nodes }=fb (fO blk ws s):=rfl;rw[c3];have:=wA (fO blk ws s);exact⟨by omega,by omega,λh=>⟨ok1 h,by omega⟩,by omega⟩
 .split
  .rename_i _ hb;have e1:(bB ws fT s)=s.adv:=if_pos hb;have a1:s.adv.pos=s.pos+1:=rfl;have a2:=rY (ws:=ws) (s:=s.adv);have a3:=l9 (ws:=ws) (s:=s.adv);have a4:s.adv.nodes=s.nodes:=rfl;rw[a4]at a3;have eA:rN blk ws s=blk (jq ws s.adv):=(by unfold rN;rw[e1]);have p1:=g.pos (jq ws s.adv);have p2:=g.nodes (jq ws s.adv);have p3:=g.ok (jq ws s.adv);have p4:=g.phi (jq ws s.adv);rw[<-eA]at p1 p2 p3 p4;have ok1:(rN blk ws s).failed=false->s.failed=false:=λh=>Po (s:=s.adv) (p3 h);have c1:(CW blk ws s).pos=(rN blk ws s).pos:=rfl;have c2:(CW blk ws s).nodes.length=(rN blk ws s).nodes.length+1:=(by simp[CW,dx,ek,dZ]);have c3:fb (CW blk ws s)=fb (rN blk ws s):=rfl;have c4:(CW blk ws s).failed=(rN blk ws s).failed:=rfl;rw[c1,c2,c3,c4];exact⟨by omega,by omega,λh=>⟨ok1 h,by omega⟩,by omega⟩
  .have a1:=Uc (ws:=ws) (s:=s);have a2:=bY (ws:=ws) (s:=mx ws s) lj;have c1:(Kr ws s).pos=(bB ws lj (mx ws s)).pos:=rfl;have c2:(Kr ws s).nodes.length=s.nodes.length+1:=(by simp[Kr,dZ,aX,xC]);have c4:(Kr ws s).failed=(bB ws lj (mx ws s)).failed:=rfl;cases hf:(Kr ws s).failed with
   |true =>
    rw[c1,c2,DE hf];exact⟨by omega,by omega,(λh=>absurd h (by simp)),by omega⟩
   |false =>
    rw[c4]at hf;have h1:=cO _ hf;have h2:=O2 h1.2.1;rw[c1,c2];exact⟨by omega,by omega,λ_=>⟨h2.1,by omega⟩,by omega⟩
theorem Ls{c:PS->PS}(hc:∀s,s.pos<=(c s).pos/\s.nodes.length<=(c s).nodes.length/\((c s).failed=false->s.failed=false)/\(c s).nodes.length+2*s.pos<=s.nodes.length+2*(c s).pos+fb (c s))(n:Nat):
  ∀s,s.pos<=(mV c ws n s).pos/\s.nodes.length<=(mV c ws n s).nodes.length/\((mV c ws n s).failed=false->s.failed=false)/\(mV c ws n s).nodes.length+2*s.pos<=s.nodes.length+2*(mV c ws n s).pos+fb (mV c ws n s):=by
 induction n with
 |zero=>intro s;exact⟨zq4 _,zq4 _,id,by simp only[mV];omega⟩
 |succ n ih =>
  intro s;simp only[mV];split
  .exact⟨zq4 _,zq4 _,id,by omega⟩
  .obtain⟨a,b,d,e⟩:=ih (c s);obtain⟨a',b',d',e'⟩:=hc s;refine⟨by omega,by omega,λh=>d' (d h),?_⟩;cases hf:(c s).failed with
   |false=>rw[wD hf]at e';omega
   |true =>
    have:fb (mV c ws n (c s))=1:=by
     cases hg:(mV c ws n (c s)).failed with
     |true=>exact DE hg
     |false=>rw[d hg]at hf;cases hf
    have hn:mV c ws n (c s)=c s:=by
     cases n with
     |zero=>rfl
     |succ n=>simp[mV,hf]
    rw[hn]at e ⊢;omega
theorem ik(f:Nat):Kw (FG ws f):=by
 induction f with
 |zero=>exact⟨λ_=>zq4 _,λ_=>zq4 _,λ_=>id,λ_=>by simp only[FG];omega⟩
 |succ f ih =>
  have hc:=λn s=>Ls (ws:=ws) (c:=vf (FG ws f) ws) (λs=>⟨(io ih).1,(io ih).2.1,λh=>((io ih).2.2.1 h).1,(io ih).2.2.2⟩) n s;refine⟨λs=>?_,λs=>?_,λs h=>?_,λs=>?_⟩
  .exact zq3 (zq3 (bY Ac) (hc _ _).1) (bY CV)
  .simp only[FG,aX];have:=(hc (ws.length+2) (bB ws Ac s)).2.1;rw[aX]at this;exact this
  .exact(cO _ ((hc _ _).2.2.1 (cO _ h).2.1)).2.1
  .simp only[FG,aX];have h1:=(hc (ws.length+2) (bB ws Ac s)).2.2.2;have h2:=bY (ws:=ws) (s:=s) Ac;rw[aX]at h1;generalize mV (vf (FG ws f) ws) ws (ws.length+2) (bB ws Ac s)=z at h1 ⊢;have h3:=bY (ws:=ws) (s:=z) CV;cases hf:z.failed with
   |false=>rw[wD hf]at h1;omega
   |true =>
    have h4:fb (bB ws CV z)=1:=DE (IB CV (by decide) hf);have h5:=wA z;omega
end
