import Derived.Test.YtciihepbeacppaaGreatM01
set_option maxRecDepth 100000
set_option maxHeartbeats 0
namespace Go.Proofs.YtciihepbeacppaaGreat
open Tryz Go.RowKit List World Below
set_option linter.unusedVariables false
section
variable {P:Program} (w:World)
theorem aS {ops:Array Oper} {rest:List Oper} {o:Oper} {a:Act} {Q:Exit->Act->World->Prop}
  (hg:o.guard=none) (s x:Operand) (t:TypeId) (nU:o.op=Op.call { callee:=Callee.builtin Builtin.append,args:=#[s,x],argTypes:=#[t,t] })
  (base:Nat) (e:TypeId) (i:TypeInfo) (z:Value) (size bytes:Nat) (ht:P.underlying t=some (.slice e)) (hi:P.info? e=some i) (hz:i.zero=some z)
  (jK:i.size=size) (Ej:i.bytes=bytes) (KW:z.cells.size=size) (nV:0<size)
  (v:Value) (n:Nat) (xs:List Value) (hs:a.eval s=v) (aP:w.ownsRow base e size v n xs)
  (ad:Addr) (c:Nat) (news:List Value) (hx:a.eval x=.slice (some ad) 1 c) (hl:news.length=size) (iD:∀j u,news[j]?=some u->w.cell? (ad.add j)=some u) (h1:∀u∈news,u.oneCell'=true)
  (Kj:n+1<=1000000) (hb:bytes<=1000) (gH:base<=w.heap.size)
  (hK:∀g cap w',w'.ownsRow base e size (.slice (some ⟨g,0,none⟩) (n+1) cap) (n+1) (xs++news)->w.grownBy w' v.ownBlock->(some g=v.ownBlock\/g=w.heap.size)->wpList P ops Q rest (a.put o.dst (.slice (some ⟨g,0,none⟩) (n+1) cap)) w') :
  wpList P ops Q (o::rest) a w:=by
 refine wpList_plain hg λK hK'=>?_;obtain⟨v',w',FL,r1,r2,r3,g,cap,rfl⟩:=DG (P:=P) w base t o.type e i z size bytes ht hi hz jK Ej KW nV v n xs aP ad c news hl iD h1 Kj hb gH;unfold Oper.wp;simp[execOp,nU,resolve,invoke,builtin,hs,hx,FL,Result.andThen];exact hK' _ _ (hK g cap w' r1 r2 (by simpa[Value.ownBlock] using r3))
end
theorem aN(w:World)(b:Nat)(hb:b=w.heap.size)(xs:List Value)(T:TypeId):∀(j:Nat) (u:Value),xs[j]?=some u->(w.alloc (.cells xs.toArray T)).cell? ((⟨b,0,none⟩:Addr).add j)=some u:=by
 intro j u hj;subst hb;rw[show(⟨w.heap.size,0,none⟩:Addr).add j=⟨w.heap.size,j,none⟩ by unfold Addr.add;split <;> simp_all];rw[cell?_alloc_mark];simpa using hj
theorem cn.one(a:cn):∀u∈a.cells,u.oneCell'=true:=by
 intro u hu;simp[cn.cells]at hu;rcases hu with rfl|rfl|rfl|rfl|rfl <;> rfl
theorem zA(l:List cn)(a:cn):bT (l++[a])=bT l++a.cells:=by simp[bT]
theorem infoAtom:(prog.info? 239).map (λi=>(i.zero,i.size,i.bytes))=some (some (.agg #[.int .i64 0,.int .i64 0,.int .i64 0,.int .i64 0,.int .i64 0]),5,40):=by kernel_rfl
theorem Vd(w:World)(b B:Nat)(hb:b=w.heap.size)(hB:B<=w.heap.size)(T:TypeId)(sz:Nat)(xs:List Value)(hx:xs.length=sz):(w.alloc (.cells xs.toArray T)).ownsRow B T sz (.slice (some ⟨b,0,none⟩) 1 1) 1 xs:=by
 subst hb;subst hx;exact⟨by simp,.inr ⟨w.heap.size,1,xs.toArray,rfl,hB,heap_alloc_new w _,zq4 _,by decide,by simp,by simp⟩⟩
section
variable {B:Nat} {WV:Value} {w:World} {P:Nat} {ws:List ByteArray} {s:PS} {F:List Nat} {wv vv hv nv:Value}
theorem ul{w w':World}{B:Nat}{e:TypeId}{sz n:Nat}{v:Value}{xs:List Value}{F F':List Nat}(h:w.ownsRow B e sz v n xs)(hS:au F w F' w')(ho:∀k,v.ownBlock=some k->k ∉ F):w'.ownsRow B e sz v n xs :=
 ae h (λk hk=>hS.block k (h.lt k hk).2 (ho k hk))
theorem Lr{w:World}{B:Nat}{e:TypeId}{sz n:Nat}{v:Value}{xs:List Value}(h:w.ownsRow B e sz v n xs)(o o':Obj):((w.alloc o).alloc o').ownsRow B e sz v n xs:=(h.alloc o).alloc o'
theorem Kc {wr w3 w4:World} {F2 F3:List Nat} {st':PS} {v:Value} {al:List cn} {o o':Obj} {g n cap:Nat} (hS:au F w F2 wr) (aP:wr.ownsRow w.heap.size 239 5 v al.length (bT al)) (FF:∀k,v.ownBlock=some k->k ∉ F2)
  (fI:eO B WV w3 P ws st' F3) (cB:au F2 wr F3 w3) (hg:((w3.alloc o).alloc o').grownBy w4 v.ownBlock) (hb:some g=v.ownBlock\/g=w3.heap.size+1+1) :
  eO B WV w4 P ws st' F3/\au F w F3 w4/\∀k,(Value.slice (some ⟨g,0,none⟩) n cap).ownBlock=some k->k ∉ F3:=by
 have KM:∀k,v.ownBlock=some k->k ∉ F3:=by
  intro k hk hm;rcases cB.foot k hm with h|h
  .exact FF k hk h
  .have:=(aP.lt k hk).2;omega
 have akK:=((hS.trans cB).alloc o).alloc o';refine⟨⟨((fI.m.alloc o).alloc o').of_eq (λk hk=>hg.block k (by have:=(fI.m.mem k hk).2;simp;omega) (λe=>KM k e.symm hk)),fI.f⟩,akK.grown hg (λk hk=>zq1 (aP.lt k hk).1),?_⟩;intro k hk hm;simp[Value.ownBlock]at hk;subst hk;rcases hb with hb|hb
 .exact KM g hb.symm hm
 .have:=(fI.m.mem g hm).2;omega
theorem N1(n:Nat)(h:bR ws dq s=false):jm ws n s=([],s):=by
 cases n with
 |zero=>rfl
 |succ n=>simp[jm,h]
theorem Zk(n:Nat)(h:bR ws dq s=true):jm ws (n+1) s=(qm ws s.adv::(jm ws n (ep ws s.adv)).1,(jm ws n (ep ws s.adv)).2):=by simp[jm,h]
theorem Cz(h:eO B WV w P ws s F):
  Calls prog 121 #[.pointer (some ⟨P,0,none⟩)] w λe w'=>∃v F',e=.returned v/\eO B WV w' P ws (pF ws s) F'/\au F w F' w' /\
   w'.ownsRow w.heap.size 239 5 v (foA ws s).length (bT (foA ws s))/\(∀k,v.ownBlock=some k->k ∉ F'):=by
 obtain⟨i0,hi,gX,fK,f9⟩:=info_parts infoAtom;have HQ:=ab h;obtain⟨hl,_,_,_⟩:=h.f;clear h;go_enter func121,ntmps121;go_wp2_with fail
 refine(Cf (uh HQ)).mono ?_;rintro e w1 ⟨rfl,F1,dN,bX⟩;have fs:=ab dN;have cD:=ab bX;clear dN bX;obtain⟨A0,BH⟩:∃A0,A0=qm ws s:=⟨_,rfl⟩;have HA0:=ab BH;rw[<-BH];clear BH;obtain⟨k0,k1,k2,k3,k4⟩:=A0;simp only[cn.cells];go_wp2_with fail
 go_loopg [4] (ws.length+1) (λm v wr=>∃(st:PS) (al:List cn) (F2:List Nat),eO B WV wr P ws st F2/\au F w F2 wr/\wr.ownsRow w.heap.size 239 5 v al.length (bT al)/\(∀k,v.ownBlock=some k->k ∉ F2)/\al.length<=st.pos+1 /\
  Hid (ws.length<m+st.pos/\foA ws s=al++(jm ws m st).1/\pF ws s=(jm ws m st).2))
 case atStart =>
  refine⟨ep ws s,[⟨k0,k1,k2,k3,k4⟩],F1,((uh fs).alloc _).alloc _,((uh cD).alloc _).alloc _,?_,?_,by simp,?_⟩
  .have al7:=(uh cD).size;exact iO (Vd (w1.alloc _) (w1.heap.size+1) w.heap.size (by simp) (by simp;omega) _ 5 [.int .i64 k0,.int .i64 k1,.int .i64 k2,.int .i64 k3,.int .i64 k4] rfl) rfl (by simp[bT,cn.cells])
  .intro k hk hm;simp[Value.ownBlock]at hk;have:=((uh fs).m.mem k hm).2;omega
  .exact⟨by omega,by rw[foA,<-uh HA0];rfl,rfl⟩
 case round =>
  obtain⟨st,al,F2,hI,hS,aP,FF,dL,afZ⟩:=hrel;obtain⟨_,aav,_,_⟩:=hI.f;have HI:=ab hI;have HS:=ab hS;have Ss:=ab aP;have Sp:=ab FF;have HA:=aC dq (by decide) hI;clear hI hS aP FF;cases hb:bR ws dq st with
  |false =>
   have sF:Hid (lO ws dq st=st):=ab (if_neg (by simp[hb]));rw[hb,uh sF]at HA;replace HA:=ab HA
   have HB:=ab hb;clear hb;go_wp2_with fail
   refine(uh HA).mono ?_;rintro e w2 ⟨rfl,cg,bS⟩;have d7:=ab cg;have cS:=ab bS;clear cg bS;go_wp2_with fail
   go_ret;obtain⟨_,Xg,qd⟩:=uh afZ;rw[N1 _ (uh HB)]at Xg qd;refine⟨_,F2,rfl,by rw[qd];exact uh d7,(uh HS).trans (uh cS),?_,uh Sp⟩;rw[Xg,append_nil];exact ae (uh Ss) (λk hk=>(uh cS).block k ((uh Ss).lt k hk).2 (uh Sp k hk))
  |true =>
   have sF:Hid (lO ws dq st=st.adv):=ab (if_pos hb);rw[hb,uh sF]at HA;replace HA:=ab HA
   have HB:=ab hb;have ar5:st.pos<ws.length:=MK (by decide) hb;clear hb;go_wp2_with fail
   refine(uh HA).mono ?_;rintro e w2 ⟨rfl,cg,bS⟩;have d7:=ab cg;have cS:=ab bS;clear cg bS;go_wp2_with fail
   refine(Cf (uh d7)).mono ?_;rintro e w3 ⟨rfl,F3,fI,cB⟩;have jb:=ab fI;have gu:=ab ((uh cS).trans cB);clear fI cB;obtain⟨A1,hA1⟩:∃A1,A1=qm ws st.adv:=⟨_,rfl⟩;have mn:=ab hA1;rw[<-hA1];clear hA1;obtain⟨j0,j1,j2,j3,j4⟩:=A1;simp only[cn.cells];go_wp2_with (at_builtin;refine aS _ rfl (.tmp 14) (.tmp 16) 102 rfl w.heap.size 239 i0 _ 5 40 underlying102 hi gX fK f9 rfl (by decide) _ al.length (bT al) rfl (Lr (ul (uh Ss) (uh gu) (uh Sp)) _ _) ⟨_,0,none⟩ 1 [.int .i64 j0,.int .i64 j1,.int .i64 j2,.int .i64 j3,.int .i64 j4] rfl rfl ?c1 ?c2 ?c3 ?c4 ?c5 ?_)
   case c1=>exact aN (w3.alloc _) _ (by simp) [.int .i64 j0,.int .i64 j1,.int .i64 j2,.int .i64 j3,.int .i64 j4] _
   case c2=>exact cn.one ⟨j0,j1,j2,j3,j4⟩
   case c3=>omega
   case c4=>omega
   case c5=>have:=(uh HS).size;have:=(uh gu).size;simp;omega
   intro g cap w4 iG eg jG;have R:=Kc (n:=al.length+1) (cap:=cap) (uh HS) (uh Ss) (uh Sp) (uh jb) (uh gu) eg jG;have HR:=ab R;have HO4:=ab iG;clear R iG eg jG;go_wp2_with fail
   obtain⟨hfm,Xg,qd⟩:=uh afZ;obtain⟨m,rfl⟩:∃m,gk=m+1:=⟨gk-1,by omega⟩;rw[Zk _ (uh HB),<-uh mn]at Xg qd;go_roundg m
   case measure=>omega
   case rel =>
    have Xs:=SO (ws:=ws) (s:=st.adv);have hpa:st.adv.pos=st.pos+1:=rfl;refine⟨ep ws st.adv,al++[⟨j0,j1,j2,j3,j4⟩],F3,(uh HR).1,(uh HR).2.1,?_,(uh HR).2.2,by simp;omega,⟨by omega,?_,qd⟩⟩
    .exact iO (uh HO4) (by simp) (by rw[zA];rfl)
    .rw[Xg];simp
end
def ch(nd:Nd)(s:PS):PS:={ s with nodes:=s.nodes++[{ nd with nx:=s.nodes.length+1 }] }
theorem bJ{w:World}{B:Nat}{e:TypeId}{sz n:Nat}{v:Value}{xs:List Value}(h:w.ownsRow B e sz v n xs):∃ao cap,v=.slice ao n cap:=by
 rcases h.2 with⟨rfl,rfl⟩|⟨g,cap,cur,rfl,_⟩ <;> exact⟨_,_,rfl⟩
theorem Nd.one(a:Nd):∀u∈a.cells,u.oneCell'=true:=by
 intro u hu;simp[Nd.cells]at hu;rcases hu with rfl|rfl|rfl|rfl|rfl|rfl <;> rfl
theorem gB{w:World}{r:Nat}{a b c d e f:Value}{t:TypeId}(h:w.heap[r]?=some (.cells #[a,b,c,d,e,f] t (0,0))):
  (w.cell? ⟨r,0,none⟩=some a/\w.cell? ⟨r,1,none⟩=some b/\w.cell? ⟨r,2,none⟩=some c/\w.cell? ⟨r,3,none⟩=some d/\w.cell? ⟨r,4,none⟩=some e/\w.cell? ⟨r,5,none⟩=some f) /\
  w.frozen? ⟨r,0,none⟩=false/\w.frozen? ⟨r,1,none⟩=false/\w.frozen? ⟨r,2,none⟩=false/\w.frozen? ⟨r,3,none⟩=false/\w.frozen? ⟨r,4,none⟩=false/\w.frozen? ⟨r,5,none⟩=false :=
 ⟨(jy h).1,(jy h).2 0,(jy h).2 1,(jy h).2 2,(jy h).2 3,(jy h).2 4,(jy h).2 5⟩
section
variable {B:Nat} {WV:Value} {w:World} {P:Nat} {ws:List ByteArray} {s:PS} {F:List Nat} {wv vv hv nv:Value}
theorem tL(nd:Nd)(h:eO B WV w P ws s F)(hn:s.nodes.length<=100000):
  Calls prog 123 #[.pointer (some ⟨P,0,none⟩),.agg nd.cells.toArray] w λe w'=>e=.returned (.int .i64 s.nodes.length)/\∃F',eO B WV w' P ws (ch nd s) F'/\au F w F' w':=by
 obtain⟨i0,hi,gX,fK,f9⟩:=info_parts infoNode;have HQ:=ab h;obtain⟨n0,n1,n2,n3,n4,n5⟩:=nd;obtain⟨w0,mt⟩:∃w0,w0=w.alloc (.cells #[.int .i64 n0,.int .i64 n1,.int .i64 n2,.int .i64 n3,.int .i64 ((s.nodes.length:Int)+1),.int .i64 n5] 186):=⟨_,rfl⟩;have h0:eO B WV w0 P ws s F:=by rw[mt];exact h.alloc _
 have sF:Hid (au F w F w0):=ab (by rw[mt];exact(au.refl F w).alloc _);have hr0:w0.heap[w.heap.size]?=some (.cells #[.int .i64 n0,.int .i64 n1,.int .i64 n2,.int .i64 n3,.int .i64 ((s.nodes.length:Int)+1),.int .i64 n5] 186 (0,0)):=by rw[mt];exact heap_alloc_new w _
 have Yr:=ab mt;have pf:w.heap.size<w0.heap.size:=by rw[mt];simp
 have HN0:Hid (w.heap.size ∉ F):=ab (λhm=>by have:=(h.m.mem _ hm).2;omega);clear mt;obtain⟨wv,vv,hv,nv,ei⟩:=h.m.named;obtain⟨_,_,_,_,c5,fz⟩:=ei.readsV;obtain⟨ao,cap,rfl⟩:=bJ ei.2.2.2.2.2.1;have hPw:P<w.heap.size:=(h.m.mem P h.m.memP).2;have f5:=fz 5;clear h h0 fz;simp only[Nd.cells];go_enter func123,ntmps123;go_wp2_with fail
 rw[<-uh Yr];have FG:dB B WV w0 P ws s F wv vv hv (.slice ao s.nodes.length cap):=by rw[uh Yr];exact ei.alloc _
 clear c5 f5;obtain⟨_,_,_,_,c5,fz⟩:=FG.readsV;have f5:=fz 5;obtain⟨⟨q0,q1,q2,q3,q4,q5⟩,_⟩:=gB hr0;have uC:=ab hr0;have yL:P<w0.heap.size:=by omega
 have TH:B<=w0.heap.size:=by have:=(FG.is.mem P FG.is.memP).1;omega
 have D3:Hid ((Value.slice ao s.nodes.length cap).ownBlock≠some P):=ab (λe=>FG.apart.1 P (by simp[e]) rfl);have kY:=ab FG.2.2.2.2.2.1;have qc:∀(b j k:Nat) (o:Obj) (v:Value),b<w0.heap.size->w0.cell? ⟨b,j,none⟩=some v->((w0.drewN k).alloc o).cell? ⟨b,j,none⟩=some v:=λb j k o v hb hv=>(cell?_of_block (a:=⟨b,j,none⟩) (heap_alloc (w0.drewN k) o b hb)).trans hv;have c5a:=λk o=>qc P 5 k o _ yL c5;have q0a:=λk o=>qc _ 0 k o _ pf q0;have q1a:=λk o=>qc _ 1 k o _ pf q1;have q2a:=λk o=>qc _ 2 k o _ pf q2;have q3a:=λk o=>qc _ 3 k o _ pf q3;have q4a:=λk o=>qc _ 4 k o _ pf q4;have q5a:=λk o=>qc _ 5 k o _ pf q5;have HV0:=ab FG;clear qc fz FG hr0 ei;go_region_law (refine ju _ rfl (.tmp 18) (.tmp 20) 103 rfl B 186 i0 _ 6 48 underlying103 hi gX fK f9 rfl (by decide) (.slice ao s.nodes.length cap) s.nodes.length (bq s.nodes) (by simp[Act.eval]) (sl (uh kY) _ _) ⟨w0.heap.size,0,none⟩ 1 [.int .i64 n0,.int .i64 n1,.int .i64 n2,.int .i64 n3,.int .i64 ((s.nodes.length:Int)+1),.int .i64 n5] (by simp[Act.eval]) rfl (aN (w0.drewN _) _ rfl _ _) (Nd.one ⟨n0,n1,n2,n3,s.nodes.length+1,n5⟩) (by omega) (by omega) (yT TH _ _) ?_;intro g2 cap2 w2 bC aM dO;have c5':=il aM yL (uh D3) 5 c5;have f5':=eT aM yL (uh D3) 5 f5;obtain⟨F',Zv,ZI⟩:=dB.pushNodes ⟨n0,n1,n2,n3,s.nodes.length+1,n5⟩ ((uh HV0).drewN _) aM bC dO;have xd:=ab Zv;have HS':=ab ZI;clear bC aM dO Zv ZI)
 all_goals
  go_wp2_with fail
  go_ret;exact⟨rfl,F',⟨uh xd,(uh HQ).f⟩,((uh sF).drewN _).trans (uh HS')⟩
end
def oU:ByteArray:=⟨#[110,101,119]⟩
def iJ:ByteArray:=⟨#[46]⟩
def kN:ByteArray:=⟨#[110]⟩
def ie:ByteArray:=⟨#[115,107,105,112]⟩
def jd:ByteArray:=⟨#[102,114,101,101]⟩
def yz(ws:List ByteArray)(s:PS):PS:=if bR ws sU s then s.adv else aG ws gR s
def RI(ws:List ByteArray)(s:PS):Nat:=if bR ws sU s then 9 else 8
def ti(ws:List ByteArray)(s:PS):PS:=if bR ws dq s then s.adv else ce ws (yz ws (bK ws s))
def BD(ws:List ByteArray)(s:PS):Nd :=
 if bR ws dq s then ⟨7,0,0,0,0,0⟩ else ⟨RI ws (bK ws s),mI ws s,dI ws (yz ws (bK ws s)),eM ws (yz ws (bK ws s)),0,0⟩
def Mj(ws:List ByteArray)(s:PS):PS:=aG ws iY (ti ws (aG ws gb s))
def gl(ws:List ByteArray)(s:PS):PS:=ch (BD ws (aG ws gb s)) (Mj ws s)
def D7(ws:List ByteArray)(s:PS):Bool:=dI ws s==1&&bR ws iJ (ce ws s)
def oL(ws:List ByteArray)(s:PS):PS:=if bR ws oU s then s.adv else if D7 ws s then aG ws kN (ce ws s).adv else ce ws s
def xn(ws:List ByteArray)(v:Nat)(s:PS):Nd:=if bR ws oU s then ⟨4,v,0,0,0,0⟩ else if D7 ws s then ⟨2,v,dI ws s,eM ws s,0,0⟩ else ⟨1,v,dI ws s,eM ws s,0,0⟩
def zj(ws:List ByteArray)(s:PS):PS:=aG ws gR (aG ws kN s.adv)
def io(ws:List ByteArray)(s:PS):PS :=
 if bR ws ie s then s.adv else if bR ws jd s then bK ws s.adv else if bR ws iJ (bK ws s) then ce ws (zj ws (bK ws s)) else oL ws (aG ws gR (bK ws s))
def kx(ws:List ByteArray)(s:PS):Nd :=
 if bR ws ie s then ⟨6,0,0,0,0,0⟩ else if bR ws jd s then ⟨5,mI ws s.adv,0,0,0,0⟩ else
 if bR ws iJ (bK ws s) then ⟨3,mI ws s,dI ws (zj ws (bK ws s)),eM ws (zj ws (bK ws s)),0,0⟩ else xn ws (mI ws s) (aG ws gR (bK ws s))
section
variable {B:Nat} {WV:Value} {w:World} {P:Nat} {ws:List ByteArray} {s:PS} {F:List Nat}
theorem xO(h:eO B WV w P ws s F):
  Calls prog 247 #[.pointer (some ⟨P,0,none⟩)] w λe w'=>e=.returned (.agg (BD ws s).cells.toArray)/\∃F',eO B WV w' P ws (ti ws s) F'/\au F w F' w':=by
 have HQ:=ab h;clear h;cases hb:bR ws dq s with
 |true =>
  have HN:Hid (BD ws s=⟨7,0,0,0,0,0⟩):=ab (if_pos hb);have HS:Hid (ti ws s=s.adv):=ab (if_pos hb);have HE:Hid (lO ws dq s=s.adv):=ab (if_pos hb);have HB:=ab hb;clear hb;go_enter func247,ntmps247;have mn:=λo=>ab (aC dq (by decide) ((uh HQ).alloc o));simp only[uh HB,uh HE]at mn;go_wp2_with fail
  refine(uh (mn _)).mono ?_;rintro e w1 ⟨rfl,dN,bX⟩;have mW:=((au.refl F w).alloc _).trans bX;obtain⟨fC,et,xX⟩:=bN (uh HQ).m bX;have jg:=ab fC;have fs:=ab dN;have cD:=ab mW;clear dN bX mW fC;obtain⟨⟨qr0,qr1,qr2,qr3,qr4,qr5⟩,zr0,zr1,zr2,zr3,zr4,zr5⟩:=gB (uh jg);clear jg;go_wp2_with fail
  refine bodyPost_ret (v:=.agg #[.int .i64 7,.int .i64 0,.int .i64 0,.int .i64 0,.int .i64 0,.int .i64 0]) (by simp[results,Tryz.results247,go_sem,qr0,qr1,qr2,qr3,qr4,qr5]) rfl ⟨by rw[uh HN];rfl,F,?_,?_⟩
  .rw[uh HS];exact(((((((uh fs).setOther et _).setOther et _).setOther et _).setOther et _).setOther et _).setOther et _)
  .exact(((((((uh cD).setCell (zq1 (zq4 _)) _).setCell (zq1 (zq4 _)) _).setCell (zq1 (zq4 _)) _).setCell (zq1 (zq4 _)) _).setCell (zq1 (zq4 _)) _).setCell (zq1 (zq4 _)) _)
 |false =>
  have HE:Hid (lO ws dq s=s):=ab (if_neg (by simp[hb]));have HN:Hid (BD ws s=⟨RI ws (bK ws s),mI ws s,dI ws (yz ws (bK ws s)),eM ws (yz ws (bK ws s)),0,0⟩):=ab (if_neg (by simp[hb]));have HS:Hid (ti ws s=ce ws (yz ws (bK ws s))):=ab (if_neg (by simp[hb]));have HB:=ab hb;clear hb;cases aU:bR ws sU (bK ws s) with
  |true =>
   have HO:Hid (RI ws (bK ws s)=9):=ab (if_pos aU);have HT:Hid (yz ws (bK ws s)=(bK ws s).adv):=ab (if_pos aU);have yh:Hid (lO ws sU (bK ws s)=(bK ws s).adv):=ab (if_pos aU);have eu:=ab aU;clear aU;rw[uh HO,uh HT]at HN;rw[uh HT]at HS;go_enter func247,ntmps247;have mn:=λo=>ab (aC dq (by decide) ((uh HQ).alloc o));simp only[uh HB,uh HE]at mn;go_wp2_with fail
   refine(uh (mn _)).mono ?_;rintro e w1 ⟨rfl,dN,bX⟩;have mW:=((au.refl F w).alloc _).trans bX;obtain⟨fC,et,xX⟩:=bN (uh HQ).m bX;have jg:=ab fC;have fs:=ab dN;have cD:=ab mW;clear dN bX mW fC;go_wp2_with fail
   refine(fe (uh fs)).mono ?_;rintro e w2 ⟨rfl,F2,cg,bS⟩;obtain⟨jH,lg,CT⟩:=aA (uh jg) et bS;have oI:=ab jH;have d7:=ab cg;have cS:=ab ((uh cD).trans bS);clear cg bS jH;have EC:=aC sU (by decide) (uh d7);rw[uh eu,uh yh]at EC;replace EC:=ab EC
   go_wp2_with fail
   refine(uh EC).mono ?_;rintro e w3 ⟨rfl,fI,cB⟩;obtain⟨k7,jJ,KJ⟩:=aA (uh oI) lg cB;have pz:=ab k7;have jb:=ab fI;have gu:=ab ((uh cS).trans cB);clear fI cB k7;go_wp2_with fail
   refine(ip (uh jb)).mono ?_;rintro e w4 ⟨rfl,F4,mp,fh⟩;obtain⟨qy,l8,O4⟩:=aA (uh pz) jJ fh;have uy:=ab qy;have oJ:=ab mp;have mA:=ab ((uh gu).trans fh);clear mp fh qy;obtain⟨⟨qr0,qr1,qr2,qr3,qr4,qr5⟩,zr0,zr1,zr2,zr3,zr4,zr5⟩:=gB (uh uy);clear uy;go_wp2_with fail
   refine bodyPost_ret (v:=.agg #[.int .i64 9,.int .i64 (mI ws s),.int .i64 (dI ws (bK ws s).adv),.int .i64 (eM ws (bK ws s).adv),.int .i64 0,.int .i64 0]) (by simp[results,Tryz.results247,go_sem,cell?_alloc_past,O4,qr0,qr1,qr2,qr3,qr4,qr5]) rfl ⟨by rw[uh HN];rfl,F4,?_,?_⟩
   .rw[uh HS];exact(((((((uh oJ).setOther l8 _).setOther l8 _).setOther l8 _).setOther l8 _).setOther l8 _).setOther l8 _).alloc _
   .exact(((((((uh mA).setCell (zq1 (zq4 _)) _).setCell (zq1 (zq4 _)) _).setCell (zq1 (zq4 _)) _).setCell (zq1 (zq4 _)) _).setCell (zq1 (zq4 _)) _).setCell (zq1 (zq4 _)) _).alloc _
  |false =>
   have HO:Hid (RI ws (bK ws s)=8):=ab (if_neg (by simp[aU]));have HT:Hid (yz ws (bK ws s)=aG ws gR (bK ws s)):=ab (if_neg (by simp[aU]));have yh:Hid (lO ws sU (bK ws s)=bK ws s):=ab (if_neg (by simp[aU]));have eu:=ab aU;clear aU;rw[uh HO,uh HT]at HN;rw[uh HT]at HS;go_enter func247,ntmps247;have mn:=λo=>ab (aC dq (by decide) ((uh HQ).alloc o));simp only[uh HB,uh HE]at mn;go_wp2_with fail
   refine(uh (mn _)).mono ?_;rintro e w1 ⟨rfl,dN,bX⟩;have mW:=((au.refl F w).alloc _).trans bX;obtain⟨fC,et,xX⟩:=bN (uh HQ).m bX;have jg:=ab fC;have fs:=ab dN;have cD:=ab mW;clear dN bX mW fC;go_wp2_with fail
   refine(fe (uh fs)).mono ?_;rintro e w2 ⟨rfl,F2,cg,bS⟩;obtain⟨jH,lg,CT⟩:=aA (uh jg) et bS;have oI:=ab jH;have d7:=ab cg;have cS:=ab ((uh cD).trans bS);clear cg bS jH;have EC:=aC sU (by decide) (uh d7);rw[uh eu,uh yh]at EC;replace EC:=ab EC
   go_wp2_with fail
   refine(uh EC).mono ?_;rintro e w3 ⟨rfl,fI,cB⟩;obtain⟨k7,jJ,KJ⟩:=aA (uh oI) lg cB;have pz:=ab k7;have jb:=ab fI;have gu:=ab ((uh cS).trans cB);clear fI cB k7;go_wp2_with fail
   refine(aY gR (by decide) (uh jb)).mono ?_;rintro e w4 ⟨rfl,mp,fh⟩;obtain⟨qy,l8,O4⟩:=aA (uh pz) jJ fh;have uy:=ab qy;have oJ:=ab mp;have mA:=ab ((uh gu).trans fh);clear mp fh qy;go_wp2_with fail
   refine(ip (uh oJ)).mono ?_;rintro e w5 ⟨rfl,F5,rV,fX⟩;obtain⟨CM,xY,aac⟩:=aA (uh uy) l8 fX;have JI:=ab CM;have GN:=ab rV;have s9:=ab ((uh mA).trans fX);clear rV fX CM;obtain⟨⟨qr0,qr1,qr2,qr3,qr4,qr5⟩,zr0,zr1,zr2,zr3,zr4,zr5⟩:=gB (uh JI);clear JI;go_wp2_with fail
   refine bodyPost_ret (v:=.agg #[.int .i64 8,.int .i64 (mI ws s),.int .i64 (dI ws (aG ws gR (bK ws s))),.int .i64 (eM ws (aG ws gR (bK ws s))),.int .i64 0,.int .i64 0]) (by simp[results,Tryz.results247,go_sem,cell?_alloc_past,aac,qr0,qr1,qr2,qr3,qr4,qr5]) rfl ⟨by rw[uh HN];rfl,F5,?_,?_⟩
   .rw[uh HS];exact(((((((uh GN).setOther xY _).setOther xY _).setOther xY _).setOther xY _).setOther xY _).setOther xY _).alloc _
   .exact(((((((uh s9).setCell (zq1 (zq4 _)) _).setCell (zq1 (zq4 _)) _).setCell (zq1 (zq4 _)) _).setCell (zq1 (zq4 _)) _).setCell (zq1 (zq4 _)) _).setCell (zq1 (zq4 _)) _).alloc _
end
section
variable {ws:List ByteArray} {s:PS}
theorem bz(k:ByteArray):(aG ws k s).nodes=s.nodes:=by unfold aG;split <;> rfl
theorem lF:(bK ws s).nodes=s.nodes:=by unfold bK;split <;> rfl
theorem jV:(ce ws s).nodes=s.nodes:=by unfold ce;split;rfl;exact lF
theorem oF:(fA ws s).nodes=s.nodes:=by unfold fA;split;rfl;exact jV
theorem J2:(yz ws s).nodes=s.nodes:=by unfold yz;split;rfl;exact bz _
theorem J1:(ti ws s).nodes=s.nodes:=by unfold ti;split;rfl;rw[jV,J2,lF]
theorem sE:(Mj ws s).nodes=s.nodes:=by unfold Mj;rw[bz,J1,bz]
theorem JW:(oL ws s).nodes=s.nodes:=by unfold oL;split;rfl;split;rw[bz];exact jV;exact jV
theorem zl:(io ws s).nodes=s.nodes:=by
 unfold io;split;rfl;split;rw[lF];rfl;split
 .rw[jV];unfold zj;rw[bz,bz];exact lF
 .rw[JW,bz,lF]
end
section
variable {B:Nat} {WV:Value} {w:World} {P:Nat} {ws:List ByteArray} {s:PS} {F:List Nat}
theorem wP(hn:s.nodes.length<=100000)(h:eO B WV w P ws s F):
  Calls prog 214 #[.pointer (some ⟨P,0,none⟩)] w λe w'=>e=.returned (.int .i64 s.nodes.length)/\∃F',eO B WV w' P ws (gl ws s) F'/\au F w F' w':=by
 have HQ:=ab h;clear h;go_enter func214,ntmps214;go_wp2_with fail
 refine(aY gb (by decide) (uh HQ)).mono ?_;rintro e w1 ⟨rfl,dN,bX⟩;have fs:=ab dN;have cD:=ab bX;clear dN bX;go_wp2_with fail
 refine(xO (uh fs)).mono ?_;rintro e w2 ⟨rfl,F2,cg,bS⟩;have d7:=ab cg;have cS:=ab ((uh cD).trans bS);clear cg bS;obtain⟨A0,BH⟩:∃A0,A0=BD ws (aG ws gb s):=⟨_,rfl⟩;have HA0:=ab BH;rw[<-BH];clear BH;obtain⟨n0,n1,n2,n3,n4,n5⟩:=A0;simp only[Nd.cells];go_wp2_with fail
 refine(aY iY (by decide) ((uh d7).alloc _)).mono ?_;rintro e w3 ⟨rfl,fI,cB⟩;have Fq:=((au.refl F2 w2).alloc _).trans cB;obtain⟨afx,arU,arK⟩:=bN (uh d7).m cB;have aji:=ab afx;have jb:=ab fI;have gu:=ab ((uh cS).trans Fq);clear fI cB Fq afx;obtain⟨⟨q0,q1,q2,q3,q4,q5⟩,_⟩:=gB (uh aji);have Fr:=tL ⟨n0,n1,n2,n3,n4,n5⟩ (uh jb) (by show(Mj ws s).nodes.length<=100000;rw[sE];exact hn);simp only[Nd.cells]at Fr;have XZ:=ab Fr;clear Fr;go_wp2_with fail
 refine(uh XZ).mono ?_;rintro e w4 ⟨rfl,F4,mp,fh⟩;have oJ:=ab mp;have mA:=ab ((uh gu).trans fh);clear mp fh;go_wp2_with fail
 go_ret;refine⟨br (by show(((Mj ws s).nodes.length:Nat):Int)=_;rw[sE]),F4,?_,uh mA⟩;unfold gl;rw[<-uh HA0];exact uh oJ
theorem uO(v:Nat)(h:eO B WV w P ws s F):
  Calls prog 216 #[.pointer (some ⟨P,0,none⟩),.int .i64 (v:Int)] w λe w'=>e=.returned (.agg (xn ws v s).cells.toArray)/\∃F',eO B WV w' P ws (oL ws s) F'/\au F w F' w':=by
 have HQ:=ab h;clear h;cases hb:bR ws oU s with
 |true =>
  have HN:Hid (xn ws v s=⟨4,v,0,0,0,0⟩):=ab (if_pos hb);have HS:Hid (oL ws s=s.adv):=ab (if_pos hb);have HE:Hid (lO ws oU s=s.adv):=ab (if_pos hb);have HB:=ab hb;clear hb;go_enter func216,ntmps216;have mn:=λo=>ab (aC oU (by decide) ((uh HQ).alloc o));simp only[uh HB,uh HE]at mn;go_wp2_with fail
  refine(uh (mn _)).mono ?_;rintro e w1 ⟨rfl,dN,bX⟩;have mW:=((au.refl F w).alloc _).trans bX;obtain⟨fC,et,xX⟩:=bN (uh HQ).m bX;have jg:=ab fC;have fs:=ab dN;have cD:=ab mW;clear dN bX mW fC;obtain⟨⟨qr0,qr1,qr2,qr3,qr4,qr5⟩,zr0,zr1,zr2,zr3,zr4,zr5⟩:=gB (uh jg);clear jg;go_wp2_with fail
  refine bodyPost_ret (v:=.agg #[.int .i64 4,.int .i64 v,.int .i64 0,.int .i64 0,.int .i64 0,.int .i64 0]) (by simp[results,Tryz.results216,go_sem,qr0,qr1,qr2,qr3,qr4,qr5]) rfl ⟨by rw[uh HN];rfl,F,?_,?_⟩
  .rw[uh HS];exact(((((((uh fs).setOther et _).setOther et _).setOther et _).setOther et _).setOther et _).setOther et _)
  .exact(((((((uh cD).setCell (zq1 (zq4 _)) _).setCell (zq1 (zq4 _)) _).setCell (zq1 (zq4 _)) _).setCell (zq1 (zq4 _)) _).setCell (zq1 (zq4 _)) _).setCell (zq1 (zq4 _)) _)
 |false =>
  have HE:Hid (lO ws oU s=s):=ab (if_neg (by simp[hb]));have HB:=ab hb;cases hk:(dI ws s==1) with
  |false =>
   have HN:Hid (xn ws v s=⟨1,v,dI ws s,eM ws s,0,0⟩):=ab (by unfold xn D7;rw[hb,hk];rfl);have HS:Hid (oL ws s=ce ws s):=ab (by unfold oL D7;rw[hb,hk];rfl);have hkf:(((dI ws s:Nat):Int)==1)=false:=(by simp at hk ⊢;omega);clear hb hk;go_enter func216,ntmps216;have mn:=λo=>ab (aC oU (by decide) ((uh HQ).alloc o));simp only[uh HB,uh HE]at mn;go_wp2_with fail
   refine(uh (mn _)).mono ?_;rintro e w1 ⟨rfl,dN,bX⟩;have mW:=((au.refl F w).alloc _).trans bX;obtain⟨fC,et,xX⟩:=bN (uh HQ).m bX;have jg:=ab fC;have fs:=ab dN;have cD:=ab mW;clear dN bX mW fC;go_wp2_with fail
   refine(ip (uh fs)).mono ?_;rintro e w2 ⟨rfl,F2,cg,bS⟩;obtain⟨jH,lg,CT⟩:=aA (uh jg) et bS;have oI:=ab jH;have d7:=ab cg;have cS:=ab ((uh cD).trans bS);clear cg bS jH;obtain⟨⟨qr0,qr1,qr2,qr3,qr4,qr5⟩,zr0,zr1,zr2,zr3,zr4,zr5⟩:=gB (uh oI);clear oI;go_wp2_with fail
   refine bodyPost_ret (v:=.agg #[.int .i64 1,.int .i64 v,.int .i64 (dI ws s),.int .i64 (eM ws s),.int .i64 0,.int .i64 0]) (by simp[results,Tryz.results216,go_sem,cell?_alloc_past,CT,qr0,qr1,qr2,qr3,qr4,qr5]) rfl ⟨by rw[uh HN];rfl,F2,?_,?_⟩
   .rw[uh HS];exact(((((((uh d7).setOther lg _).setOther lg _).setOther lg _).setOther lg _).setOther lg _).setOther lg _).alloc _
   .exact(((((((uh cS).setCell (zq1 (zq4 _)) _).setCell (zq1 (zq4 _)) _).setCell (zq1 (zq4 _)) _).setCell (zq1 (zq4 _)) _).setCell (zq1 (zq4 _)) _).setCell (zq1 (zq4 _)) _).alloc _
  |true =>
   have hkt:(((dI ws s:Nat):Int)==1)=true:=(by simp at hk ⊢;omega);cases hd:bR ws iJ (ce ws s) with
   |false =>
    have HN:Hid (xn ws v s=⟨1,v,dI ws s,eM ws s,0,0⟩):=ab (by unfold xn D7;rw[hb,hk,hd];rfl);have HS:Hid (oL ws s=ce ws s):=ab (by unfold oL D7;rw[hb,hk,hd];rfl);have yh:Hid (lO ws iJ (ce ws s)=ce ws s):=ab (if_neg (by simp[hd]));have eu:=ab hd;clear hb hk hd;go_enter func216,ntmps216;have mn:=λo=>ab (aC oU (by decide) ((uh HQ).alloc o));simp only[uh HB,uh HE]at mn;go_wp2_with fail
    refine(uh (mn _)).mono ?_;rintro e w1 ⟨rfl,dN,bX⟩;have mW:=((au.refl F w).alloc _).trans bX;obtain⟨fC,et,xX⟩:=bN (uh HQ).m bX;have jg:=ab fC;have fs:=ab dN;have cD:=ab mW;clear dN bX mW fC;go_wp2_with fail
    refine(ip (uh fs)).mono ?_;rintro e w2 ⟨rfl,F2,cg,bS⟩;obtain⟨jH,lg,CT⟩:=aA (uh jg) et bS;have oI:=ab jH;have d7:=ab cg;have cS:=ab ((uh cD).trans bS);clear cg bS jH;have EC:=λo=>ab (aC iJ (by decide) ((uh d7).alloc o));simp only[uh eu,uh yh]at EC;go_wp2_with fail
    refine(uh (EC _)).mono ?_;rintro e w3 ⟨rfl,fI,cB⟩;have Fq:=((au.refl F2 w2).alloc _).trans cB;obtain⟨k7,jJ,KJ⟩:=aA (uh oI) lg Fq;obtain⟨Kw,agm,alz⟩:=bN (uh d7).m cB;have pz:=ab k7;have X5:=ab Kw;have jb:=ab fI;have gu:=ab ((uh cS).trans Fq);clear fI cB Fq k7 Kw;obtain⟨⟨qr0,qr1,qr2,qr3,qr4,qr5⟩,zr0,zr1,zr2,zr3,zr4,zr5⟩:=gB (uh pz);clear pz;obtain⟨⟨qb0,qb1⟩,zb0,zb1⟩:=kD (uh X5);go_wp2_with fail
    refine bodyPost_ret (v:=.agg #[.int .i64 1,.int .i64 v,.int .i64 (dI ws s),.int .i64 (eM ws s),.int .i64 0,.int .i64 0]) (by simp[results,Tryz.results216,go_sem,qr0,qr1,qr2,qr3,qr4,qr5]) rfl ⟨by rw[uh HN];rfl,F2,?_,?_⟩
    .rw[uh HS];exact(((((((uh jb).setOther jJ _).setOther jJ _).setOther jJ _).setOther jJ _).setOther jJ _).setOther jJ _)
    .exact(((((((uh gu).setCell (zq1 (zq4 _)) _).setCell (zq1 (zq4 _)) _).setCell (zq1 (zq4 _)) _).setCell (zq1 (zq4 _)) _).setCell (zq1 (zq4 _)) _).setCell (zq1 (zq4 _)) _)
   |true =>
    have HN:Hid (xn ws v s=⟨2,v,dI ws s,eM ws s,0,0⟩):=ab (by unfold xn D7;rw[hb,hk,hd];rfl);have HS:Hid (oL ws s=aG ws kN (ce ws s).adv):=ab (by unfold oL D7;rw[hb,hk,hd];rfl);have yh:Hid (lO ws iJ (ce ws s)=(ce ws s).adv):=ab (if_pos hd);have eu:=ab hd;clear hb hk hd;go_enter func216,ntmps216;have mn:=λo=>ab (aC oU (by decide) ((uh HQ).alloc o));simp only[uh HB,uh HE]at mn;go_wp2_with fail
    refine(uh (mn _)).mono ?_;rintro e w1 ⟨rfl,dN,bX⟩;have mW:=((au.refl F w).alloc _).trans bX;obtain⟨fC,et,xX⟩:=bN (uh HQ).m bX;have jg:=ab fC;have fs:=ab dN;have cD:=ab mW;clear dN bX mW fC;go_wp2_with fail
    refine(ip (uh fs)).mono ?_;rintro e w2 ⟨rfl,F2,cg,bS⟩;obtain⟨jH,lg,CT⟩:=aA (uh jg) et bS;have oI:=ab jH;have d7:=ab cg;have cS:=ab ((uh cD).trans bS);clear cg bS jH;have EC:=λo=>ab (aC iJ (by decide) ((uh d7).alloc o));simp only[uh eu,uh yh]at EC;go_wp2_with fail
    refine(uh (EC _)).mono ?_;rintro e w3 ⟨rfl,fI,cB⟩;have Fq:=((au.refl F2 w2).alloc _).trans cB;obtain⟨k7,jJ,KJ⟩:=aA (uh oI) lg Fq;obtain⟨Kw,agm,alz⟩:=bN (uh d7).m cB;have pz:=ab k7;have X5:=ab Kw;have jb:=ab fI;have gu:=ab ((uh cS).trans Fq);clear fI cB Fq k7 Kw;go_wp2_with fail
    refine(aY kN (by decide) (uh jb)).mono ?_;rintro e w4 ⟨rfl,mp,fh⟩;obtain⟨qy,l8,O4⟩:=aA (uh pz) jJ fh;obtain⟨ZS,arW,arL⟩:=aA (uh X5) agm fh;have uy:=ab qy;have ajj:=ab ZS;have oJ:=ab mp;have mA:=ab ((uh gu).trans fh);clear mp fh qy ZS;obtain⟨⟨qr0,qr1,qr2,qr3,qr4,qr5⟩,zr0,zr1,zr2,zr3,zr4,zr5⟩:=gB (uh uy);clear uy;obtain⟨⟨qb0,qb1⟩,zb0,zb1⟩:=kD (uh ajj);go_wp2_with fail
    refine bodyPost_ret (v:=.agg #[.int .i64 2,.int .i64 v,.int .i64 (dI ws s),.int .i64 (eM ws s),.int .i64 0,.int .i64 0]) (by simp[results,Tryz.results216,go_sem,qr0,qr1,qr2,qr3,qr4,qr5]) rfl ⟨by rw[uh HN];rfl,F2,?_,?_⟩
    .rw[uh HS];exact(((((((uh oJ).setOther l8 _).setOther l8 _).setOther l8 _).setOther l8 _).setOther l8 _).setOther l8 _)
    .exact(((((((uh mA).setCell (zq1 (zq4 _)) _).setCell (zq1 (zq4 _)) _).setCell (zq1 (zq4 _)) _).setCell (zq1 (zq4 _)) _).setCell (zq1 (zq4 _)) _).setCell (zq1 (zq4 _)) _)
theorem Gw(h:eO B WV w P ws s F):
  Calls prog 188 #[.pointer (some ⟨P,0,none⟩)] w λe w'=>e=.returned (.agg (kx ws s).cells.toArray)/\∃F',eO B WV w' P ws (io ws s) F'/\au F w F' w':=by
 have HQ:=ab h;clear h;cases hb:bR ws ie s with
 |true =>
  have HN:Hid (kx ws s=⟨6,0,0,0,0,0⟩):=ab (if_pos hb);have HS:Hid (io ws s=s.adv):=ab (if_pos hb);have HE:Hid (lO ws ie s=s.adv):=ab (if_pos hb);have HB:=ab hb;clear hb;go_enter func188,ntmps188;have mn:=λo=>ab (aC ie (by decide) ((uh HQ).alloc o));simp only[uh HB,uh HE]at mn;go_wp2_with fail
  refine(uh (mn _)).mono ?_;rintro e w1 ⟨rfl,dN,bX⟩;have mW:=((au.refl F w).alloc _).trans bX;obtain⟨fC,et,xX⟩:=bN (uh HQ).m bX;have jg:=ab fC;have fs:=ab dN;have cD:=ab mW;clear dN bX mW fC;obtain⟨⟨qr0,qr1,qr2,qr3,qr4,qr5⟩,zr0,zr1,zr2,zr3,zr4,zr5⟩:=gB (uh jg);clear jg;go_wp2_with fail
  refine bodyPost_ret (v:=.agg #[.int .i64 6,.int .i64 0,.int .i64 0,.int .i64 0,.int .i64 0,.int .i64 0]) (by simp[results,Tryz.results188,go_sem,qr0,qr1,qr2,qr3,qr4,qr5]) rfl ⟨by rw[uh HN];rfl,F,?_,?_⟩
  .rw[uh HS];exact(((((((uh fs).setOther et _).setOther et _).setOther et _).setOther et _).setOther et _).setOther et _)
  .exact(((((((uh cD).setCell (zq1 (zq4 _)) _).setCell (zq1 (zq4 _)) _).setCell (zq1 (zq4 _)) _).setCell (zq1 (zq4 _)) _).setCell (zq1 (zq4 _)) _).setCell (zq1 (zq4 _)) _)
 |false =>
  have HE:Hid (lO ws ie s=s):=ab (if_neg (by simp[hb]));have HB:=ab hb;cases aU:bR ws jd s with
  |true =>
   have HN:Hid (kx ws s=⟨5,mI ws s.adv,0,0,0,0⟩):=ab (by unfold kx;rw[hb,aU];rfl);have HS:Hid (io ws s=bK ws s.adv):=ab (by unfold io;rw[hb,aU];rfl);have yh:Hid (lO ws jd s=s.adv):=ab (if_pos aU);have eu:=ab aU;clear hb aU;go_enter func188,ntmps188;have mn:=λo=>ab (aC ie (by decide) ((uh HQ).alloc o));simp only[uh HB,uh HE]at mn;go_wp2_with fail
   refine(uh (mn _)).mono ?_;rintro e w1 ⟨rfl,dN,bX⟩;have mW:=((au.refl F w).alloc _).trans bX;obtain⟨fC,et,xX⟩:=bN (uh HQ).m bX;have jg:=ab fC;have fs:=ab dN;have cD:=ab mW;clear dN bX mW fC;have kX:=aC jd (by decide) (uh fs);rw[uh eu,uh yh]at kX;replace kX:=ab kX
   go_wp2_with fail
   refine(uh kX).mono ?_;rintro e w2 ⟨rfl,cg,bS⟩;obtain⟨jH,lg,CT⟩:=aA (uh jg) et bS;have oI:=ab jH;have d7:=ab cg;have cS:=ab ((uh cD).trans bS);clear cg bS jH;go_wp2_with fail
   refine(fe (uh d7)).mono ?_;rintro e w3 ⟨rfl,F3,fI,cB⟩;obtain⟨k7,jJ,KJ⟩:=aA (uh oI) lg cB;have pz:=ab k7;have jb:=ab fI;have gu:=ab ((uh cS).trans cB);clear fI cB k7;obtain⟨⟨qr0,qr1,qr2,qr3,qr4,qr5⟩,zr0,zr1,zr2,zr3,zr4,zr5⟩:=gB (uh pz);clear pz;go_wp2_with fail
   refine bodyPost_ret (v:=.agg #[.int .i64 5,.int .i64 (mI ws s.adv),.int .i64 0,.int .i64 0,.int .i64 0,.int .i64 0]) (by simp[results,Tryz.results188,go_sem,qr0,qr1,qr2,qr3,qr4,qr5]) rfl ⟨by rw[uh HN];rfl,F3,?_,?_⟩
   .rw[uh HS];exact(((((((uh jb).setOther jJ _).setOther jJ _).setOther jJ _).setOther jJ _).setOther jJ _).setOther jJ _)
   .exact(((((((uh gu).setCell (zq1 (zq4 _)) _).setCell (zq1 (zq4 _)) _).setCell (zq1 (zq4 _)) _).setCell (zq1 (zq4 _)) _).setCell (zq1 (zq4 _)) _).setCell (zq1 (zq4 _)) _)
  |false =>
   have yh:Hid (lO ws jd s=s):=ab (if_neg (by simp[aU]));have eu:=ab aU;cases du:bR ws iJ (bK ws s) with
   |true =>
    have HN:Hid (kx ws s=⟨3,mI ws s,dI ws (zj ws (bK ws s)),eM ws (zj ws (bK ws s)),0,0⟩):=ab (by unfold kx;rw[hb,aU,du];rfl);have HS:Hid (io ws s=ce ws (zj ws (bK ws s))):=ab (by unfold io;rw[hb,aU,du];rfl);have HE3:Hid (lO ws iJ (bK ws s)=(bK ws s).adv):=ab (if_pos du);have HL:Hid (aG ws gR (aG ws kN (bK ws s).adv)=zj ws (bK ws s)):=ab rfl;have s8:=ab du;clear hb aU du;go_enter func188,ntmps188;have mn:=λo=>ab (aC ie (by decide) ((uh HQ).alloc o));simp only[uh HB,uh HE]at mn;go_wp2_with fail
    refine(uh (mn _)).mono ?_;rintro e w1 ⟨rfl,dN,bX⟩;have mW:=((au.refl F w).alloc _).trans bX;obtain⟨fC,et,xX⟩:=bN (uh HQ).m bX;have jg:=ab fC;have fs:=ab dN;have cD:=ab mW;clear dN bX mW fC;have kX:=aC jd (by decide) (uh fs);rw[uh eu,uh yh]at kX;replace kX:=ab kX
    go_wp2_with fail
    refine(uh kX).mono ?_;rintro e w2 ⟨rfl,cg,bS⟩;obtain⟨jH,lg,CT⟩:=aA (uh jg) et bS;have oI:=ab jH;have d7:=ab cg;have cS:=ab ((uh cD).trans bS);clear cg bS jH;go_wp2_with fail
    refine(fe (uh d7)).mono ?_;rintro e w3 ⟨rfl,F3,fI,cB⟩;obtain⟨k7,jJ,KJ⟩:=aA (uh oI) lg cB;have pz:=ab k7;have jb:=ab fI;have gu:=ab ((uh cS).trans cB);clear fI cB k7;have xG:=aC iJ (by decide) (uh jb);rw[uh s8,uh HE3]at xG;replace xG:=ab xG
    go_wp2_with fail
    refine(uh xG).mono ?_;rintro e w4 ⟨rfl,mp,fh⟩;obtain⟨qy,l8,O4⟩:=aA (uh pz) jJ fh;have uy:=ab qy;have oJ:=ab mp;have mA:=ab ((uh gu).trans fh);clear mp fh qy;go_wp2_with fail
    refine(aY kN (by decide) (uh oJ)).mono ?_;rintro e w5 ⟨rfl,rV,fX⟩;obtain⟨CM,xY,aac⟩:=aA (uh uy) l8 fX;have JI:=ab CM;have GN:=ab rV;have s9:=ab ((uh mA).trans fX);clear rV fX CM;go_wp2_with fail
    refine(aY gR (by decide) (uh GN)).mono ?_;rintro e w6 ⟨rfl,hI6,Kr⟩;rw[uh HL]at hI6;obtain⟨OG,C1,alD⟩:=aA (uh JI) xY Kr;have R9:=ab OG;have HI6:=ab hI6;have HS6:=ab ((uh s9).trans Kr);clear hI6 Kr OG;go_wp2_with fail
    refine(ip (uh HI6)).mono ?_;rintro e w7 ⟨rfl,F7,hI7,Ee⟩;obtain⟨afA,KN,alE⟩:=aA (uh R9) C1 Ee;have adC:=ab afA;have HI7:=ab hI7;have Wn:=ab ((uh HS6).trans Ee);clear hI7 Ee afA;obtain⟨⟨qr0,qr1,qr2,qr3,qr4,qr5⟩,zr0,zr1,zr2,zr3,zr4,zr5⟩:=gB (uh adC);clear adC;go_wp2_with fail
    refine bodyPost_ret (v:=.agg #[.int .i64 3,.int .i64 (mI ws s),.int .i64 (dI ws (zj ws (bK ws s))),.int .i64 (eM ws (zj ws (bK ws s))),.int .i64 0,.int .i64 0]) (by simp[results,Tryz.results188,go_sem,cell?_alloc_past,alE,qr0,qr1,qr2,qr3,qr4,qr5]) rfl ⟨by rw[uh HN];rfl,F7,?_,?_⟩
    .rw[uh HS];exact(((((((uh HI7).setOther KN _).setOther KN _).setOther KN _).setOther KN _).setOther KN _).setOther KN _).alloc _
    .exact(((((((uh Wn).setCell (zq1 (zq4 _)) _).setCell (zq1 (zq4 _)) _).setCell (zq1 (zq4 _)) _).setCell (zq1 (zq4 _)) _).setCell (zq1 (zq4 _)) _).setCell (zq1 (zq4 _)) _).alloc _
   |false =>
    have HN:Hid (kx ws s=xn ws (mI ws s) (aG ws gR (bK ws s))):=ab (by unfold kx;rw[hb,aU,du];rfl);have HS:Hid (io ws s=oL ws (aG ws gR (bK ws s))):=ab (by unfold io;rw[hb,aU,du];rfl);have HE3:Hid (lO ws iJ (bK ws s)=bK ws s):=ab (if_neg (by simp[du]));have s8:=ab du;clear hb aU du;go_enter func188,ntmps188;have mn:=λo=>ab (aC ie (by decide) ((uh HQ).alloc o));simp only[uh HB,uh HE]at mn;go_wp2_with fail
    refine(uh (mn _)).mono ?_;rintro e w1 ⟨rfl,dN,bX⟩;have mW:=((au.refl F w).alloc _).trans bX;obtain⟨fC,et,xX⟩:=bN (uh HQ).m bX;have jg:=ab fC;have fs:=ab dN;have cD:=ab mW;clear dN bX mW fC;have kX:=aC jd (by decide) (uh fs);rw[uh eu,uh yh]at kX;replace kX:=ab kX
    go_wp2_with fail
    refine(uh kX).mono ?_;rintro e w2 ⟨rfl,cg,bS⟩;obtain⟨jH,lg,CT⟩:=aA (uh jg) et bS;have oI:=ab jH;have d7:=ab cg;have cS:=ab ((uh cD).trans bS);clear cg bS jH;go_wp2_with fail
    refine(fe (uh d7)).mono ?_;rintro e w3 ⟨rfl,F3,fI,cB⟩;obtain⟨k7,jJ,KJ⟩:=aA (uh oI) lg cB;have pz:=ab k7;have jb:=ab fI;have gu:=ab ((uh cS).trans cB);clear fI cB k7;have xG:=aC iJ (by decide) (uh jb);rw[uh s8,uh HE3]at xG;replace xG:=ab xG
    go_wp2_with fail
    refine(uh xG).mono ?_;rintro e w4 ⟨rfl,mp,fh⟩;obtain⟨qy,l8,O4⟩:=aA (uh pz) jJ fh;have uy:=ab qy;have oJ:=ab mp;have mA:=ab ((uh gu).trans fh);clear mp fh qy;go_wp2_with fail
    refine(aY gR (by decide) (uh oJ)).mono ?_;rintro e w5 ⟨rfl,rV,fX⟩;obtain⟨CM,xY,aac⟩:=aA (uh uy) l8 fX;have JI:=ab CM;have GN:=ab rV;have s9:=ab ((uh mA).trans fX);clear rV fX CM;go_wp2_with fail
    refine(uO (mI ws s) (uh GN)).mono ?_;rintro e w6 ⟨rfl,F6,hI6,Kr⟩;obtain⟨OG,C1,alD⟩:=aA (uh JI) xY Kr;have R9:=ab OG;have HI6:=ab hI6;have HS6:=ab ((uh s9).trans Kr);clear hI6 Kr OG;obtain⟨A0,BH⟩:∃A0,A0=xn ws (mI ws s) (aG ws gR (bK ws s)):=⟨_,rfl⟩;have HA0:=ab BH;rw[<-BH]at HN ⊢;clear BH;obtain⟨n0,n1,n2,n3,n4,n5⟩:=A0;simp only[Nd.cells];obtain⟨⟨qr0,qr1,qr2,qr3,qr4,qr5⟩,zr0,zr1,zr2,zr3,zr4,zr5⟩:=gB (uh R9);clear R9;go_wp2_with fail
    refine bodyPost_ret (v:=.agg #[.int .i64 n0,.int .i64 n1,.int .i64 n2,.int .i64 n3,.int .i64 n4,.int .i64 n5]) (by simp[results,Tryz.results188,go_sem,qr0,qr1,qr2,qr3,qr4,qr5]) rfl ⟨by rw[uh HN];rfl,F6,?_,?_⟩
    .rw[uh HS];exact(((((((uh HI6).setOther C1 _).setOther C1 _).setOther C1 _).setOther C1 _).setOther C1 _).setOther C1 _)
    .exact(((((((uh HS6).setCell (zq1 (zq4 _)) _).setCell (zq1 (zq4 _)) _).setCell (zq1 (zq4 _)) _).setCell (zq1 (zq4 _)) _).setCell (zq1 (zq4 _)) _).setCell (zq1 (zq4 _)) _)
end
def mw:ByteArray:=⟨#[123]⟩
def kU:ByteArray:=⟨#[125]⟩
def je:ByteArray:=⟨#[59]⟩
def mu:ByteArray:=⟨#[105,102]⟩
def bY:ByteArray:=⟨#[119,104,105,108,101]⟩
def iK:ByteArray:=⟨#[101,108,115,101]⟩
def dW(k n:Nat)(l:List Nd):List Nd:=l.modify k (λx=>{ x with ot:=n })
def gO(k n:Nat)(l:List Nd):List Nd:=l.modify k (λx=>{ x with nx:=n })
def iI:Nd:=⟨10,0,0,0,0,0⟩
def sW(ws:List ByteArray)(s:PS):PS:=ch (kx ws s) (aG ws je (io ws s))
def cE(blk:PS->PS)(ws:List ByteArray)(s:PS):PS:=blk (gl ws (aG ws mu s))
def lI(t:Nat)(s:PS):PS:={ ch iI s.adv with nodes:=dW t (ch iI s.adv).nodes.length (ch iI s.adv).nodes }
def M6(j:Nat)(s:PS):PS:={ s with nodes:=gO j s.nodes.length s.nodes }
def pE(blk:PS->PS)(ws:List ByteArray)(s:PS):PS :=
 if bR ws iK (cE blk ws s) then M6 (cE blk ws s).nodes.length (blk (lI s.nodes.length (cE blk ws s)))
 else { cE blk ws s with nodes:=dW s.nodes.length (cE blk ws s).nodes.length (cE blk ws s).nodes }
def ny(blk:PS->PS)(ws:List ByteArray)(s:PS):PS:=blk (gl ws (aG ws bY s))
def xE(blk:PS->PS)(ws:List ByteArray)(s:PS):PS :=
 { ch iI (ny blk ws s) with nodes:=dW s.nodes.length (ch iI (ny blk ws s)).nodes.length (gO (ny blk ws s).nodes.length s.nodes.length (ch iI (ny blk ws s)).nodes) }
def kQ(blk:PS->PS)(ws:List ByteArray)(s:PS):PS:=if bR ws mu s then pE blk ws s else if bR ws bY s then xE blk ws s else sW ws s
def ji(c:PS->PS)(ws:List ByteArray):Nat->PS->PS
 |0,s=>s
 |n+1,s=>if s.failed||bR ws kU s then s else ji c ws n (c s)
def cJ(ws:List ByteArray):Nat->PS->PS
 |0,s=>s
 |f+1,s=>aG ws kU (ji (kQ (cJ ws f) ws) ws (ws.length+2) (aG ws mw s))
theorem bV(k n:Nat)(l:List Nd):(dW k n l).length=l.length:=by simp[dW]
theorem dg(k n:Nat)(l:List Nd):(gO k n l).length=l.length:=by simp[gO]
def fb(s:PS):Nat:=if s.failed then 1 else 0
section
variable {ws:List ByteArray} {s:PS}
theorem uM(k:ByteArray)(hk:k.size≠0)(h:s.failed=true):bR ws k s=false:=by
 cases hb:bR ws k s with
 |false=>rfl
 |true=>have:=(yZ (ws:=ws) (s:=s) (by rw[jj hb];exact hk)).1;rw[h]at this;cases this
theorem jB(k:ByteArray)(h:(aG ws k s).failed=false):bR ws k s=true/\s.failed=false/\(aG ws k s).pos=s.pos+1:=by
 unfold aG at *;split at h
 .rename_i hb;rw[if_pos hb];exact⟨hb,h,rfl⟩
 .cases h
theorem J5(k:ByteArray)(hk:k.size≠0)(h:s.failed=true):(aG ws k s).failed=true:=by
 unfold aG;rw[uM k hk h];rfl
theorem pW(h:(bK ws s).failed=false):aF (pk ws s)=true/\s.failed=false/\(bK ws s).pos=s.pos+1:=by
 unfold bK at *;split at h
 .rename_i hb;rw[if_pos hb];exact⟨hb,h,rfl⟩
 .cases h
theorem uu(h:(ce ws s).failed=false):s.failed=false/\(ce ws s).pos=s.pos+1:=by
 unfold ce at *;split at h
 .rename_i hb;rw[if_pos hb];exact⟨h,rfl⟩
 .rename_i hb;rw[if_neg hb];exact(pW h).2
theorem YX(h:(ti ws s).failed=false):s.failed=false:=by
 unfold ti at h;split at h
 .exact h
 .have h1:=(uu h).1;unfold yz at h1;split at h1
  .exact(pW h1).2.1
  .exact(pW (jB _ h1).2.1).2.1
theorem Q8(h:(gl ws s).failed=false):s.failed=false:=(jB _ (YX (jB _ h).2.1)).2.1
theorem YJ(h:(oL ws s).failed=false):s.failed=false:=by
 unfold oL at h;split at h
 .exact h
 .split at h
  .exact(uu (jB _ h).2.1).1
  .exact(uu h).1
theorem abZ(h:(io ws s).failed=false):s.failed=false/\s.pos<(io ws s).pos:=by
 unfold io at *;split at h
 .rename_i hb;rw[if_pos hb];exact⟨h,Nat.lt_succ_self _⟩
 .rename_i hb;rw[if_neg hb];split at h
  .rename_i aU;rw[if_pos aU];exact⟨(pW h).2.1,by rw[(pW h).2.2];show s.pos<s.pos+1+1;omega⟩
  .rename_i aU;rw[if_neg aU];split at h
   .rename_i du;rw[if_pos du];have h1:=uu h;unfold zj at h1;have h2:=(pW (jB _ (jB _ h1.1).2.1).2.1).2;refine⟨h2.1,?_⟩;have e1:=iR (ws:=ws) (s:=zj ws (bK ws s));have e2:(bK ws s).adv.pos<=(zj ws (bK ws s)).pos:=zq3 (ci kN) (ci gR);have e3:=dc (s:=bK ws s);omega
   .rename_i du;rw[if_neg du];have h1:=jB _ (YJ h);have h2:=(pW h1.2.1).2;refine⟨h2.1,?_⟩;have e1:(aG ws gR (bK ws s)).pos<=(oL ws (aG ws gR (bK ws s))).pos:=by
     unfold oL;split
     .exact dc
     .split
      .exact zq3 (zq3 iR dc) (ci _)
      .exact iR
    omega
theorem S4:s.pos<=(ti ws s).pos:=by
 unfold ti;split
 .exact dc
 .refine zq3 (zq3 (rm (ws:=ws)) ?_) iR;unfold yz;split
  .exact dc
  .exact ci _
theorem us:s.pos<=(gl ws s).pos:=zq3 (zq3 (ci gb) S4) (ci iY)
theorem oG:(gl ws s).nodes.length=s.nodes.length+1:=by
 unfold gl ch;simp[sE]
theorem VE:s.pos<=(io ws s).pos:=by
 unfold io;split
 .exact dc
 .split
  .exact zq3 dc rm
  .split
   .exact zq3 (zq3 (zq3 (zq3 rm dc) (ci kN)) (ci gR)) iR
   .refine zq3 (zq3 (rm (ws:=ws)) (ci (ws:=ws) gR)) ?_;unfold oL;split
    .exact dc
    .split
     .exact zq3 (zq3 iR dc) (ci _)
     .exact iR
structure Mm(blk:PS->PS):Prop where
 pos:∀s,s.pos<=(blk s).pos
 nodes:∀s,s.nodes.length<=(blk s).nodes.length
 ok:∀s,(blk s).failed=false->s.failed=false
 phi:∀s,(blk s).nodes.length+2*s.pos<=s.nodes.length+2*(blk s).pos+fb (blk s)
theorem yB(s:PS):fb s<=1:=by unfold fb;split <;> omega
theorem yC{s:PS}(h:s.failed=false):fb s=0:=by unfold fb;rw[h];rfl
theorem E6{s:PS}(h:s.failed=true):fb s=1:=by unfold fb;rw[h];rfl
theorem jA{blk:PS->PS}(g:Mm blk):s.pos<=(kQ blk ws s).pos/\s.nodes.length<=(kQ blk ws s).nodes.length /\
  ((kQ blk ws s).failed=false->s.failed=false/\s.pos<(kQ blk ws s).pos)/\(kQ blk ws s).nodes.length+2*s.pos<=s.nodes.length+2*(kQ blk ws s).pos+fb (kQ blk ws s):=by
 unfold kQ;split
 .rename_i hb;have e1:(aG ws mu s)=s.adv:=if_pos hb;have a1:s.adv.pos=s.pos+1:=rfl;have a2:=us (ws:=ws) (s:=s.adv);have a3:=oG (ws:=ws) (s:=s.adv);have a4:s.adv.nodes=s.nodes:=rfl;rw[a4]at a3;have eA:cE blk ws s=blk (gl ws s.adv):=by unfold cE;rw[e1]
  have p1:=g.pos (gl ws s.adv);have p2:=g.nodes (gl ws s.adv);have p3:=g.ok (gl ws s.adv);have p4:=g.phi (gl ws s.adv);rw[<-eA]at p1 p2 p3 p4;have ok1:(cE blk ws s).failed=false->s.failed=false:=λh=>Q8 (s:=s.adv) (p3 h);unfold pE;split
  .rename_i aU;have okA:(cE blk ws s).failed=false:=(yZ (by rw[jj aU];decide)).1;have f0:=yC okA;have b1:(lI s.nodes.length (cE blk ws s)).pos=(cE blk ws s).pos+1:=rfl;have b2:(lI s.nodes.length (cE blk ws s)).nodes.length=(cE blk ws s).nodes.length+1:=(by simp[lI,bV,ch,PS.adv]);have q1:=g.pos (lI s.nodes.length (cE blk ws s));have q2:=g.nodes (lI s.nodes.length (cE blk ws s));have q4:=g.phi (lI s.nodes.length (cE blk ws s));generalize blk (lI s.nodes.length (cE blk ws s))=z at q1 q2 q4;have c1:(M6 (cE blk ws s).nodes.length z).pos=z.pos:=rfl;have c2:(M6 (cE blk ws s).nodes.length z).nodes.length=z.nodes.length:=(by simp[M6,dg]);have c3:fb (M6 (cE blk ws s).nodes.length z)=fb z:=rfl;rw[c1,c2,c3];exact⟨by omega,by omega,λ_=>⟨ok1 okA,by omega⟩,by omega⟩
  .simp only[bV];have c3:fb { cE blk ws s with nodes:=dW s.nodes.length (cE blk ws s).nodes.length (cE blk ws s).nodes }=fb (cE blk ws s):=rfl;rw[c3];have:=yB (cE blk ws s);exact⟨by omega,by omega,λh=>⟨ok1 h,by omega⟩,by omega⟩
 .split
  .rename_i _ hb;have e1:(aG ws bY s)=s.adv:=if_pos hb;have a1:s.adv.pos=s.pos+1:=rfl;have a2:=us (ws:=ws) (s:=s.adv);have a3:=oG (ws:=ws) (s:=s.adv);have a4:s.adv.nodes=s.nodes:=rfl;rw[a4]at a3;have eA:ny blk ws s=blk (gl ws s.adv):=(by unfold ny;rw[e1]);have p1:=g.pos (gl ws s.adv);have p2:=g.nodes (gl ws s.adv);have p3:=g.ok (gl ws s.adv);have p4:=g.phi (gl ws s.adv);rw[<-eA]at p1 p2 p3 p4;have ok1:(ny blk ws s).failed=false->s.failed=false:=λh=>Q8 (s:=s.adv) (p3 h);have c1:(xE blk ws s).pos=(ny blk ws s).pos:=rfl;have c2:(xE blk ws s).nodes.length=(ny blk ws s).nodes.length+1:=(by simp[xE,bV,dg,ch]);have c3:fb (xE blk ws s)=fb (ny blk ws s):=rfl;have c4:(xE blk ws s).failed=(ny blk ws s).failed:=rfl;rw[c1,c2,c3,c4];exact⟨by omega,by omega,λh=>⟨ok1 h,by omega⟩,by omega⟩
  .have a1:=VE (ws:=ws) (s:=s);have a2:=ci (ws:=ws) (s:=io ws s) je;have c1:(sW ws s).pos=(aG ws je (io ws s)).pos:=rfl;have c2:(sW ws s).nodes.length=s.nodes.length+1:=(by simp[sW,ch,bz,zl]);have c4:(sW ws s).failed=(aG ws je (io ws s)).failed:=rfl;cases hf:(sW ws s).failed with
   |true =>
    rw[c1,c2,E6 hf];exact⟨by omega,by omega,(λh=>absurd h (by simp)),by omega⟩
   |false =>
    rw[c4]at hf;have h1:=jB _ hf;have h2:=abZ h1.2.1;rw[c1,c2];exact⟨by omega,by omega,λ_=>⟨h2.1,by omega⟩,by omega⟩
theorem Nk{c:PS->PS}(hc:∀s,s.pos<=(c s).pos/\s.nodes.length<=(c s).nodes.length/\((c s).failed=false->s.failed=false)/\(c s).nodes.length+2*s.pos<=s.nodes.length+2*(c s).pos+fb (c s))(n:Nat):
  ∀s,s.pos<=(ji c ws n s).pos/\s.nodes.length<=(ji c ws n s).nodes.length/\((ji c ws n s).failed=false->s.failed=false)/\(ji c ws n s).nodes.length+2*s.pos<=s.nodes.length+2*(ji c ws n s).pos+fb (ji c ws n s):=by
 induction n with
 |zero=>intro s;exact⟨zq4 _,zq4 _,id,by simp only[ji];omega⟩
 |succ n ih =>
  intro s;simp only[ji];split
  .exact⟨zq4 _,zq4 _,id,by omega⟩
  .obtain⟨a,b,d,e⟩:=ih (c s);obtain⟨a',b',d',e'⟩:=hc s;refine⟨by omega,by omega,λh=>d' (d h),?_⟩;cases hf:(c s).failed with
   |false=>rw[yC hf]at e';omega
   |true =>
    have:fb (ji c ws n (c s))=1:=by
     cases hg:(ji c ws n (c s)).failed with
     |true=>exact E6 hg
     |false=>rw[d hg]at hf;cases hf
    have hn:ji c ws n (c s)=c s:=by
     cases n with
     |zero=>rfl
     |succ n=>simp[ji,hf]
    rw[hn]at e ⊢;omega
theorem jx(f:Nat):Mm (cJ ws f):=by
 induction f with
 |zero=>exact⟨λ_=>zq4 _,λ_=>zq4 _,λ_=>id,λ_=>by simp only[cJ];omega⟩
 |succ f ih =>
  have hc:=λn s=>Nk (ws:=ws) (c:=kQ (cJ ws f) ws) (λs=>⟨(jA ih).1,(jA ih).2.1,λh=>((jA ih).2.2.1 h).1,(jA ih).2.2.2⟩) n s;refine⟨λs=>?_,λs=>?_,λs h=>?_,λs=>?_⟩
  .exact zq3 (zq3 (ci mw) (hc _ _).1) (ci kU)
  .simp only[cJ,bz];have:=(hc (ws.length+2) (aG ws mw s)).2.1;rw[bz]at this;exact this
  .exact(jB _ ((hc _ _).2.2.1 (jB _ h).2.1)).2.1
  .simp only[cJ,bz];have h1:=(hc (ws.length+2) (aG ws mw s)).2.2.2;have h2:=ci (ws:=ws) (s:=s) mw;rw[bz]at h1;generalize ji (kQ (cJ ws f) ws) ws (ws.length+2) (aG ws mw s)=z at h1 ⊢;have h3:=ci (ws:=ws) (s:=z) kU;cases hf:z.failed with
   |false=>rw[yC hf]at h1;omega
   |true =>
    have h4:fb (aG ws kU z)=1:=E6 (J5 kU (by decide) hf);have h5:=yB z;omega
end
