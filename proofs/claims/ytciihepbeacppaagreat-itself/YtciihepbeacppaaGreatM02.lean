import Derived.Test.YtciihepbeacppaaGreatM01
set_option maxRecDepth 100000
set_option maxHeartbeats 0
namespace Go.Proofs.YtciihepbeacppaaGreat
open Tryz Go.RowKit List World Below
set_option linter.unusedVariables false
def dR(nd:Nd)(s:PS):PS:={ s with nodes:=s.nodes++[{ nd with nx:=s.nodes.length+1 }] }
theorem aC{w:World}{B:Nat}{e:TypeId}{sz n:Nat}{v:Value}{xs:List Value}(h:w.ownsRow B e sz v n xs):∃ao cap,v=.slice ao n cap:=by
 rcases h.2 with⟨rfl,rfl⟩|⟨g,cap,cur,rfl,_⟩ <;> exact⟨_,_,rfl⟩
theorem Nd.one(a:Nd):∀u∈a.cells,u.oneCell'=true:=by
 intro u hu;simp[Nd.cells]at hu;rcases hu with rfl|rfl|rfl|rfl|rfl|rfl <;> rfl
theorem fG{w:World}{r:Nat}{a b c d e f:Value}{t:TypeId}(h:w.heap[r]?=some (.cells #[a,b,c,d,e,f] t (0,0))):
  (w.cell? ⟨r,0,none⟩=some a/\w.cell? ⟨r,1,none⟩=some b/\w.cell? ⟨r,2,none⟩=some c/\w.cell? ⟨r,3,none⟩=some d/\w.cell? ⟨r,4,none⟩=some e/\w.cell? ⟨r,5,none⟩=some f) /\
  w.frozen? ⟨r,0,none⟩=false/\w.frozen? ⟨r,1,none⟩=false/\w.frozen? ⟨r,2,none⟩=false/\w.frozen? ⟨r,3,none⟩=false/\w.frozen? ⟨r,4,none⟩=false/\w.frozen? ⟨r,5,none⟩=false :=
 ⟨(iC h).1,(iC h).2 0,(iC h).2 1,(iC h).2 2,(iC h).2 3,(iC h).2 4,(iC h).2 5⟩
section
variable {B:Nat} {WV:Value} {w:World} {P:Nat} {ws:List ByteArray} {s:PS} {F:List Nat} {wv vv hv nv:Value}
theorem sB(nd:Nd)(h:dP B WV w P ws s F)(hn:s.nodes.length<=100000):
  Calls prog 123 #[.pointer (some ⟨P,0,none⟩),.agg nd.cells.toArray] w λe w'=>e=.returned (.int .i64 s.nodes.length)/\∃F',dP B WV w' P ws (dR nd s) F'/\ar F w F' w':=by
 obtain⟨i0,hi,eo,ep,eK⟩:=info_parts infoNode;have HQ:=ab h;obtain⟨n0,n1,n2,n3,n4,n5⟩:=nd;obtain⟨w0,lm⟩:∃w0,w0=w.alloc (.cells #[.int .i64 n0,.int .i64 n1,.int .i64 n2,.int .i64 n3,.int .i64 ((s.nodes.length:Int)+1),.int .i64 n5] 186):=⟨_,rfl⟩;have h0:dP B WV w0 P ws s F:=by rw[lm];exact h.alloc _
 have qf:Hid (ar F w F w0):=ab (by rw[lm];exact(ar.refl F w).alloc _);have ZP:w0.heap[w.heap.size]?=some (.cells #[.int .i64 n0,.int .i64 n1,.int .i64 n2,.int .i64 n3,.int .i64 ((s.nodes.length:Int)+1),.int .i64 n5] 186 (0,0)):=by rw[lm];exact heap_alloc_new w _
 have XO:=ab lm;have nD:w.heap.size<w0.heap.size:=by rw[lm];simp
 have XF:Hid (w.heap.size ∉ F):=ab (λhm=>by have:=(h.m.mem _ hm).2;omega);clear lm;obtain⟨wv,vv,hv,nv,cW⟩:=h.m.named;obtain⟨_,_,_,_,c5,fz⟩:=cW.readsV;obtain⟨ao,cap,rfl⟩:=aC cW.2.2.2.2.2.1;have hPw:P<w.heap.size:=(h.m.mem P h.m.memP).2;have f5:=fz 5;clear h h0 fz;simp only[Nd.cells];go_enter func123,ntmps123;go_wp2_with fail
 rw[<-uh XO];have EA:dd B WV w0 P ws s F wv vv hv (.slice ao s.nodes.length cap):=by rw[uh XO];exact cW.alloc _
 clear c5 f5;obtain⟨_,_,_,_,c5,fz⟩:=EA.readsV;have f5:=fz 5;obtain⟨⟨q0,q1,q2,q3,q4,q5⟩,_⟩:=fG ZP;have ru:=ab ZP;have xu:P<w0.heap.size:=by omega
 have S0:B<=w0.heap.size:=by have:=(EA.is.mem P EA.is.memP).1;omega
 have C5:Hid ((Value.slice ao s.nodes.length cap).ownBlock≠some P):=ab (λe=>EA.apart.1 P (by simp[e]) rfl);have iy:=ab EA.2.2.2.2.2.1;have jC:∀(b j k:Nat) (o:Obj) (v:Value),b<w0.heap.size->w0.cell? ⟨b,j,none⟩=some v->((w0.drewN k).alloc o).cell? ⟨b,j,none⟩=some v:=λb j k o v hb hv=>(cell?_of_block (a:=⟨b,j,none⟩) (heap_alloc (w0.drewN k) o b hb)).trans hv;have c5a:=λk o=>jC P 5 k o _ xu c5;have q0a:=λk o=>jC _ 0 k o _ nD q0;have q1a:=λk o=>jC _ 1 k o _ nD q1;have q2a:=λk o=>jC _ 2 k o _ nD q2;have q3a:=λk o=>jC _ 3 k o _ nD q3;have q4a:=λk o=>jC _ 4 k o _ nD q4;have q5a:=λk o=>jC _ 5 k o _ nD q5;have HV0:=ab EA;clear jC fz EA ZP cW;go_region_law (refine ix _ rfl (.tmp 18) (.tmp 20) 103 rfl B 186 i0 _ 6 48 underlying103 hi eo ep eK rfl (by decide) (.slice ao s.nodes.length cap) s.nodes.length (bj s.nodes) (by simp[Act.eval]) (re (uh iy) _ _) ⟨w0.heap.size,0,none⟩ 1 [.int .i64 n0,.int .i64 n1,.int .i64 n2,.int .i64 n3,.int .i64 ((s.nodes.length:Int)+1),.int .i64 n5] (by simp[Act.eval]) rfl (aP (w0.drewN _) _ rfl _ _) (Nd.one ⟨n0,n1,n2,n3,s.nodes.length+1,n5⟩) (by omega) (by omega) (xN S0 _ _) ?_;intro g2 cap2 w2 aT aO dq;have c5':=gj aO xu (uh C5) 5 c5;have f5':=d9 aO xu (uh C5) 5 f5;obtain⟨F',YL,YV⟩:=dd.pushNodes ⟨n0,n1,n2,n3,s.nodes.length+1,n5⟩ ((uh HV0).drewN _) aO aT dq;have vq:=ab YL;have HS':=ab YV;clear aT aO dq YL YV)
 all_goals
  go_wp2_with fail
  go_ret;exact⟨rfl,F',⟨uh vq,(uh HQ).f⟩,((uh qf).drewN _).trans (uh HS')⟩
end
def zi:ByteArray:=⟨#[110,101,119]⟩
def qV:ByteArray:=⟨#[46]⟩
def kN:ByteArray:=⟨#[110]⟩
def pG:ByteArray:=⟨#[115,107,105,112]⟩
def rN:ByteArray:=⟨#[102,114,101,101]⟩
def Aq(ws:List ByteArray)(s:PS):PS:=if cL ws wo s then s.adv else bp ws m6 s
def Sk(ws:List ByteArray)(s:PS):Nat:=if cL ws wo s then 9 else 8
def tO(ws:List ByteArray)(s:PS):PS:=if cL ws dO s then s.adv else cO ws (Aq ws (cn ws s))
def Ap(ws:List ByteArray)(s:PS):Nd :=
 if cL ws dO s then ⟨7,0,0,0,0,0⟩ else ⟨Sk ws (cn ws s),rR ws s,ej ws (Aq ws (cn ws s)),fB ws (Aq ws (cn ws s)),0,0⟩
def K7(ws:List ByteArray)(s:PS):PS:=bp ws gY (tO ws (bp ws eX s))
def jx(ws:List ByteArray)(s:PS):PS:=dR (Ap ws (bp ws eX s)) (K7 ws s)
def RY(ws:List ByteArray)(s:PS):Bool:=ej ws s==1&&cL ws qV (cO ws s)
def rW(ws:List ByteArray)(s:PS):PS:=if cL ws zi s then s.adv else if RY ws s then bp ws kN (cO ws s).adv else cO ws s
def Ai(ws:List ByteArray)(v:Nat)(s:PS):Nd:=if cL ws zi s then ⟨4,v,0,0,0,0⟩ else if RY ws s then ⟨2,v,ej ws s,fB ws s,0,0⟩ else ⟨1,v,ej ws s,fB ws s,0,0⟩
def Dv(ws:List ByteArray)(s:PS):PS:=bp ws m6 (bp ws kN s.adv)
def mq(ws:List ByteArray)(s:PS):PS :=
 if cL ws pG s then s.adv else if cL ws rN s then cn ws s.adv else if cL ws qV (cn ws s) then cO ws (Dv ws (cn ws s)) else rW ws (bp ws m6 (cn ws s))
def oK(ws:List ByteArray)(s:PS):Nd :=
 if cL ws pG s then ⟨6,0,0,0,0,0⟩ else if cL ws rN s then ⟨5,rR ws s.adv,0,0,0,0⟩ else
 if cL ws qV (cn ws s) then ⟨3,rR ws s,ej ws (Dv ws (cn ws s)),fB ws (Dv ws (cn ws s)),0,0⟩ else Ai ws (rR ws s) (bp ws m6 (cn ws s))
section
variable {B:Nat} {WV:Value} {w:World} {P:Nat} {ws:List ByteArray} {s:PS} {F:List Nat}
theorem vV(h:dP B WV w P ws s F):
  Calls prog 247 #[.pointer (some ⟨P,0,none⟩)] w λe w'=>e=.returned (.agg (Ap ws s).cells.toArray)/\∃F',dP B WV w' P ws (tO ws s) F'/\ar F w F' w':=by
 have HQ:=ab h;clear h;cases hb:cL ws dO s with
 |true =>
  have HN:Hid (Ap ws s=⟨7,0,0,0,0,0⟩):=ab (if_pos hb);have HS:Hid (tO ws s=s.adv):=ab (if_pos hb);have HE:Hid (kx ws dO s=s.adv):=ab (if_pos hb);have HB:=ab hb;clear hb;go_enter func247,ntmps247;have kU:=λo=>ab (aA dO (by decide) ((uh HQ).alloc o));simp only[uh HB,uh HE]at kU;go_wp2_with fail
  refine(uh (kU _)).mono ?_;rintro e w1 ⟨rfl,df,bq⟩;have jd:=((ar.refl F w).alloc _).trans bq;obtain⟨ez,dU,wb⟩:=bF (uh HQ).m bq;have ig:=ab ez;have dD:=ab df;have bT:=ab jd;clear df bq jd ez;obtain⟨⟨qr0,qr1,qr2,qr3,qr4,qr5⟩,zr0,zr1,zr2,zr3,zr4,zr5⟩:=fG (uh ig);clear ig;go_wp2_with fail
  refine bodyPost_ret (v:=.agg #[.int .i64 7,.int .i64 0,.int .i64 0,.int .i64 0,.int .i64 0,.int .i64 0]) (by simp[results,Tryz.results247,go_sem,qr0,qr1,qr2,qr3,qr4,qr5]) rfl ⟨by rw[uh HN];rfl,F,?_,?_⟩
  .rw[uh HS];exact(((((((uh dD).setOther dU _).setOther dU _).setOther dU _).setOther dU _).setOther dU _).setOther dU _)
  .exact(((((((uh bT).setCell (zq1 (zq4 _)) _).setCell (zq1 (zq4 _)) _).setCell (zq1 (zq4 _)) _).setCell (zq1 (zq4 _)) _).setCell (zq1 (zq4 _)) _).setCell (zq1 (zq4 _)) _)
 |false =>
  have HE:Hid (kx ws dO s=s):=ab (if_neg (by simp[hb]));have HN:Hid (Ap ws s=⟨Sk ws (cn ws s),rR ws s,ej ws (Aq ws (cn ws s)),fB ws (Aq ws (cn ws s)),0,0⟩):=ab (if_neg (by simp[hb]));have HS:Hid (tO ws s=cO ws (Aq ws (cn ws s))):=ab (if_neg (by simp[hb]));have HB:=ab hb;clear hb;cases aL:cL ws wo (cn ws s) with
  |true =>
   have HO:Hid (Sk ws (cn ws s)=9):=ab (if_pos aL);have HT:Hid (Aq ws (cn ws s)=(cn ws s).adv):=ab (if_pos aL);have tz:Hid (kx ws wo (cn ws s)=(cn ws s).adv):=ab (if_pos aL);have cg:=ab aL;clear aL;rw[uh HO,uh HT]at HN;rw[uh HT]at HS;go_enter func247,ntmps247;have kU:=λo=>ab (aA dO (by decide) ((uh HQ).alloc o));simp only[uh HB,uh HE]at kU;go_wp2_with fail
   refine(uh (kU _)).mono ?_;rintro e w1 ⟨rfl,df,bq⟩;have jd:=((ar.refl F w).alloc _).trans bq;obtain⟨ez,dU,wb⟩:=bF (uh HQ).m bq;have ig:=ab ez;have dD:=ab df;have bT:=ab jd;clear df bq jd ez;go_wp2_with fail
   refine(ek (uh dD)).mono ?_;rintro e w2 ⟨rfl,F2,bP,bE⟩;obtain⟨iK,jS,BZ⟩:=ay (uh ig) dU bE;have mT:=ab iK;have dc:=ab bP;have cH:=ab ((uh bT).trans bE);clear bP bE iK;have Dz:=aA wo (by decide) (uh dc);rw[uh cg,uh tz]at Dz;replace Dz:=ab Dz
   go_wp2_with fail
   refine(uh Dz).mono ?_;rintro e w3 ⟨rfl,ec,bZ⟩;obtain⟨jQ,iM,JS⟩:=ay (uh mT) jS bZ;have nP:=ab jQ;have gU:=ab ec;have fV:=ab ((uh cH).trans bZ);clear ec bZ jQ;go_wp2_with fail
   refine(gt (uh gU)).mono ?_;rintro e w4 ⟨rfl,F4,kZ,er⟩;obtain⟨py,kL,N5⟩:=ay (uh nP) iM er;have tu:=ab py;have mU:=ab kZ;have kt:=ab ((uh fV).trans er);clear kZ er py;obtain⟨⟨qr0,qr1,qr2,qr3,qr4,qr5⟩,zr0,zr1,zr2,zr3,zr4,zr5⟩:=fG (uh tu);clear tu;go_wp2_with fail
   refine bodyPost_ret (v:=.agg #[.int .i64 9,.int .i64 (rR ws s),.int .i64 (ej ws (cn ws s).adv),.int .i64 (fB ws (cn ws s).adv),.int .i64 0,.int .i64 0]) (by simp[results,Tryz.results247,go_sem,cell?_alloc_past,N5,qr0,qr1,qr2,qr3,qr4,qr5]) rfl ⟨by rw[uh HN];rfl,F4,?_,?_⟩
   .rw[uh HS];exact(((((((uh mU).setOther kL _).setOther kL _).setOther kL _).setOther kL _).setOther kL _).setOther kL _).alloc _
   .exact(((((((uh kt).setCell (zq1 (zq4 _)) _).setCell (zq1 (zq4 _)) _).setCell (zq1 (zq4 _)) _).setCell (zq1 (zq4 _)) _).setCell (zq1 (zq4 _)) _).setCell (zq1 (zq4 _)) _).alloc _
  |false =>
   have HO:Hid (Sk ws (cn ws s)=8):=ab (if_neg (by simp[aL]));have HT:Hid (Aq ws (cn ws s)=bp ws m6 (cn ws s)):=ab (if_neg (by simp[aL]));have tz:Hid (kx ws wo (cn ws s)=cn ws s):=ab (if_neg (by simp[aL]));have cg:=ab aL;clear aL;rw[uh HO,uh HT]at HN;rw[uh HT]at HS;go_enter func247,ntmps247;have kU:=λo=>ab (aA dO (by decide) ((uh HQ).alloc o));simp only[uh HB,uh HE]at kU;go_wp2_with fail
   refine(uh (kU _)).mono ?_;rintro e w1 ⟨rfl,df,bq⟩;have jd:=((ar.refl F w).alloc _).trans bq;obtain⟨ez,dU,wb⟩:=bF (uh HQ).m bq;have ig:=ab ez;have dD:=ab df;have bT:=ab jd;clear df bq jd ez;go_wp2_with fail
   refine(ek (uh dD)).mono ?_;rintro e w2 ⟨rfl,F2,bP,bE⟩;obtain⟨iK,jS,BZ⟩:=ay (uh ig) dU bE;have mT:=ab iK;have dc:=ab bP;have cH:=ab ((uh bT).trans bE);clear bP bE iK;have Dz:=aA wo (by decide) (uh dc);rw[uh cg,uh tz]at Dz;replace Dz:=ab Dz
   go_wp2_with fail
   refine(uh Dz).mono ?_;rintro e w3 ⟨rfl,ec,bZ⟩;obtain⟨jQ,iM,JS⟩:=ay (uh mT) jS bZ;have nP:=ab jQ;have gU:=ab ec;have fV:=ab ((uh cH).trans bZ);clear ec bZ jQ;go_wp2_with fail
   refine(aV m6 (by decide) (uh gU)).mono ?_;rintro e w4 ⟨rfl,kZ,er⟩;obtain⟨py,kL,N5⟩:=ay (uh nP) iM er;have tu:=ab py;have mU:=ab kZ;have kt:=ab ((uh fV).trans er);clear kZ er py;go_wp2_with fail
   refine(gt (uh mU)).mono ?_;rintro e w5 ⟨rfl,F5,qO,eT⟩;obtain⟨BP,wf,Zs⟩:=ay (uh tu) kL eT;have IY:=ab BP;have FF:=ab qO;have rT:=ab ((uh kt).trans eT);clear qO eT BP;obtain⟨⟨qr0,qr1,qr2,qr3,qr4,qr5⟩,zr0,zr1,zr2,zr3,zr4,zr5⟩:=fG (uh IY);clear IY;go_wp2_with fail
   refine bodyPost_ret (v:=.agg #[.int .i64 8,.int .i64 (rR ws s),.int .i64 (ej ws (bp ws m6 (cn ws s))),.int .i64 (fB ws (bp ws m6 (cn ws s))),.int .i64 0,.int .i64 0]) (by simp[results,Tryz.results247,go_sem,cell?_alloc_past,Zs,qr0,qr1,qr2,qr3,qr4,qr5]) rfl ⟨by rw[uh HN];rfl,F5,?_,?_⟩
   .rw[uh HS];exact(((((((uh FF).setOther wf _).setOther wf _).setOther wf _).setOther wf _).setOther wf _).setOther wf _).alloc _
   .exact(((((((uh rT).setCell (zq1 (zq4 _)) _).setCell (zq1 (zq4 _)) _).setCell (zq1 (zq4 _)) _).setCell (zq1 (zq4 _)) _).setCell (zq1 (zq4 _)) _).setCell (zq1 (zq4 _)) _).alloc _
end
section
variable {ws:List ByteArray} {s:PS}
theorem a8(k:ByteArray):(bp ws k s).nodes=s.nodes:=by unfold bp;split <;> rfl
theorem ki:(cn ws s).nodes=s.nodes:=by unfold cn;split <;> rfl
theorem iZ:(cO ws s).nodes=s.nodes:=by unfold cO;split;rfl;exact ki
theorem mP:(ev ws s).nodes=s.nodes:=by unfold ev;split;rfl;exact iZ
theorem Jl:(Aq ws s).nodes=s.nodes:=by unfold Aq;split;rfl;exact a8 _
theorem Jk:(tO ws s).nodes=s.nodes:=by unfold tO;split;rfl;rw[iZ,Jl,ki]
theorem rq:(K7 ws s).nodes=s.nodes:=by unfold K7;rw[a8,Jk,a8]
theorem Jh:(rW ws s).nodes=s.nodes:=by unfold rW;split;rfl;split;rw[a8];exact iZ;exact iZ
theorem x8:(mq ws s).nodes=s.nodes:=by
 unfold mq;split;rfl;split;rw[ki];rfl;split
 .rw[iZ];unfold Dv;rw[a8,a8];exact ki
 .rw[Jh,a8,ki]
end
section
variable {B:Nat} {WV:Value} {w:World} {P:Nat} {ws:List ByteArray} {s:PS} {F:List Nat}
theorem vb(hn:s.nodes.length<=100000)(h:dP B WV w P ws s F):
  Calls prog 214 #[.pointer (some ⟨P,0,none⟩)] w λe w'=>e=.returned (.int .i64 s.nodes.length)/\∃F',dP B WV w' P ws (jx ws s) F'/\ar F w F' w':=by
 have HQ:=ab h;clear h;go_enter func214,ntmps214;go_wp2_with fail
 refine(aV eX (by decide) (uh HQ)).mono ?_;rintro e w1 ⟨rfl,df,bq⟩;have dD:=ab df;have bT:=ab bq;clear df bq;go_wp2_with fail
 refine(vV (uh dD)).mono ?_;rintro e w2 ⟨rfl,F2,bP,bE⟩;have dc:=ab bP;have cH:=ab ((uh bT).trans bE);clear bP bE;obtain⟨A0,Au⟩:∃A0,A0=Ap ws (bp ws eX s):=⟨_,rfl⟩;have HA0:=ab Au;rw[<-Au];clear Au;obtain⟨n0,n1,n2,n3,n4,n5⟩:=A0;simp only[Nd.cells];go_wp2_with fail
 refine(aV gY (by decide) ((uh dc).alloc _)).mono ?_;rintro e w3 ⟨rfl,ec,bZ⟩;have lH:=((ar.refl F2 w2).alloc _).trans bZ;obtain⟨ae0,arg,aq7⟩:=bF (uh dc).m bZ;have aiT:=ab ae0;have gU:=ab ec;have fV:=ab ((uh cH).trans lH);clear ec bZ lH ae0;obtain⟨⟨q0,q1,q2,q3,q4,q5⟩,_⟩:=fG (uh aiT);have El:=sB ⟨n0,n1,n2,n3,n4,n5⟩ (uh gU) (by show(K7 ws s).nodes.length<=100000;rw[rq];exact hn);simp only[Nd.cells]at El;have Xn:=ab El;clear El;go_wp2_with fail
 refine(uh Xn).mono ?_;rintro e w4 ⟨rfl,F4,kZ,er⟩;have mU:=ab kZ;have kt:=ab ((uh fV).trans er);clear kZ er;go_wp2_with fail
 go_ret;refine⟨bm (by show(((K7 ws s).nodes.length:Nat):Int)=_;rw[rq]),F4,?_,uh kt⟩;unfold jx;rw[<-uh HA0];exact uh mU
theorem tJ(v:Nat)(h:dP B WV w P ws s F):
  Calls prog 216 #[.pointer (some ⟨P,0,none⟩),.int .i64 (v:Int)] w λe w'=>e=.returned (.agg (Ai ws v s).cells.toArray)/\∃F',dP B WV w' P ws (rW ws s) F'/\ar F w F' w':=by
 have HQ:=ab h;clear h;cases hb:cL ws zi s with
 |true =>
  have HN:Hid (Ai ws v s=⟨4,v,0,0,0,0⟩):=ab (if_pos hb);have HS:Hid (rW ws s=s.adv):=ab (if_pos hb);have HE:Hid (kx ws zi s=s.adv):=ab (if_pos hb);have HB:=ab hb;clear hb;go_enter func216,ntmps216;have kU:=λo=>ab (aA zi (by decide) ((uh HQ).alloc o));simp only[uh HB,uh HE]at kU;go_wp2_with fail
  refine(uh (kU _)).mono ?_;rintro e w1 ⟨rfl,df,bq⟩;have jd:=((ar.refl F w).alloc _).trans bq;obtain⟨ez,dU,wb⟩:=bF (uh HQ).m bq;have ig:=ab ez;have dD:=ab df;have bT:=ab jd;clear df bq jd ez;obtain⟨⟨qr0,qr1,qr2,qr3,qr4,qr5⟩,zr0,zr1,zr2,zr3,zr4,zr5⟩:=fG (uh ig);clear ig;go_wp2_with fail
  refine bodyPost_ret (v:=.agg #[.int .i64 4,.int .i64 v,.int .i64 0,.int .i64 0,.int .i64 0,.int .i64 0]) (by simp[results,Tryz.results216,go_sem,qr0,qr1,qr2,qr3,qr4,qr5]) rfl ⟨by rw[uh HN];rfl,F,?_,?_⟩
  .rw[uh HS];exact(((((((uh dD).setOther dU _).setOther dU _).setOther dU _).setOther dU _).setOther dU _).setOther dU _)
  .exact(((((((uh bT).setCell (zq1 (zq4 _)) _).setCell (zq1 (zq4 _)) _).setCell (zq1 (zq4 _)) _).setCell (zq1 (zq4 _)) _).setCell (zq1 (zq4 _)) _).setCell (zq1 (zq4 _)) _)
 |false =>
  have HE:Hid (kx ws zi s=s):=ab (if_neg (by simp[hb]));have HB:=ab hb;cases hk:(ej ws s==1) with
  |false =>
   have HN:Hid (Ai ws v s=⟨1,v,ej ws s,fB ws s,0,0⟩):=ab (by unfold Ai RY;rw[hb,hk];rfl);have HS:Hid (rW ws s=cO ws s):=ab (by unfold rW RY;rw[hb,hk];rfl);have hkf:(((ej ws s:Nat):Int)==1)=false:=(by simp at hk ⊢;omega);clear hb hk;go_enter func216,ntmps216;have kU:=λo=>ab (aA zi (by decide) ((uh HQ).alloc o));simp only[uh HB,uh HE]at kU;go_wp2_with fail
   refine(uh (kU _)).mono ?_;rintro e w1 ⟨rfl,df,bq⟩;have jd:=((ar.refl F w).alloc _).trans bq;obtain⟨ez,dU,wb⟩:=bF (uh HQ).m bq;have ig:=ab ez;have dD:=ab df;have bT:=ab jd;clear df bq jd ez;go_wp2_with fail
   refine(gt (uh dD)).mono ?_;rintro e w2 ⟨rfl,F2,bP,bE⟩;obtain⟨iK,jS,BZ⟩:=ay (uh ig) dU bE;have mT:=ab iK;have dc:=ab bP;have cH:=ab ((uh bT).trans bE);clear bP bE iK;obtain⟨⟨qr0,qr1,qr2,qr3,qr4,qr5⟩,zr0,zr1,zr2,zr3,zr4,zr5⟩:=fG (uh mT);clear mT;go_wp2_with fail
   refine bodyPost_ret (v:=.agg #[.int .i64 1,.int .i64 v,.int .i64 (ej ws s),.int .i64 (fB ws s),.int .i64 0,.int .i64 0]) (by simp[results,Tryz.results216,go_sem,cell?_alloc_past,BZ,qr0,qr1,qr2,qr3,qr4,qr5]) rfl ⟨by rw[uh HN];rfl,F2,?_,?_⟩
   .rw[uh HS];exact(((((((uh dc).setOther jS _).setOther jS _).setOther jS _).setOther jS _).setOther jS _).setOther jS _).alloc _
   .exact(((((((uh cH).setCell (zq1 (zq4 _)) _).setCell (zq1 (zq4 _)) _).setCell (zq1 (zq4 _)) _).setCell (zq1 (zq4 _)) _).setCell (zq1 (zq4 _)) _).setCell (zq1 (zq4 _)) _).alloc _
  |true =>
   have hkt:(((ej ws s:Nat):Int)==1)=true:=(by simp at hk ⊢;omega);cases hd:cL ws qV (cO ws s) with
   |false =>
    have HN:Hid (Ai ws v s=⟨1,v,ej ws s,fB ws s,0,0⟩):=ab (by unfold Ai RY;rw[hb,hk,hd];rfl);have HS:Hid (rW ws s=cO ws s):=ab (by unfold rW RY;rw[hb,hk,hd];rfl);have tz:Hid (kx ws qV (cO ws s)=cO ws s):=ab (if_neg (by simp[hd]));have cg:=ab hd;clear hb hk hd;go_enter func216,ntmps216;have kU:=λo=>ab (aA zi (by decide) ((uh HQ).alloc o));simp only[uh HB,uh HE]at kU;go_wp2_with fail
    refine(uh (kU _)).mono ?_;rintro e w1 ⟨rfl,df,bq⟩;have jd:=((ar.refl F w).alloc _).trans bq;obtain⟨ez,dU,wb⟩:=bF (uh HQ).m bq;have ig:=ab ez;have dD:=ab df;have bT:=ab jd;clear df bq jd ez;go_wp2_with fail
    refine(gt (uh dD)).mono ?_;rintro e w2 ⟨rfl,F2,bP,bE⟩;obtain⟨iK,jS,BZ⟩:=ay (uh ig) dU bE;have mT:=ab iK;have dc:=ab bP;have cH:=ab ((uh bT).trans bE);clear bP bE iK;have Dz:=λo=>ab (aA qV (by decide) ((uh dc).alloc o));simp only[uh cg,uh tz]at Dz;go_wp2_with fail
    refine(uh (Dz _)).mono ?_;rintro e w3 ⟨rfl,ec,bZ⟩;have lH:=((ar.refl F2 w2).alloc _).trans bZ;obtain⟨jQ,iM,JS⟩:=ay (uh mT) jS lH;obtain⟨JI,afW,ak0⟩:=bF (uh dc).m bZ;have nP:=ab jQ;have Xr:=ab JI;have gU:=ab ec;have fV:=ab ((uh cH).trans lH);clear ec bZ lH jQ JI;obtain⟨⟨qr0,qr1,qr2,qr3,qr4,qr5⟩,zr0,zr1,zr2,zr3,zr4,zr5⟩:=fG (uh nP);clear nP;obtain⟨⟨qb0,qb1⟩,zb0,zb1⟩:=jz (uh Xr);go_wp2_with fail
    refine bodyPost_ret (v:=.agg #[.int .i64 1,.int .i64 v,.int .i64 (ej ws s),.int .i64 (fB ws s),.int .i64 0,.int .i64 0]) (by simp[results,Tryz.results216,go_sem,qr0,qr1,qr2,qr3,qr4,qr5]) rfl ⟨by rw[uh HN];rfl,F2,?_,?_⟩
    .rw[uh HS];exact(((((((uh gU).setOther iM _).setOther iM _).setOther iM _).setOther iM _).setOther iM _).setOther iM _)
    .exact(((((((uh fV).setCell (zq1 (zq4 _)) _).setCell (zq1 (zq4 _)) _).setCell (zq1 (zq4 _)) _).setCell (zq1 (zq4 _)) _).setCell (zq1 (zq4 _)) _).setCell (zq1 (zq4 _)) _)
   |true =>
    have HN:Hid (Ai ws v s=⟨2,v,ej ws s,fB ws s,0,0⟩):=ab (by unfold Ai RY;rw[hb,hk,hd];rfl);have HS:Hid (rW ws s=bp ws kN (cO ws s).adv):=ab (by unfold rW RY;rw[hb,hk,hd];rfl);have tz:Hid (kx ws qV (cO ws s)=(cO ws s).adv):=ab (if_pos hd);have cg:=ab hd;clear hb hk hd;go_enter func216,ntmps216;have kU:=λo=>ab (aA zi (by decide) ((uh HQ).alloc o));simp only[uh HB,uh HE]at kU;go_wp2_with fail
    refine(uh (kU _)).mono ?_;rintro e w1 ⟨rfl,df,bq⟩;have jd:=((ar.refl F w).alloc _).trans bq;obtain⟨ez,dU,wb⟩:=bF (uh HQ).m bq;have ig:=ab ez;have dD:=ab df;have bT:=ab jd;clear df bq jd ez;go_wp2_with fail
    refine(gt (uh dD)).mono ?_;rintro e w2 ⟨rfl,F2,bP,bE⟩;obtain⟨iK,jS,BZ⟩:=ay (uh ig) dU bE;have mT:=ab iK;have dc:=ab bP;have cH:=ab ((uh bT).trans bE);clear bP bE iK;have Dz:=λo=>ab (aA qV (by decide) ((uh dc).alloc o));simp only[uh cg,uh tz]at Dz;go_wp2_with fail
    refine(uh (Dz _)).mono ?_;rintro e w3 ⟨rfl,ec,bZ⟩;have lH:=((ar.refl F2 w2).alloc _).trans bZ;obtain⟨jQ,iM,JS⟩:=ay (uh mT) jS lH;obtain⟨JI,afW,ak0⟩:=bF (uh dc).m bZ;have nP:=ab jQ;have Xr:=ab JI;have gU:=ab ec;have fV:=ab ((uh cH).trans lH);clear ec bZ lH jQ JI;go_wp2_with fail
    refine(aV kN (by decide) (uh gU)).mono ?_;rintro e w4 ⟨rfl,kZ,er⟩;obtain⟨py,kL,N5⟩:=ay (uh nP) iM er;obtain⟨Y9,arj,aq8⟩:=ay (uh Xr) afW er;have tu:=ab py;have aiU:=ab Y9;have mU:=ab kZ;have kt:=ab ((uh fV).trans er);clear kZ er py Y9;obtain⟨⟨qr0,qr1,qr2,qr3,qr4,qr5⟩,zr0,zr1,zr2,zr3,zr4,zr5⟩:=fG (uh tu);clear tu;obtain⟨⟨qb0,qb1⟩,zb0,zb1⟩:=jz (uh aiU);go_wp2_with fail
    refine bodyPost_ret (v:=.agg #[.int .i64 2,.int .i64 v,.int .i64 (ej ws s),.int .i64 (fB ws s),.int .i64 0,.int .i64 0]) (by simp[results,Tryz.results216,go_sem,qr0,qr1,qr2,qr3,qr4,qr5]) rfl ⟨by rw[uh HN];rfl,F2,?_,?_⟩
    .rw[uh HS];exact(((((((uh mU).setOther kL _).setOther kL _).setOther kL _).setOther kL _).setOther kL _).setOther kL _)
    .exact(((((((uh kt).setCell (zq1 (zq4 _)) _).setCell (zq1 (zq4 _)) _).setCell (zq1 (zq4 _)) _).setCell (zq1 (zq4 _)) _).setCell (zq1 (zq4 _)) _).setCell (zq1 (zq4 _)) _)
theorem Fe(h:dP B WV w P ws s F):
  Calls prog 188 #[.pointer (some ⟨P,0,none⟩)] w λe w'=>e=.returned (.agg (oK ws s).cells.toArray)/\∃F',dP B WV w' P ws (mq ws s) F'/\ar F w F' w':=by
 have HQ:=ab h;clear h;cases hb:cL ws pG s with
 |true =>
  have HN:Hid (oK ws s=⟨6,0,0,0,0,0⟩):=ab (if_pos hb);have HS:Hid (mq ws s=s.adv):=ab (if_pos hb);have HE:Hid (kx ws pG s=s.adv):=ab (if_pos hb);have HB:=ab hb;clear hb;go_enter func188,ntmps188;have kU:=λo=>ab (aA pG (by decide) ((uh HQ).alloc o));simp only[uh HB,uh HE]at kU;go_wp2_with fail
  refine(uh (kU _)).mono ?_;rintro e w1 ⟨rfl,df,bq⟩;have jd:=((ar.refl F w).alloc _).trans bq;obtain⟨ez,dU,wb⟩:=bF (uh HQ).m bq;have ig:=ab ez;have dD:=ab df;have bT:=ab jd;clear df bq jd ez;obtain⟨⟨qr0,qr1,qr2,qr3,qr4,qr5⟩,zr0,zr1,zr2,zr3,zr4,zr5⟩:=fG (uh ig);clear ig;go_wp2_with fail
  refine bodyPost_ret (v:=.agg #[.int .i64 6,.int .i64 0,.int .i64 0,.int .i64 0,.int .i64 0,.int .i64 0]) (by simp[results,Tryz.results188,go_sem,qr0,qr1,qr2,qr3,qr4,qr5]) rfl ⟨by rw[uh HN];rfl,F,?_,?_⟩
  .rw[uh HS];exact(((((((uh dD).setOther dU _).setOther dU _).setOther dU _).setOther dU _).setOther dU _).setOther dU _)
  .exact(((((((uh bT).setCell (zq1 (zq4 _)) _).setCell (zq1 (zq4 _)) _).setCell (zq1 (zq4 _)) _).setCell (zq1 (zq4 _)) _).setCell (zq1 (zq4 _)) _).setCell (zq1 (zq4 _)) _)
 |false =>
  have HE:Hid (kx ws pG s=s):=ab (if_neg (by simp[hb]));have HB:=ab hb;cases aL:cL ws rN s with
  |true =>
   have HN:Hid (oK ws s=⟨5,rR ws s.adv,0,0,0,0⟩):=ab (by unfold oK;rw[hb,aL];rfl);have HS:Hid (mq ws s=cn ws s.adv):=ab (by unfold mq;rw[hb,aL];rfl);have tz:Hid (kx ws rN s=s.adv):=ab (if_pos aL);have cg:=ab aL;clear hb aL;go_enter func188,ntmps188;have kU:=λo=>ab (aA pG (by decide) ((uh HQ).alloc o));simp only[uh HB,uh HE]at kU;go_wp2_with fail
   refine(uh (kU _)).mono ?_;rintro e w1 ⟨rfl,df,bq⟩;have jd:=((ar.refl F w).alloc _).trans bq;obtain⟨ez,dU,wb⟩:=bF (uh HQ).m bq;have ig:=ab ez;have dD:=ab df;have bT:=ab jd;clear df bq jd ez;have lA:=aA rN (by decide) (uh dD);rw[uh cg,uh tz]at lA;replace lA:=ab lA
   go_wp2_with fail
   refine(uh lA).mono ?_;rintro e w2 ⟨rfl,bP,bE⟩;obtain⟨iK,jS,BZ⟩:=ay (uh ig) dU bE;have mT:=ab iK;have dc:=ab bP;have cH:=ab ((uh bT).trans bE);clear bP bE iK;go_wp2_with fail
   refine(ek (uh dc)).mono ?_;rintro e w3 ⟨rfl,F3,ec,bZ⟩;obtain⟨jQ,iM,JS⟩:=ay (uh mT) jS bZ;have nP:=ab jQ;have gU:=ab ec;have fV:=ab ((uh cH).trans bZ);clear ec bZ jQ;obtain⟨⟨qr0,qr1,qr2,qr3,qr4,qr5⟩,zr0,zr1,zr2,zr3,zr4,zr5⟩:=fG (uh nP);clear nP;go_wp2_with fail
   refine bodyPost_ret (v:=.agg #[.int .i64 5,.int .i64 (rR ws s.adv),.int .i64 0,.int .i64 0,.int .i64 0,.int .i64 0]) (by simp[results,Tryz.results188,go_sem,qr0,qr1,qr2,qr3,qr4,qr5]) rfl ⟨by rw[uh HN];rfl,F3,?_,?_⟩
   .rw[uh HS];exact(((((((uh gU).setOther iM _).setOther iM _).setOther iM _).setOther iM _).setOther iM _).setOther iM _)
   .exact(((((((uh fV).setCell (zq1 (zq4 _)) _).setCell (zq1 (zq4 _)) _).setCell (zq1 (zq4 _)) _).setCell (zq1 (zq4 _)) _).setCell (zq1 (zq4 _)) _).setCell (zq1 (zq4 _)) _)
  |false =>
   have tz:Hid (kx ws rN s=s):=ab (if_neg (by simp[aL]));have cg:=ab aL;cases cB:cL ws qV (cn ws s) with
   |true =>
    have HN:Hid (oK ws s=⟨3,rR ws s,ej ws (Dv ws (cn ws s)),fB ws (Dv ws (cn ws s)),0,0⟩):=ab (by unfold oK;rw[hb,aL,cB];rfl);have HS:Hid (mq ws s=cO ws (Dv ws (cn ws s))):=ab (by unfold mq;rw[hb,aL,cB];rfl);have HE3:Hid (kx ws qV (cn ws s)=(cn ws s).adv):=ab (if_pos cB);have HL:Hid (bp ws m6 (bp ws kN (cn ws s).adv)=Dv ws (cn ws s)):=ab rfl;have oL:=ab cB;clear hb aL cB;go_enter func188,ntmps188;have kU:=λo=>ab (aA pG (by decide) ((uh HQ).alloc o));simp only[uh HB,uh HE]at kU;go_wp2_with fail
    refine(uh (kU _)).mono ?_;rintro e w1 ⟨rfl,df,bq⟩;have jd:=((ar.refl F w).alloc _).trans bq;obtain⟨ez,dU,wb⟩:=bF (uh HQ).m bq;have ig:=ab ez;have dD:=ab df;have bT:=ab jd;clear df bq jd ez;have lA:=aA rN (by decide) (uh dD);rw[uh cg,uh tz]at lA;replace lA:=ab lA
    go_wp2_with fail
    refine(uh lA).mono ?_;rintro e w2 ⟨rfl,bP,bE⟩;obtain⟨iK,jS,BZ⟩:=ay (uh ig) dU bE;have mT:=ab iK;have dc:=ab bP;have cH:=ab ((uh bT).trans bE);clear bP bE iK;go_wp2_with fail
    refine(ek (uh dc)).mono ?_;rintro e w3 ⟨rfl,F3,ec,bZ⟩;obtain⟨jQ,iM,JS⟩:=ay (uh mT) jS bZ;have nP:=ab jQ;have gU:=ab ec;have fV:=ab ((uh cH).trans bZ);clear ec bZ jQ;have vN:=aA qV (by decide) (uh gU);rw[uh oL,uh HE3]at vN;replace vN:=ab vN
    go_wp2_with fail
    refine(uh vN).mono ?_;rintro e w4 ⟨rfl,kZ,er⟩;obtain⟨py,kL,N5⟩:=ay (uh nP) iM er;have tu:=ab py;have mU:=ab kZ;have kt:=ab ((uh fV).trans er);clear kZ er py;go_wp2_with fail
    refine(aV kN (by decide) (uh mU)).mono ?_;rintro e w5 ⟨rfl,qO,eT⟩;obtain⟨BP,wf,Zs⟩:=ay (uh tu) kL eT;have IY:=ab BP;have FF:=ab qO;have rT:=ab ((uh kt).trans eT);clear qO eT BP;go_wp2_with fail
    refine(aV m6 (by decide) (uh FF)).mono ?_;rintro e w6 ⟨rfl,hI6,BG⟩;rw[uh HL]at hI6;obtain⟨NC,B8,ak2⟩:=ay (uh IY) wf BG;have Rp:=ab NC;have HI6:=ab hI6;have RH:=ab ((uh rT).trans BG);clear hI6 BG NC;go_wp2_with fail
    refine(gt (uh HI6)).mono ?_;rintro e w7 ⟨rfl,F7,hI7,Dh⟩;obtain⟨ae2,JV,ak3⟩:=ay (uh Rp) B8 Dh;have acQ:=ab ae2;have HI7:=ab hI7;have VG:=ab ((uh RH).trans Dh);clear hI7 Dh ae2;obtain⟨⟨qr0,qr1,qr2,qr3,qr4,qr5⟩,zr0,zr1,zr2,zr3,zr4,zr5⟩:=fG (uh acQ);clear acQ;go_wp2_with fail
    refine bodyPost_ret (v:=.agg #[.int .i64 3,.int .i64 (rR ws s),.int .i64 (ej ws (Dv ws (cn ws s))),.int .i64 (fB ws (Dv ws (cn ws s))),.int .i64 0,.int .i64 0]) (by simp[results,Tryz.results188,go_sem,cell?_alloc_past,ak3,qr0,qr1,qr2,qr3,qr4,qr5]) rfl ⟨by rw[uh HN];rfl,F7,?_,?_⟩
    .rw[uh HS];exact(((((((uh HI7).setOther JV _).setOther JV _).setOther JV _).setOther JV _).setOther JV _).setOther JV _).alloc _
    .exact(((((((uh VG).setCell (zq1 (zq4 _)) _).setCell (zq1 (zq4 _)) _).setCell (zq1 (zq4 _)) _).setCell (zq1 (zq4 _)) _).setCell (zq1 (zq4 _)) _).setCell (zq1 (zq4 _)) _).alloc _
   |false =>
    have HN:Hid (oK ws s=Ai ws (rR ws s) (bp ws m6 (cn ws s))):=ab (by unfold oK;rw[hb,aL,cB];rfl);have HS:Hid (mq ws s=rW ws (bp ws m6 (cn ws s))):=ab (by unfold mq;rw[hb,aL,cB];rfl);have HE3:Hid (kx ws qV (cn ws s)=cn ws s):=ab (if_neg (by simp[cB]));have oL:=ab cB;clear hb aL cB;go_enter func188,ntmps188;have kU:=λo=>ab (aA pG (by decide) ((uh HQ).alloc o));simp only[uh HB,uh HE]at kU;go_wp2_with fail
    refine(uh (kU _)).mono ?_;rintro e w1 ⟨rfl,df,bq⟩;have jd:=((ar.refl F w).alloc _).trans bq;obtain⟨ez,dU,wb⟩:=bF (uh HQ).m bq;have ig:=ab ez;have dD:=ab df;have bT:=ab jd;clear df bq jd ez;have lA:=aA rN (by decide) (uh dD);rw[uh cg,uh tz]at lA;replace lA:=ab lA
    go_wp2_with fail
    refine(uh lA).mono ?_;rintro e w2 ⟨rfl,bP,bE⟩;obtain⟨iK,jS,BZ⟩:=ay (uh ig) dU bE;have mT:=ab iK;have dc:=ab bP;have cH:=ab ((uh bT).trans bE);clear bP bE iK;go_wp2_with fail
    refine(ek (uh dc)).mono ?_;rintro e w3 ⟨rfl,F3,ec,bZ⟩;obtain⟨jQ,iM,JS⟩:=ay (uh mT) jS bZ;have nP:=ab jQ;have gU:=ab ec;have fV:=ab ((uh cH).trans bZ);clear ec bZ jQ;have vN:=aA qV (by decide) (uh gU);rw[uh oL,uh HE3]at vN;replace vN:=ab vN
    go_wp2_with fail
    refine(uh vN).mono ?_;rintro e w4 ⟨rfl,kZ,er⟩;obtain⟨py,kL,N5⟩:=ay (uh nP) iM er;have tu:=ab py;have mU:=ab kZ;have kt:=ab ((uh fV).trans er);clear kZ er py;go_wp2_with fail
    refine(aV m6 (by decide) (uh mU)).mono ?_;rintro e w5 ⟨rfl,qO,eT⟩;obtain⟨BP,wf,Zs⟩:=ay (uh tu) kL eT;have IY:=ab BP;have FF:=ab qO;have rT:=ab ((uh kt).trans eT);clear qO eT BP;go_wp2_with fail
    refine(tJ (rR ws s) (uh FF)).mono ?_;rintro e w6 ⟨rfl,F6,hI6,BG⟩;obtain⟨NC,B8,ak2⟩:=ay (uh IY) wf BG;have Rp:=ab NC;have HI6:=ab hI6;have RH:=ab ((uh rT).trans BG);clear hI6 BG NC;obtain⟨A0,Au⟩:∃A0,A0=Ai ws (rR ws s) (bp ws m6 (cn ws s)):=⟨_,rfl⟩;have HA0:=ab Au;rw[<-Au]at HN ⊢;clear Au;obtain⟨n0,n1,n2,n3,n4,n5⟩:=A0;simp only[Nd.cells];obtain⟨⟨qr0,qr1,qr2,qr3,qr4,qr5⟩,zr0,zr1,zr2,zr3,zr4,zr5⟩:=fG (uh Rp);clear Rp;go_wp2_with fail
    refine bodyPost_ret (v:=.agg #[.int .i64 n0,.int .i64 n1,.int .i64 n2,.int .i64 n3,.int .i64 n4,.int .i64 n5]) (by simp[results,Tryz.results188,go_sem,qr0,qr1,qr2,qr3,qr4,qr5]) rfl ⟨by rw[uh HN];rfl,F6,?_,?_⟩
    .rw[uh HS];exact(((((((uh HI6).setOther B8 _).setOther B8 _).setOther B8 _).setOther B8 _).setOther B8 _).setOther B8 _)
    .exact(((((((uh RH).setCell (zq1 (zq4 _)) _).setCell (zq1 (zq4 _)) _).setCell (zq1 (zq4 _)) _).setCell (zq1 (zq4 _)) _).setCell (zq1 (zq4 _)) _).setCell (zq1 (zq4 _)) _)
end
def AI:ByteArray:=⟨#[123]⟩
def Dq:ByteArray:=⟨#[125]⟩
def l9:ByteArray:=⟨#[59]⟩
def G6:ByteArray:=⟨#[105,102]⟩
def gp:ByteArray:=⟨#[119,104,105,108,101]⟩
def xL:ByteArray:=⟨#[101,108,115,101]⟩
def eG(k n:Nat)(l:List Nd):List Nd:=l.modify k (λx=>{ x with ot:=n })
def ic(k n:Nat)(l:List Nd):List Nd:=l.modify k (λx=>{ x with nx:=n })
def l7:Nd:=⟨10,0,0,0,0,0⟩
def Iw(ws:List ByteArray)(s:PS):PS:=dR (oK ws s) (bp ws l9 (mq ws s))
def fP(blk:PS->PS)(ws:List ByteArray)(s:PS):PS:=blk (jx ws (bp ws G6 s))
def sE(t:Nat)(s:PS):PS:={ dR l7 s.adv with nodes:=eG t (dR l7 s.adv).nodes.length (dR l7 s.adv).nodes }
def R5(j:Nat)(s:PS):PS:={ s with nodes:=ic j s.nodes.length s.nodes }
def F8(blk:PS->PS)(ws:List ByteArray)(s:PS):PS :=
 if cL ws xL (fP blk ws s) then R5 (fP blk ws s).nodes.length (blk (sE s.nodes.length (fP blk ws s)))
 else { fP blk ws s with nodes:=eG s.nodes.length (fP blk ws s).nodes.length (fP blk ws s).nodes }
def rP(blk:PS->PS)(ws:List ByteArray)(s:PS):PS:=blk (jx ws (bp ws gp s))
def Cl(blk:PS->PS)(ws:List ByteArray)(s:PS):PS :=
 { dR l7 (rP blk ws s) with nodes:=eG s.nodes.length (dR l7 (rP blk ws s)).nodes.length (ic (rP blk ws s).nodes.length s.nodes.length (dR l7 (rP blk ws s)).nodes) }
def tM(blk:PS->PS)(ws:List ByteArray)(s:PS):PS:=if cL ws G6 s then F8 blk ws s else if cL ws gp s then Cl blk ws s else Iw ws s
def mX(c:PS->PS)(ws:List ByteArray):Nat->PS->PS
 |0,s=>s
 |n+1,s=>if s.failed||cL ws Dq s then s else mX c ws n (c s)
def DS(ws:List ByteArray):Nat->PS->PS
 |0,s=>s
 |f+1,s=>bp ws Dq (mX (tM (DS ws f) ws) ws (ws.length+2) (bp ws AI s))
theorem dC(k n:Nat)(l:List Nd):(eG k n l).length=l.length:=by simp[eG]
theorem eh(k n:Nat)(l:List Nd):(ic k n l).length=l.length:=by simp[ic]
def fb(s:PS):Nat:=if s.failed then 1 else 0
section
variable {ws:List ByteArray} {s:PS}
theorem tI(k:ByteArray)(hk:k.size≠0)(h:s.failed=true):cL ws k s=false:=by
 cases hb:cL ws k s with
 |false=>rfl
 |true=>have:=(xQ (ws:=ws) (s:=s) (by rw[ii hb];exact hk)).1;rw[h]at this;cases this
theorem cV(k:ByteArray)(h:(bp ws k s).failed=false):cL ws k s=true/\s.failed=false/\(bp ws k s).pos=s.pos+1:=by
 unfold bp at *;split at h
 .rename_i hb;rw[if_pos hb];exact⟨hb,h,rfl⟩
 .cases h
theorem Jn(k:ByteArray)(hk:k.size≠0)(h:s.failed=true):(bp ws k s).failed=true:=by
 unfold bp;rw[tI k hk h];rfl
theorem mt(h:(cn ws s).failed=false):aX (pk ws s)=true/\s.failed=false/\(cn ws s).pos=s.pos+1:=by
 unfold cn at *;split at h
 .rename_i hb;rw[if_pos hb];exact⟨hb,h,rfl⟩
 .cases h
theorem mR(h:(cO ws s).failed=false):s.failed=false/\(cO ws s).pos=s.pos+1:=by
 unfold cO at *;split at h
 .rename_i hb;rw[if_pos hb];exact⟨h,rfl⟩
 .rename_i hb;rw[if_neg hb];exact(mt h).2
theorem Mh(h:(tO ws s).failed=false):s.failed=false:=by
 unfold tO at h;split at h
 .exact h
 .have h1:=(mR h).1;unfold Aq at h1;split at h1
  .exact(mt h1).2.1
  .exact(mt (cV _ h1).2.1).2.1
theorem Ql(h:(jx ws s).failed=false):s.failed=false:=(cV _ (Mh (cV _ h).2.1)).2.1
theorem LP(h:(rW ws s).failed=false):s.failed=false:=by
 unfold rW at h;split at h
 .exact h
 .split at h
  .exact(mR (cV _ h).2.1).1
  .exact(mR h).1
theorem P5(h:(mq ws s).failed=false):s.failed=false/\s.pos<(mq ws s).pos:=by
 unfold mq at *;split at h
 .rename_i hb;rw[if_pos hb];exact⟨h,Nat.lt_succ_self _⟩
 .rename_i hb;rw[if_neg hb];split at h
  .rename_i aL;rw[if_pos aL];exact⟨(mt h).2.1,by rw[(mt h).2.2];show s.pos<s.pos+1+1;omega⟩
  .rename_i aL;rw[if_neg aL];split at h
   .rename_i cB;rw[if_pos cB];have h1:=mR h;unfold Dv at h1;have h2:=(mt (cV _ (cV _ h1.1).2.1).2.1).2;refine⟨h2.1,?_⟩;have e1:=gT (ws:=ws) (s:=Dv ws (cn ws s));have e2:(cn ws s).adv.pos<=(Dv ws (cn ws s)).pos:=zq3 (ca kN) (ca m6);have e3:=cQ (s:=cn ws s);omega
   .rename_i cB;rw[if_neg cB];have h1:=cV _ (LP h);have h2:=(mt h1.2.1).2;refine⟨h2.1,?_⟩;have e1:(bp ws m6 (cn ws s)).pos<=(rW ws (bp ws m6 (cn ws s))).pos:=by
     unfold rW;split
     .exact cQ
     .split
      .exact zq3 (zq3 gT cQ) (ca _)
      .exact gT
    omega
theorem Sl:s.pos<=(tO ws s).pos:=by
 unfold tO;split
 .exact cQ
 .refine zq3 (zq3 (qb (ws:=ws)) ?_) gT;unfold Aq;split
  .exact cQ
  .exact ca _
theorem tj:s.pos<=(jx ws s).pos:=zq3 (zq3 (ca eX) Sl) (ca gY)
theorem mQ:(jx ws s).nodes.length=s.nodes.length+1:=by
 unfold jx dR;simp[rq]
theorem UQ:s.pos<=(mq ws s).pos:=by
 unfold mq;split
 .exact cQ
 .split
  .exact zq3 cQ qb
  .split
   .exact zq3 (zq3 (zq3 (zq3 qb cQ) (ca kN)) (ca m6)) gT
   .refine zq3 (zq3 (qb (ws:=ws)) (ca (ws:=ws) m6)) ?_;unfold rW;split
    .exact cQ
    .split
     .exact zq3 (zq3 gT cQ) (ca _)
     .exact gT
structure Lc(blk:PS->PS):Prop where
 pos:∀s,s.pos<=(blk s).pos
 nodes:∀s,s.nodes.length<=(blk s).nodes.length
 ok:∀s,(blk s).failed=false->s.failed=false
 phi:∀s,(blk s).nodes.length+2*s.pos<=s.nodes.length+2*(blk s).pos+fb (blk s)
theorem xg(s:PS):fb s<=1:=by unfold fb;split <;> omega
theorem xh{s:PS}(h:s.failed=false):fb s=0:=by unfold fb;rw[h];rfl
theorem D7{s:PS}(h:s.failed=true):fb s=1:=by unfold fb;rw[h];rfl
theorem iD{blk:PS->PS}(g:Lc blk):s.pos<=(tM blk ws s).pos/\s.nodes.length<=(tM blk ws s).nodes.length /\
  ((tM blk ws s).failed=false->s.failed=false/\s.pos<(tM blk ws s).pos)/\(tM blk ws s).nodes.length+2*s.pos<=s.nodes.length+2*(tM blk ws s).pos+fb (tM blk ws s):=by
 unfold tM;split
 .rename_i hb;have e1:(bp ws G6 s)=s.adv:=if_pos hb;have a1:s.adv.pos=s.pos+1:=rfl;have a2:=tj (ws:=ws) (s:=s.adv);have a3:=mQ (ws:=ws) (s:=s.adv);have a4:s.adv.nodes=s.nodes:=rfl;rw[a4]at a3;have eA:fP blk ws s=blk (jx ws s.adv):=by unfold fP;rw[e1]
  have p1:=g.pos (jx ws s.adv);have p2:=g.nodes (jx ws s.adv);have p3:=g.ok (jx ws s.adv);have p4:=g.phi (jx ws s.adv);rw[<-eA]at p1 p2 p3 p4;have ok1:(fP blk ws s).failed=false->s.failed=false:=λh=>Ql (s:=s.adv) (p3 h);unfold F8;split
  .rename_i aL;have okA:(fP blk ws s).failed=false:=(xQ (by rw[ii aL];decide)).1;have f0:=xh okA;have b1:(sE s.nodes.length (fP blk ws s)).pos=(fP blk ws s).pos+1:=rfl;have b2:(sE s.nodes.length (fP blk ws s)).nodes.length=(fP blk ws s).nodes.length+1:=(by simp[sE,dC,dR,PS.adv]);have q1:=g.pos (sE s.nodes.length (fP blk ws s));have q2:=g.nodes (sE s.nodes.length (fP blk ws s));have q4:=g.phi (sE s.nodes.length (fP blk ws s));generalize blk (sE s.nodes.length (fP blk ws s))=z at q1 q2 q4;have c1:(R5 (fP blk ws s).nodes.length z).pos=z.pos:=rfl;have c2:(R5 (fP blk ws s).nodes.length z).nodes.length=z.nodes.length:=(by simp[R5,eh]);have c3:fb (R5 (fP blk ws s).nodes.length z)=fb z:=rfl;rw[c1,c2,c3];exact⟨by omega,by omega,λ_=>⟨ok1 okA,by omega⟩,by omega⟩
  .simp only[dC];have c3:fb { fP blk ws s with nodes:=eG s.nodes.length (fP blk ws s).nodes.length (fP blk ws s).nodes }=fb (fP blk ws s):=rfl;rw[c3];have:=xg (fP blk ws s);exact⟨by omega,by omega,λh=>⟨ok1 h,by omega⟩,by omega⟩
 .split
  .rename_i _ hb;have e1:(bp ws gp s)=s.adv:=if_pos hb;have a1:s.adv.pos=s.pos+1:=rfl;have a2:=tj (ws:=ws) (s:=s.adv);have a3:=mQ (ws:=ws) (s:=s.adv);have a4:s.adv.nodes=s.nodes:=rfl;rw[a4]at a3;have eA:rP blk ws s=blk (jx ws s.adv):=(by unfold rP;rw[e1]);have p1:=g.pos (jx ws s.adv);have p2:=g.nodes (jx ws s.adv);have p3:=g.ok (jx ws s.adv);have p4:=g.phi (jx ws s.adv);rw[<-eA]at p1 p2 p3 p4;have ok1:(rP blk ws s).failed=false->s.failed=false:=λh=>Ql (s:=s.adv) (p3 h);have c1:(Cl blk ws s).pos=(rP blk ws s).pos:=rfl;have c2:(Cl blk ws s).nodes.length=(rP blk ws s).nodes.length+1:=(by simp[Cl,dC,eh,dR]);have c3:fb (Cl blk ws s)=fb (rP blk ws s):=rfl;have c4:(Cl blk ws s).failed=(rP blk ws s).failed:=rfl;rw[c1,c2,c3,c4];exact⟨by omega,by omega,λh=>⟨ok1 h,by omega⟩,by omega⟩
  .have a1:=UQ (ws:=ws) (s:=s);have a2:=ca (ws:=ws) (s:=mq ws s) l9;have c1:(Iw ws s).pos=(bp ws l9 (mq ws s)).pos:=rfl;have c2:(Iw ws s).nodes.length=s.nodes.length+1:=(by simp[Iw,dR,a8,x8]);have c4:(Iw ws s).failed=(bp ws l9 (mq ws s)).failed:=rfl;cases hf:(Iw ws s).failed with
   |true =>
    rw[c1,c2,D7 hf];exact⟨by omega,by omega,(λh=>absurd h (by simp)),by omega⟩
   |false =>
    rw[c4]at hf;have h1:=cV _ hf;have h2:=P5 h1.2.1;rw[c1,c2];exact⟨by omega,by omega,λ_=>⟨h2.1,by omega⟩,by omega⟩
theorem Mg{c:PS->PS}(hc:∀s,s.pos<=(c s).pos/\s.nodes.length<=(c s).nodes.length/\((c s).failed=false->s.failed=false)/\(c s).nodes.length+2*s.pos<=s.nodes.length+2*(c s).pos+fb (c s))(n:Nat):
  ∀s,s.pos<=(mX c ws n s).pos/\s.nodes.length<=(mX c ws n s).nodes.length/\((mX c ws n s).failed=false->s.failed=false)/\(mX c ws n s).nodes.length+2*s.pos<=s.nodes.length+2*(mX c ws n s).pos+fb (mX c ws n s):=by
 induction n with
 |zero=>intro s;exact⟨zq4 _,zq4 _,id,by simp only[mX];omega⟩
 |succ n ih =>
  intro s;simp only[mX];split
  .exact⟨zq4 _,zq4 _,id,by omega⟩
  .obtain⟨a,b,d,e⟩:=ih (c s);obtain⟨a',b',d',e'⟩:=hc s;refine⟨by omega,by omega,λh=>d' (d h),?_⟩;cases hf:(c s).failed with
   |false=>rw[xh hf]at e';omega
   |true =>
    have:fb (mX c ws n (c s))=1:=by
     cases hg:(mX c ws n (c s)).failed with
     |true=>exact D7 hg
     |false=>rw[d hg]at hf;cases hf
    have hn:mX c ws n (c s)=c s:=by
     cases n with
     |zero=>rfl
     |succ n=>simp[mX,hf]
    rw[hn]at e ⊢;omega
theorem iB(f:Nat):Lc (DS ws f):=by
 induction f with
 |zero=>exact⟨λ_=>zq4 _,λ_=>zq4 _,λ_=>id,λ_=>by simp only[DS];omega⟩
 |succ f ih =>
  have hc:=λn s=>Mg (ws:=ws) (c:=tM (DS ws f) ws) (λs=>⟨(iD ih).1,(iD ih).2.1,λh=>((iD ih).2.2.1 h).1,(iD ih).2.2.2⟩) n s;refine⟨λs=>?_,λs=>?_,λs h=>?_,λs=>?_⟩
  .exact zq3 (zq3 (ca AI) (hc _ _).1) (ca Dq)
  .simp only[DS,a8];have:=(hc (ws.length+2) (bp ws AI s)).2.1;rw[a8]at this;exact this
  .exact(cV _ ((hc _ _).2.2.1 (cV _ h).2.1)).2.1
  .simp only[DS,a8];have h1:=(hc (ws.length+2) (bp ws AI s)).2.2.2;have h2:=ca (ws:=ws) (s:=s) AI;rw[a8]at h1;generalize mX (tM (DS ws f) ws) ws (ws.length+2) (bp ws AI s)=z at h1 ⊢;have h3:=ca (ws:=ws) (s:=z) Dq;cases hf:z.failed with
   |false=>rw[xh hf]at h1;omega
   |true =>
    have h4:fb (bp ws Dq z)=1:=D7 (Jn Dq (by decide) hf);have h5:=xg z;omega
end
theorem aas(l:List Nd):(bj l).length=l.length*6:=by
 induction l with
 |nil=>rfl
 |cons a r ih=>simp only[bj,flatMap_cons,length_append,length_cons]at *;rw[ih];simp[Nd.cells];omega
theorem uB(k n:Nat)(l:List Nd):bj (eG k n l)=(bj l).set (k*6+5) (.int .i64 n):=by
 induction l generalizing k with
 |nil=>simp[bj,eG]
 |cons a r ih =>
  cases k with
  |zero=>simp[bj,eG,Nd.cells]
  |succ k =>
   have:=ih k;simp only[bj,eG,modify_succ_cons,flatMap_cons]at *;rw[this,show(k+1)*6+5=(k*6+5)+a.cells.length by simp[Nd.cells];omega,set_append_right _ _ (by omega)];simp
theorem Ct(k n:Nat)(l:List Nd):bj (ic k n l)=(bj l).set (k*6+4) (.int .i64 n):=by
 induction l generalizing k with
 |nil=>simp[bj,ic]
 |cons a r ih =>
  cases k with
  |zero=>simp[bj,ic,Nd.cells]
  |succ k =>
   have:=ih k;simp only[bj,ic,modify_succ_cons,flatMap_cons]at *;rw[this,show(k+1)*6+4=(k*6+4)+a.cells.length by simp[Nd.cells];omega,set_append_right _ _ (by omega)];simp
theorem Us{w:World}{B:Nat}{e:TypeId}{sz n g cap j:Nat}{xs:List Value}(h:w.ownsRow B e sz (.slice (some ⟨g,0,none⟩) n cap) n xs)(u:Value):
  (w.setCell ⟨g,j,none⟩ u).ownsRow B e sz (.slice (some ⟨g,0,none⟩) n cap) n (xs.set j u):=by
 refine⟨by simpa using h.1,?_⟩;rcases h.2 with⟨h0,_⟩|⟨g',cap',cur,hv,hB,hg,hn,hm,hs,ht⟩
 .cases h0
 .simp only[Value.slice.injEq,Option.some.injEq,Addr.mk.injEq]at hv;obtain⟨⟨rfl,_⟩,_,rfl⟩:=hv;refine .inr ⟨g,cap,cur.setIfInBounds j u,rfl,hB,wG hg u,hn,hm,by simpa using hs,?_⟩;rw[Array.toList_setIfInBounds,take_set,ht]
section
variable {B:Nat} {WV:Value} {w:World} {P:Nat} {ws:List ByteArray} {s:PS} {F:List Nat} {wv vv hv:Value} {g cap:Nat}
theorem dd.setNode(h:dd B WV w P ws s F wv vv hv (.slice (some ⟨g,0,none⟩) s.nodes.length cap))(j:Nat)(u:Value)(l:List Nd)(hl:bj l=(bj s.nodes).set j u)(sQ:l.length=s.nodes.length):
  dd B WV (w.setCell ⟨g,j,none⟩ u) P ws { s with nodes:=l } F wv vv hv (.slice (some ⟨g,0,none⟩) s.nodes.length cap):=by
 have fT:=h.apart;obtain⟨hP,hB,h1,h2,h3,h4,hF,hN⟩:=h;have hg:(Value.slice (some ⟨g,0,none⟩) s.nodes.length cap).ownBlock=some g:=rfl;have aJ:∀k,k≠g->(w.setCell ⟨g,j,none⟩ u).heap[k]?=w.heap[k]?:=λk hk=>heap_setCell _ _ _ _ hk;have ho:=fT.2.2.2 g hg;refine⟨by rw[aJ P (λe=>fT.1 g (by simp[hg]) e.symm)];exact hP,hB,ae h1 (λk hk=>aJ k (λe=>ho.1 (by rw[<-e];exact hk))),ae h2 (λk hk=>aJ k (λe=>ho.2.1 (by rw[<-e];exact hk))),
  ae h3 (λk hk=>aJ k (λe=>ho.2.2 (by rw[<-e];exact hk))),?_,hF,hN⟩
 exact gR (w:=w.setCell ⟨g,j,none⟩ u) (by have:=Us h4 (j:=j) u;exact this) sQ hl
theorem dd.nodeCell(h:dd B WV w P ws s F wv vv hv (.slice (some ⟨g,0,none⟩) s.nodes.length cap))(j:Nat)(hj:j<s.nodes.length*6):(∃v,w.cell? ⟨g,j,none⟩=some v/\v∈bj s.nodes)/\w.frozen? ⟨g,j,none⟩=false:=by
 obtain⟨hP,hB,h1,h2,h3,h4,hF,hN⟩:=h;have hl:j<(bj s.nodes).length:=by rw[aas];exact hj
 constructor
 .have:=h4.cells (g:=g) rfl j _ (getElem?_eq_getElem hl);rw[show(⟨g,0,none⟩:Addr).add j=⟨g,j,none⟩ by unfold Addr.add;split <;> simp_all]at this;exact⟨_,this,getElem_mem _⟩
 .rcases h4.2 with⟨h0,_⟩|⟨g',cap',cur,hv,hB,hg,hn,hm,hs,ht⟩
  .cases h0
  .simp only[Value.slice.injEq,Option.some.injEq,Addr.mk.injEq]at hv;obtain⟨⟨rfl,_⟩,_,rfl⟩:=hv;simp[World.frozen?,hg]
theorem iS{l:List Nd}{v:Value}(h:v∈bj l):∃n:Int,v=.int .i64 n:=by
 simp only[bj,mem_flatMap,Nd.cells]at h;obtain⟨a,_,h⟩:=h;simp at h;rcases h with h|h|h|h|h|h <;> exact⟨_,h⟩
end
def Fz(B:Nat)(WV:Value)(P:Nat)(ws:List ByteArray)(blk:PS->PS)(f:Nat):Prop :=
 ∀(w:World) (s:PS) (F:List Nat),dP B WV w P ws s F->(s.failed=false->ws.length<f+s.pos)->s.nodes.length+2*ws.length<=60000+2*s.pos ->
  Calls prog 122 #[.pointer (some ⟨P,0,none⟩)] w λe w'=>e=.returned (.tuple #[])/\∃F',dP B WV w' P ws (blk s) F'/\ar F w F' w'
section
variable {B:Nat} {WV:Value} {w:World} {P:Nat} {ws:List ByteArray} {s:PS} {F:List Nat} {wv vv hv:Value} {g cap:Nat}
theorem FP(h:dP B WV w P ws s F)(hn:s.nodes.length<=100000):
  Calls prog 123 #[.pointer (some ⟨P,0,none⟩),.agg #[.int .i64 10,.int .i64 0,.int .i64 0,.int .i64 0,.int .i64 0,.int .i64 0]] w λe w'=>e=.returned (.int .i64 s.nodes.length)/\∃F',dP B WV w' P ws (dR l7 s) F'/\ar F w F' w' :=
 sB l7 h hn
theorem dd.inF{w0:World}{F0:List Nat}{n:Nat}{j:Nat}(h:dd B WV w P ws s F wv vv hv (.slice (some ⟨g,0,none⟩) n cap))(hS:ar F0 w0 F w):(⟨g,j,none⟩:Addr).block∈F0\/w0.heap.size<=(⟨g,j,none⟩:Addr).block :=
 hS.foot g (by rw[h.2.2.2.2.2.2.1];simp[Value.ownBlock])
theorem dP.nodesAt(h:dP B WV w P ws s F)(hn:0<s.nodes.length):∃wv vv hv g cap,dd B WV w P ws s F wv vv hv (.slice (some ⟨g,0,none⟩) s.nodes.length cap):=by
 obtain⟨wv,vv,hv,nv,cW⟩:=h.m.named;rcases cW.2.2.2.2.2.1.2 with⟨_,h0⟩|⟨g,cap,cur,rfl,_⟩
 .omega
 .exact⟨wv,vv,hv,g,cap,cW⟩
theorem OT{blk:PS->PS}{f:Nat}(cd:Fz B WV P ws blk f)(gd:Lc blk)(hb:cL ws gp s=true)(dW:ws.length<f+1+s.pos)(sk:s.nodes.length+2*ws.length<=60000+2*s.pos)(h:dP B WV w P ws s F):
  Calls prog 187 #[.pointer (some ⟨P,0,none⟩)] w λe w'=>e=.returned (.tuple #[])/\∃F',dP B WV w' P ws (Cl blk ws s) F'/\ar F w F' w':=by
 have HQ:=ab h;have hp0:=h.f.2.1;clear h;have HE:Hid (bp ws gp s=s.adv):=ab (if_pos hb);have KY:s.adv.pos=s.pos+1:=rfl;have hna:s.adv.nodes.length=s.nodes.length:=rfl;have hts:=tj (ws:=ws) (s:=s.adv);have WM:=mQ (ws:=ws) (s:=s.adv);have h1:=gd.pos (jx ws s.adv);have h2:=gd.nodes (jx ws s.adv);have h3:=gd.phi (jx ws s.adv);have h4:=xg (blk (jx ws s.adv));have Ae:Hid (rP blk ws s=blk (jx ws s.adv)):=ab (by unfold rP;rw[uh HE]);have Lf:=ab cd;clear cd hb;go_enter func187,ntmps187;go_wp2_with fail
 refine(aV gp (by decide) (uh HQ)).mono ?_;rintro e w1 ⟨rfl,df,bq⟩;rw[uh HE]at df;have dD:=ab df;have bT:=ab bq;clear df bq;go_wp2_with fail
 refine(vb (s:=s.adv) (by omega) (uh dD)).mono ?_;rintro e w2 ⟨rfl,F2,bP,bE⟩;have dc:=ab bP;have cH:=ab ((uh bT).trans bE);clear bP bE;go_wp2_with fail
 refine(uh Lf _ _ _ (uh dc) (λ_=>by omega) (by omega)).mono ?_;rintro e w3 ⟨rfl,F3,ec,bZ⟩;have gU:=ab ec;have fV:=ab ((uh cH).trans bZ);clear ec bZ;have hp3:=(uh gU).f.2.1;go_wp2_with fail
 refine(FP (uh gU) (by omega)).mono ?_;rintro e w4 ⟨rfl,F4,kZ,er⟩;have mU:=ab kZ;have kt:=ab ((uh fV).trans er);clear kZ er;obtain⟨z,hz⟩:∃z,z=blk (jx ws s.adv):=⟨_,rfl⟩;rw[<-hz]at mU h1 h2 h3 h4 Ae ⊢;clear hz;have hzn:(dR l7 z).nodes.length=z.nodes.length+1:=by simp[dR]
 obtain⟨wv,vv,hv,g,cap,cW⟩:=(uh mU).nodesAt (by omega);obtain⟨_,_,_,_,c5,_⟩:=cW.readsV;obtain⟨⟨v4,yZ,AB⟩,f4⟩:=cW.nodeCell (z.nodes.length*6+4) (by omega);obtain⟨x4,rfl⟩:=iS AB;rw[hzn]at c5;have vP:=ab cW;clear cW AB;go_wp2_with fail
 have EB:=(uh vP).setNode (z.nodes.length*6+4) (.int .i64 (s.nodes.length:Int)) (ic z.nodes.length s.nodes.length (dR l7 z).nodes) (Ct _ _ _) (eh _ _ _);have m0:=(uh kt).setCell (p:=⟨g,z.nodes.length*6+4,none⟩) (w:=w4) ((uh vP).inF (uh kt)) (.int .i64 (s.nodes.length:Int));generalize w4.setCell ⟨g,z.nodes.length*6+4,none⟩ (.int .i64 (s.nodes.length:Int))=w5 at EB m0 ⊢;clear c5 yZ f4;obtain⟨y,hy⟩:∃y:PS,y={ dR l7 z with nodes:=ic z.nodes.length s.nodes.length (dR l7 z).nodes }:=⟨_,rfl⟩;have TP:y.nodes.length=z.nodes.length+1:=by rw[hy];simp[eh,dR]
 rw[<-hy]at EB;have HY:=ab hy;clear hy;rw[show(dR l7 z).nodes.length=y.nodes.length by rw[TP,hzn]]at EB;obtain⟨_,_,_,_,c5,_⟩:=EB.readsV;obtain⟨⟨v5,hv5,hm5⟩,f5⟩:=EB.nodeCell (s.nodes.length*6+5) (by omega);obtain⟨x5,rfl⟩:=iS hm5;have adt:=ab EB;have adH:=ab m0;clear EB m0 hm5;rw[TP]at c5;go_region
 go_end0
 have JX:=(uh adt).setNode (s.nodes.length*6+5) (.int .i64 ((z.nodes.length:Int)+1)) (eG s.nodes.length (z.nodes.length+1) y.nodes) (uB _ _ _) (dC _ _ _);have NI:Cl blk ws s={ y with nodes:=eG s.nodes.length (z.nodes.length+1) y.nodes }:=by unfold Cl;rw[uh Ae,uh HY,hzn]
 have yT:CW ws (Cl blk ws s):=by rw[NI,uh HY];exact(uh mU).f
 exact⟨rfl,F4,⟨by rw[NI];exact JX.is.drew,yT⟩,((uh adH).setCell (p:=⟨g,s.nodes.length*6+5,none⟩) ((uh adt).inF (uh adH)) _).drew⟩
end
