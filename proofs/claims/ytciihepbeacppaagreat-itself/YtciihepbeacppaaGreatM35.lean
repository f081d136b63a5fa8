import Derived.Test.YtciihepbeacppaaGreatM34
import Derived.OpenShut
import Derived.ProofKit
import Derived.Test.YtciihepbeacppaaGreatRows
set_option maxRecDepth 100000
set_option maxHeartbeats 0
namespace Go.Proofs.YtciihepbeacppaaGreat
open _root_.Go.Proofs.Tryz Go.RowKit List World Below
set_option linter.unusedVariables false
theorem MX(ws:List ByteArray)(n:Nat):∀s,(fW ws n s).1.length<=n:=by
 induction n with
 |zero=>intro s;simp[fW]
 |succ n ih =>
  intro s;unfold fW;split
  .have:=ih (dH ws s.adv);simp only[length_cons];omega
  .simp
theorem Gs(ws:List ByteArray)(s:PS):(Bu ws s).length<=ws.length+2:=by
 have:=MX ws (ws.length+1) (dH ws s);unfold Bu;simp only[length_cons];omega
theorem abo{s:PS}(hf:s.failed=false)(hn:s.nodes=[]):({ s with pos:=0,hid:=[] }:PS)=nI s.vars:=by
 cases s;simp only at hf hn;subst hf;subst hn;rfl
theorem Qo{v l:List UInt8}(h:240<l.length):lx v l=1:=by unfold lx;rw[if_pos h]
theorem Va{v l:List UInt8}(h:¬ 240<l.length)(h2:ju l=none):lx v l=2:=by unfold lx;rw[if_neg h,if_pos h2]
theorem Vb{v l:List UInt8}(h:¬ 240<l.length)(h2:ju l≠none)(h3:(nL v l).failed=true):lx v l=3:=by unfold lx;rw[if_neg h,if_neg h2,if_pos h3]
theorem Qp{v l:List UInt8}(h:¬ 240<l.length)(h2:ju l≠none)(h3:(nL v l).failed=false):lx v l=0:=by unfold lx;rw[if_neg h,if_neg h2,if_neg (by simp[h3])]
theorem xR(x:ByteArray)(hx:x.size<=20000){B:Nat}{WV:Value}{w:World}{P:Nat}{ws:List ByteArray}{s:PS}{F:List Nat}(h:dP B WV w P ws s F)(hv:s.vars.length<=240)(hf:s.failed=false)(hn:s.nodes=[]):
  Calls prog 113 #[.pointer (some ⟨P,0,none⟩),.string x] w λe w'=>∃F',ar F w F' w' /\
   ((lx s.vars x.data.toList≠0/\e=.returned (.tuple #[.slice none 0 0,.int .i64 (lx s.vars x.data.toList)])) \/
    (lx s.vars x.data.toList=0/\∃v av,e=.returned (.tuple #[av,.int .i64 0])/\dP B v w' P (bN x.data.toList) (nL s.vars x.data.toList) F' /\
     w'.ownsRow w.heap.size 239 5 av (Bu (bN x.data.toList) (nI s.vars)).length (aW (Bu (bN x.data.toList) (nI s.vars)))/\(∀k,av.ownBlock=some k->k ∉ F')/\(bN x.data.toList).length<=240/\(nL s.vars x.data.toList).failed=false)):=by
 have QQ:=ab (abo hf hn);have HO:=ab (Cw x hx h hv);have HM:=ab h.m.mem;clear h hf hn;go_enter func113,ntmps113;go_wp2_with fail
 refine(uh HO).mono ?_;rintro e w1 ⟨F1,bq,(⟨eB,rfl⟩|⟨eB,rJ,rfl⟩|⟨eB,ws1,v,ll,rfl,hq⟩)⟩
 .have HE:Hid (lx s.vars x.data.toList=1):=ab (Qo (by rw[bR];exact eB));have bT:=ab bq;clear eB bq HO;go_wp2_with fail
  go_ret2;exact⟨F1,uh bT,zq0 ⟨by rw[uh HE];decide,by rw[uh HE];rfl⟩⟩
 .have HE:Hid (lx s.vars x.data.toList=2):=ab (Va (by rw[bR];exact eB) rJ);have bT:=ab bq;clear eB bq HO rJ;go_wp2_with fail
  go_ret2;exact⟨F1,uh bT,zq0 ⟨by rw[uh HE];decide,by rw[uh HE];rfl⟩⟩
 .have HL:Hid (¬ 240<x.data.toList.length):=ab (by rw[bR];exact eB);have HW:Hid (bN x.data.toList=ws1):=ab (PK ll);have tC:Hid (ju x.data.toList≠none):=ab (by rw[ll];simp);have ajb:=ab (s9 ll).1;rw[uh QQ]at hq;have HQ:=ab hq;have bT:=ab bq;clear eB ll hq bq HO;go_wp2_with fail
  refine(rD (uh HQ)).mono ?_;rintro e w2 ⟨av,F2,rfl,bP,bE,aT,pC⟩;have dc:=ab bP;have cH:=ab ((uh bT).trans bE);have HOw:=ab aT;have Ls:=ab pC;have Ou:=(uh bT).size;clear bP bE aT pC;go_wp2_with fail
  refine(tU (uh dc)).mono ?_;rintro e w3 ⟨rfl,ec,bZ⟩;have HT:Hid (nL s.vars x.data.toList=pj ws1 (po ws1 (nI s.vars))):=ab (by unfold nL;rw[uh HW]);have adq:=ab (ae (uh HOw) (λk hk=>bZ.block k ((uh HOw).lt k hk).2 (uh Ls k hk)));have fV:=ab ((uh cH).trans bZ);obtain⟨st,aE⟩:∃st,st=pj ws1 (po ws1 (nI s.vars)):=⟨_,rfl⟩;rw[<-aE]at ec HT;have gU:=ab ec;obtain⟨wv,vv,K1,nv,cW⟩:=ec.m.named;obtain⟨-,c2,-,-,-,-⟩:=cW.readsV;obtain⟨ao,cap,qo⟩:=aC (uh adq);clear ec bZ aE cW dc HQ HOw cH;cases yS:st.failed with
  |true =>
   rw[yS]at c2;have HE:Hid (lx s.vars x.data.toList=3):=ab (Vb (uh HL) (uh tC) (by rw[uh HT];exact yS));clear yS;go_wp2_with fail
   go_ret2;exact⟨F2,uh fV,zq0 ⟨by rw[uh HE];decide,by rw[uh HE];rfl⟩⟩
  |false =>
   rw[yS]at c2;have HFd:=ab yS;have HE:Hid (lx s.vars x.data.toList=0):=ab (Qp (uh HL) (uh tC) (by rw[uh HT];exact yS));clear yS;go_wp2_with fail
   go_ret2;have vD:=uh ajb;have sP:=uh HL;refine⟨F2,uh fV,zq1 ⟨uh HE,v,av,by rw[qo];rfl,?_,?_,uh Ls,?_,?_⟩⟩
   .rw[uh HT,uh HW];exact uh gU
   .rw[uh HW];exact eM (uh adq) Ou
   .rw[uh HW];omega
   .rw[uh HT];exact uh HFd
theorem Vc{v l:List UInt8}(h:(nL v l).failed=false):(nL v l).vars.length<=v.length+(bN l).length:=by
 have h1:=(CT h).1;have h2:=Un (v.map bW) (bN l) (bN l).length;rw[<-h1,length_map,length_map]at h2;exact h2
theorem Jo(ws:List ByteArray)(s:PS):(pj ws s).nodes=s.nodes:=by unfold pj;split <;> rfl
theorem Kw{a c:List UInt8}(h:lx [] a≠0):vi a c=lx [] a:=by unfold vi;rw[if_pos h]
theorem Fp{a c:List UInt8}(h:lx [] a=0)(h2:lx (nJ a).vars c≠0):vi a c=lx (nJ a).vars c:=by unfold vi;rw[if_neg (by simp[h]),if_pos h2]
theorem Kx{a c:List UInt8}(h:lx [] a=0)(h2:lx (nJ a).vars c=0)(h3:4<(nK a c).vars.length\/8<(nJ a).hid.length\/8<(nK a c).hid.length):vi a c=4:=by unfold vi;rw[if_neg (by simp[h]),if_neg (by simp[h2]),if_pos h3]
theorem Qn{a c:List UInt8}(h:lx [] a=0)(h2:lx (nJ a).vars c=0)(h3:¬ (4<(nK a c).vars.length\/8<(nJ a).hid.length\/8<(nK a c).hid.length)):vi a c=0:=by unfold vi;rw[if_neg (by simp[h]),if_neg (by simp[h2]),if_neg h3]
theorem CE(a c:ByteArray)(w:World)(ha:a.size<=20000)(hc:c.size<=20000):
  Calls prog 65 #[.string a,.string c] w λe w'=>Below w.heap.size w w' /\
   ((vi a.data.toList c.data.toList≠0/\e=.returned (.tuple #[.slice none 0 0,.slice none 0 0,.int .i64 (vi a.data.toList c.data.toList)])) \/
    (vi a.data.toList c.data.toList=0/\∃v1 v2,e=.returned (.tuple #[v1,v2,.int .i64 0]) /\
     w'.ownsRow w.heap.size 239 5 v1 (IN a.data.toList).length (aW (IN a.data.toList)) /\
     w'.ownsRow w.heap.size 239 5 v2 (U9 a.data.toList c.data.toList).length (aW (U9 a.data.toList c.data.toList)) /\
     (IN a.data.toList).length<=242/\(U9 a.data.toList c.data.toList).length<=242/\(nJ a.data.toList).failed=false/\(nK a.data.toList c.data.toList).failed=false)):=by
 have XJ:=ab (GZ w w.heap.size (zq4 _));go_enter func65,ntmps65;go_wp2_with fail
 refine(xR a ha (uh XJ) (by simp[bY]) rfl rfl).mono ?_;rintro e w1 ⟨F1,bq,(⟨je,rfl⟩|⟨bf,v1,av1,rfl,xF,cy,WC,vD,BS⟩)⟩
 .have dm:Hid (Below w.heap.size w w1):=ab (((ar.refl [w.heap.size] w).alloc J5).trans bq |>.below (zq4 _) (by simp));obtain⟨ee,sM⟩:∃ee,ee=lx bY.vars a.data.toList:=⟨_,rfl⟩;have HE:Hid (vi a.data.toList c.data.toList=ee):=ab (by rw[sM];exact Kw je);rw[<-sM]at je ⊢;have aJ:¬ ((ee:Int)=0):=by omega
  clear bq sM;go_wp2_with fail
  go_ret3;exact⟨uh dm,zq0 ⟨by rw[uh HE];exact je,by rw[uh HE];rfl⟩⟩
 .have HE1:Hid (lx [] a.data.toList=0):=ab bf;have qp:(nJ a.data.toList).vars.length<=240:=by
   have h1:(nL [] a.data.toList).vars.length<=([]:List UInt8).length+_:=Vc BS;rw[length_nil]at h1;show(nL [] a.data.toList).vars.length<=240;omega
  have vO:Hid ((nJ a.data.toList).failed=false):=ab BS;have HL1:=ab vD;have HQ1:Hid (dP w.heap.size v1 w1 w.heap.size (bN a.data.toList) (nJ a.data.toList) F1):=ab xF;have RF:Hid (w1.ownsRow w.heap.size 239 5 av1 (IN a.data.toList).length (aW (IN a.data.toList))):=ab (eM cy (by simp));have Ls:=ab WC;have bT:=ab (((ar.refl [w.heap.size] w).alloc J5).trans bq);obtain⟨wv,vv,K1,nv,cW⟩:=xF.m.named;obtain⟨-,-,-,c4,-,-⟩:=cW.readsV;obtain⟨a4,k4,rfl⟩:=aC cW.2.2.2.2.1;obtain⟨ao1,cap1,Y6⟩:=aC (uh RF);rw[show nL bY.vars a.data.toList=nJ a.data.toList from rfl]at c4;have HNd:Hid ((nJ a.data.toList).nodes=[]):=ab (by
   show(pj _ _).nodes=[];rw[Jo,zG.nd];rfl)
  have HP2:=ab (xR c hc (uh HQ1) qp (uh vO) (uh HNd));obtain⟨T1,jd⟩:∃T1,T1=nJ a.data.toList:=⟨_,rfl⟩;obtain⟨al,jC⟩:∃al,al=IN a.data.toList:=⟨_,rfl⟩;have mW:=ab jd;have Rn:=ab jC;rw[<-jd]at c4 qp vO HQ1 HP2;rw[<-jC]at RF Y6;clear cW bf BS vD xF cy WC bq XJ jd jC;rw[Y6];go_wp2_with fail
  refine(uh HP2).mono ?_;rintro e w2 ⟨F2,bE,(⟨je,rfl⟩|⟨bf,v2,av2,rfl,WI,aT,pC,sP,jK⟩)⟩
  .have cg:Hid (Below w.heap.size w w2):=ab (((uh bT).trans bE).below (zq4 _) (by simp));obtain⟨ee,sM⟩:∃ee,ee=lx T1.vars c.data.toList:=⟨_,rfl⟩;have HE:Hid (vi a.data.toList c.data.toList=ee):=ab (by rw[sM,uh mW];exact Fp (uh HE1) (by rw[<-uh mW];exact je));rw[<-sM]at je ⊢;have aJ:¬ ((ee:Int)=0):=(by omega);clear bE sM HP2;go_wp2_with fail
   go_ret3;exact⟨uh cg,zq0 ⟨by rw[uh HE];exact je,by rw[uh HE];rfl⟩⟩
  .have cg:Hid (Below w.heap.size w w2):=ab (((uh bT).trans bE).below (zq4 _) (by simp));have adp:=ab (ae (uh RF) (λk hk=>bE.block k ((uh RF).lt k hk).2 (uh Ls k hk)));have Ou:=(uh bT).size;have XI:=ab (eM aT Ou);obtain⟨wv2,vv2,GS,nv2,cW⟩:=WI.m.named;obtain⟨-,-,d3,d4,-,-⟩:=cW.readsV;obtain⟨e3,j3,rfl⟩:=aC cW.2.2.2.1;obtain⟨e4,j4,rfl⟩:=aC cW.2.2.2.2.1;obtain⟨T2,Tl⟩:∃T2,T2=nL T1.vars c.data.toList:=⟨_,rfl⟩;have ku:Hid (T2=nK a.data.toList c.data.toList):=ab (by rw[Tl,uh mW];rfl);obtain⟨bl,bS⟩:∃bl,bl=Bu (bN c.data.toList) (nI T1.vars):=⟨_,rfl⟩;have HBl:Hid (bl=U9 a.data.toList c.data.toList):=ab (by rw[bS,uh mW];rfl);have tz:Hid (lx (nJ a.data.toList).vars c.data.toList=0):=ab (by rw[<-uh mW];exact bf);rw[<-Tl]at d3 d4 jK;rw[<-bS]at XI;obtain⟨ao2,cap2,aeX⟩:=aC (uh XI);have rt:=ab jK;have HLa:Hid (al.length<=242):=ab (by
    rw[uh Rn];have h1:=Gs (bN a.data.toList) (nI []);have h2:=uh HL1;show(Bu (bN a.data.toList) (nI [])).length<=242;omega)
   have HLb:Hid (bl.length<=242):=ab (by
    rw[bS];have h1:=Gs (bN c.data.toList) (nI T1.vars);omega)
   clear cW bf jK sP WI aT pC bE Tl bS HP2 Ls;rw[aeX];by_cases jD:4<T2.vars.length\/8<T1.hid.length\/8<T2.hid.length
   .have HE:Hid (vi a.data.toList c.data.toList=4):=ab (Kx (uh HE1) (uh tz) (by rw[<-uh ku,<-uh mW];exact jD));by_cases b1:4<T2.vars.length
    .clear jD;go_wp2_with fail
     go_ret3;exact⟨uh cg,zq0 ⟨by rw[uh HE];decide,by rw[uh HE];rfl⟩⟩
    .have q1:decide ((4:Int)<(T2.vars.length:Int))=false:=(by simp;omega);by_cases b2:8<T1.hid.length
     .clear jD;go_wp2_with fail
      go_ret3;exact⟨uh cg,zq0 ⟨by rw[uh HE];decide,by rw[uh HE];rfl⟩⟩
     .have q2:decide ((8:Int)<(T1.hid.length:Int))=false:=(by simp;omega);have b3:8<T2.hid.length:=(by omega);clear jD;go_wp2_with fail
      go_ret3;exact⟨uh cg,zq0 ⟨by rw[uh HE];decide,by rw[uh HE];rfl⟩⟩
   .have HE:Hid (vi a.data.toList c.data.toList=0):=ab (Qn (uh HE1) (uh tz) (by rw[<-uh ku,<-uh mW];exact jD));have q1:decide ((4:Int)<(T2.vars.length:Int))=false:=(by simp;omega);have q2:decide ((8:Int)<(T1.hid.length:Int))=false:=(by simp;omega);have q3:decide ((8:Int)<(T2.hid.length:Int))=false:=(by simp;omega);clear jD;go_wp2_with fail
    go_ret3;rw[<-uh HBl,<-uh Rn,<-uh mW,<-uh ku];exact⟨uh cg,zq1 ⟨uh HE,_,_,rfl,by rw[<-Y6];exact uh adp,by rw[<-aeX];exact uh XI,uh HLa,uh HLb,uh vO,uh rt⟩⟩
theorem th{ws:List ByteArray}{s:PS}(h:rm ws s=0):rl ws s=0:=by
 unfold rm at h;unfold rl;by_cases hu:lz (pk ws s)=true
 .rw[if_pos hu]at h;cases h
 .rw[if_neg hu]at h ⊢;unfold ej at h;unfold fB;by_cases hn:cL ws m7 s=true
  .rw[if_pos hn]
  .rw[if_neg hn]at h;cases h
def Zer(a:bC):Prop:=(a.lk=0->a.li=0)/\(a.rk=0->a.ri=0)
theorem LS(ws:List ByteArray)(s:PS):Zer (nS ws s):=by
 unfold nS;split
 .exact⟨λ_=>rfl,λ_=>rfl⟩
 .split
  .exact⟨λh=>th h,λh=>th h⟩
  .exact⟨λh=>th h,λh=>th h⟩
theorem SQ(ws:List ByteArray)(n:Nat):∀s,∀a∈(fW ws n s).1,Zer a:=by
 induction n with
 |zero=>intro s a h;simp[fW]at h
 |succ n ih =>
  intro s a h;unfold fW at h;split at h
  .rcases mem_cons.1 h with rfl|h
   .exact LS ws _
   .exact ih _ a h
  .cases h
theorem Gt(ws:List ByteArray)(s:PS):∀a∈Bu ws s,Zer a:=by
 intro a h;rcases mem_cons.1 h with rfl|h
 .exact LS ws _
 .exact SQ ws _ _ a h
theorem L4{vars hid:List UInt8}(hv:vars.length<=4)(hh:hid.length<=8){al:List bC}(ha:∀a∈al,nM vars hid a)(hz:∀a∈al,Zer a):∀a∈al,a.lk<=2/\a.rk<=2/\a.li<=100/\a.ri<=100:=by
 intro a h;obtain⟨-,⟨h1,h2,h3⟩,⟨g1,g2,g3⟩⟩:=ha a h;obtain⟨z1,z2⟩:=hz a h;refine⟨h1,g1,?_,?_⟩
 .have:a.lk=0\/a.lk=1\/a.lk=2:=by omega
  rcases this with e|e|e
  .rw[z1 e];exact zq5 _
  .have:=h2 e;omega
  .have:=h3 e;omega
 .have:a.rk=0\/a.rk=1\/a.rk=2:=by omega
  rcases this with e|e|e
  .rw[z2 e];exact zq5 _
  .have:=g2 e;omega
  .have:=g3 e;omega
theorem aha{a c:List UInt8}(hE:vi a c=0)(f1:(nJ a).failed=false)(f2:(nK a c).failed=false):
  gD (IN a)/\gD (U9 a c)/\(∀x∈IN a,x.lk<=2/\x.rk<=2/\x.li<=100/\x.ri<=100)/\(∀x∈U9 a c,x.lk<=2/\x.rk<=2/\x.li<=100/\x.ri<=100):=by
 obtain⟨-,-,-,i5,-⟩:=CT f1;obtain⟨-,-,-,j5,j6⟩:=CT f2;have JL:(nK a c).vars.length<=4/\(nJ a).hid.length<=8/\(nK a c).hid.length<=8:=by
  unfold vi at hE;by_cases g1:lx [] a≠0
  .rw[if_pos g1]at hE;exact absurd hE g1
  .rw[if_neg g1]at hE;by_cases g2:lx (nJ a).vars c≠0
   .rw[if_pos g2]at hE;exact absurd hE g2
   .rw[if_neg g2]at hE;by_cases g3:4<(nK a c).vars.length\/8<(nJ a).hid.length\/8<(nK a c).hid.length
    .rw[if_pos g3]at hE;cases hE
    .omega
 have WO:(nJ a).vars.length<=4:=by
  have h1:(nJ a).vars <+: (nK a c).vars:=j6;have:=h1.length_le;omega
 exact⟨ti WO JL.2.1 i5,ti JL.1 JL.2.2 j5,L4 WO JL.2.1 i5 (Gt _ _),L4 JL.1 JL.2.2 j5 (Gt _ _)⟩
theorem Bn(a c:ByteArray)(w:World)(ha:a.size<=20000)(hc:c.size<=20000):
  Calls prog 39 #[.string a,.string c] w λe w'=>e=.returned (.tuple #[.bool (wZ a.data.toList c.data.toList).1,.int .i64 (wZ a.data.toList c.data.toList).2])/\Below w.heap.size w w':=by
 go_enter func39,ntmps39;go_wp2_with fail
 refine(CE a c w ha hc).mono ?_;rintro e w1 ⟨a7,(⟨je,rfl⟩|⟨bf,v1,v2,rfl,ou,iu,vD,sP,BS,jK⟩)⟩
 .obtain⟨ee,sM⟩:∃ee,ee=vi a.data.toList c.data.toList:=⟨_,rfl⟩;have HE:Hid (wZ a.data.toList c.data.toList=(false,ee)):=ab (by rw[sM];unfold wZ;rw[if_pos je]);have dm:=ab a7;rw[<-sM]at je ⊢;have aJ:¬ ((ee:Int)=0):=by omega
  clear sM a7;go_wp2_with fail
  go_ret2;exact⟨by rw[uh HE];rfl,uh dm⟩
 .have HE:Hid (wZ a.data.toList c.data.toList=Dc (IN a.data.toList) (U9 a.data.toList c.data.toList)):=ab (by unfold wZ;rw[if_neg (by simp[bf])]);obtain⟨t1,t2,b1,b2⟩:=aha bf BS jK;have HF:=ab (Bv ou iu t1 t2 (by omega) (by omega) b1 b2);have dm:=ab a7;clear a7 bf ou iu vD sP BS jK t1 t2 b1 b2;go_wp2_with fail
  refine(uh HF).mono ?_;rintro e w2 ⟨rfl,aL⟩;have cg:=ab ((uh dm).trans (aL.mono (uh dm).size));clear aL HF;go_wp2_with fail
  go_ret2;exact⟨by rw[uh HE];rfl,uh cg⟩
structure QS(w0 w:World)(Y X:Nat)(s:ByteArray)(ws:List ByteArray)(G:List Nat):Prop where
 dk:Dsk w Y X s
 p:sA w X ws G
 y:Y ∉ G
 b:∀k∈G,w0.heap.size<=k
 bw:Below w0.heap.size w0 w
section
variable {w0 w w':World} {Y X:Nat} {s:ByteArray} {ws:List ByteArray} {G G':List Nat}
theorem QS.below(h:QS w0 w Y X s ws G)(hb:Below w.heap.size w w'):QS w0 w' Y X s ws G :=
 ⟨Bk.below h.dk hb,h.p.below hb,h.y,h.b,h.bw.trans (hb.mono h.bw.size)⟩
theorem QS.ask(h:QS w0 w Y X s ws G)(a:Ask w X ws G G' w'):QS w0 w' Y X s ws G':=by
 have Y2:Y<w.heap.size:=Bk.lt h.dk;have hX:=h.p.mem;refine⟨Bk.stp h.dk a.st (by simp only[mem_singleton];intro e;exact h.y (by rw[e];exact hX)),a.pg,λhk=>?_,λk hk=>?_,?_⟩
 .rcases a.gr Y hk with hk|hk
  .exact h.y hk
  .omega
 .rcases a.gr k hk with hk|hk
  .exact h.b k hk
  .have:=h.bw.size;omega
 .exact h.bw.trans (a.st.below h.bw.size (λk hk=>by rw[mem_singleton.1 hk];exact h.b X hX))
theorem P1 (KS:Dsk w Y X s) (hp:sA w X ws G) (hY:Y ∉ G) (cq:∀k∈G,w0.heap.size<=k) (hbw:Below w0.heap.size w0 w) (hA:AnW ws) (fU:(lu ws bY).nodes.length<=100000)
  (hS:(wQ ws).vd=0->∀z:Int,∀t∈rM (lu ws bY).vars (wQ ws) z,wZ t t=(true,0)\/wZ t t=(false,1)\/wZ t t=(false,4)) :
  Calls prog 19 #[.pointer (some ⟨Y,0,none⟩)] w λe w'=>e=.returned (.bool true)/\Below w0.heap.size w0 w':=by
 have c0:w.cell? ⟨Y,0,none⟩=some (.pointer (some ⟨X,0,none⟩)):=KS.cell 0 rfl;have HV:=ab (hp.verdict hA);have H:Hid (QS w0 w Y X s ws G):=ab ⟨KS,hp,hY,cq,hbw⟩;have HA:=ab hA;have HS:=ab hS;have C2:=ab (Z5 hA);clear KS hp hY cq hbw hA hS;go_enter func19,ntmps19;go_wp2_with fail
 refine(uh HV).mono ?_;rintro e w1 ⟨rfl,G1,ha⟩;have De:=(uh H).ask ha;have c1:w1.cell? ⟨Y,0,none⟩=some (.pointer (some ⟨X,0,none⟩)):=De.dk.cell 0 rfl;have C3:=ab De.p.nodes;have FB:=ab De;clear De ha HV H c0;obtain⟨vd,hvd⟩:∃vd,vd=(wQ ws).vd:=⟨_,rfl⟩;rw[<-hvd];rw[<-hvd]at HS;clear hvd;by_cases h0:vd=0
 .have qf:=ab (uh HS h0);subst h0;clear HS;have e1:(((0:Nat):Int) != 0)=false:=by simp
  go_wp2_with fail
  refine(uh C3).mono ?_;rintro e w2 ⟨rfl,n2,rfl⟩;have S5:=(uh FB).below (jL w1 n2);obtain⟨W2,ey⟩:∃W2,W2=w1.drewN n2:=⟨_,rfl⟩;rw[<-ey]at S5 ⊢;have QJ:=ab S5;clear S5 ey C3 FB c1 e1;obtain⟨N,hN⟩:∃N,N=(lu ws bY).nodes.length:=⟨_,rfl⟩;rw[<-hN]at fU ⊢;clear hN;go_wp2_with fail
  go_loopg [5] N (λgn iv wx=>∃(i:Nat),i+gn=N/\iv=.int .i64 i/\Hid (∃G,QS w0 wx Y X s ws G))
  case atStart=>exact⟨0,by omega,rfl,ab ⟨_,uh QJ⟩⟩
  case round =>
   clear QJ;obtain⟨i,oj,rfl,hI⟩:=hrel;obtain⟨H1,hH1⟩:∃H1,H1=gk:=⟨_,rfl⟩;obtain⟨Ga,S6⟩:=uh hI;by_cases aq:i<N
   .have hd:decide ((i:Int)<(N:Int))=true:=(by simp;omega);have c1:wr.cell? ⟨Y,0,none⟩=some (.pointer (some ⟨X,0,none⟩)):=S6.dk.cell 0 rfl;have HIV:=ab (S6.p.invariant (uh HA) (i:Int));have HDk:=ab S6;clear S6 hI;go_wp2_with fail
    refine(uh HIV).mono ?_;rintro e w3 ⟨v1,rfl,ou,-,Ga',ha⟩;have Df:=(uh HDk).ask ha;obtain⟨T,hT⟩:∃T,T=rM (lu ws bY).vars (wQ ws) (i:Int):=⟨_,rfl⟩;have pw:=uh C2 (i:Int);have hTS:=uh qf (i:Int);rw[<-hT]at pw ou hTS;have HTL:=ab pw.2;have RK:=ab hTS;have hTn:=pw.1;obtain⟨va,vc,WO,-,-⟩:=aj ou;subst WO;obtain⟨B1,nz⟩:∃B1,B1=wr.heap.size:=⟨_,rfl⟩;rw[<-nz]at ou;have bX:=ab (zq2 Df ou);clear nz Df ou ha HIV HDk pw hTS hT c1;go_wp2_with fail
    go_loopg [7] T.length (λgm jv wx=>∃(j:Nat),j+gm=T.length/\jv=.int .i64 j/\Hid (QS w0 wx Y X s ws Ga'/\wx.ownsRow B1 9 1 (.slice va T.length vc) T.length (iw T)))
    case atStart=>exact⟨0,by omega,rfl,bX⟩
    case round =>
     clear bX;obtain⟨j,xD,rfl,hJ⟩:=hrel;obtain⟨H2,hH2⟩:∃H2,H2=gk:=⟨_,rfl⟩;obtain⟨h1,h2⟩:=uh hJ;by_cases eu:j<T.length
     .have jb:decide ((j:Int)<(T.length:Int))=true:=(by simp;omega);obtain⟨g,cap,cM,-,-,k9⟩:=bM h2 (by omega);simp only[Value.slice.injEq,true_and]at cM;obtain⟨rfl,rfl⟩:=cM;have x0:=h2.cellAt j (by omega);rw[show(iw T)[j]?=some (.string ⟨T[j].toArray⟩) by unfold iw;rw[getElem?_map,getElem?_eq_getElem eu];rfl]at x0;obtain⟨t,ht⟩:∃t,t=T[j]:=⟨_,rfl⟩;have htl:t.length<=20000:=(by rw[ht];exact uh HTL _ (getElem_mem eu));have Ow:=uh RK t (by rw[ht];exact getElem_mem eu);have DA:Hid (∀W',Below wr.heap.size wr W'->Calls prog 39 #[.string ⟨t.toArray⟩,.string ⟨t.toArray⟩] W' λe w'=>e=.returned (.tuple #[.bool (wZ t t).1,.int .i64 (wZ t t).2])/\Below wr.heap.size wr w'):=ab (λW' rF=>by
       refine(Bn ⟨t.toArray⟩ ⟨t.toArray⟩ W' (by show t.toArray.size<=20000;simpa using htl) (by show t.toArray.size<=20000;simpa using htl)).mono ?_;rintro e w' ⟨he,hb⟩;exact⟨he,rF.trans (hb.mono rF.size)⟩)
      rw[<-ht]at x0;have k1:(0:Int)<=(j:Int):=(by omega);have k2:(j:Int)<(T.length:Int):=(by omega);have HH:=ab (zq2 h1 h2);obtain⟨z,hz⟩:∃z,z=wZ t t:=⟨_,rfl⟩;rw[<-hz]at DA;rw[<-hz]at Ow;clear h1 h2 ht htl hJ hz;go_wp2_with fail
      go_region_held3 (λW=>W.cell? ⟨g,j,none⟩=some (.string ⟨t.toArray⟩)) (first|(simp only[cell?_drew,x0];done)|(simp only[u0];done))
       (first
        |(go_at_call 39;refine(uh DA _ (Below.refl _ _).drew).mono ?_;rintro e w5 ⟨rfl,cD⟩;have u0:=(cD.cell k9).trans x0;have io:=ab cD;clear cD))
      all_goals
       have HN:Hid (QS w0 w5 Y X s ws Ga'/\w5.ownsRow B1 9 1 (.slice (some ⟨g,0,none⟩) T.length vc) T.length (iw T)):=ab ⟨(uh HH).1.below (uh io),dy (uh HH).2 (uh io)⟩;clear HH io DA u0 x0;rcases Ow with rfl|rfl|rfl
       .go_wp2_with fail
        go_roundg (H2-1)
        case rel=>exact⟨j+1,by omega,by go_num,HN⟩
        case measure=>omega
       .go_wp2_with fail
        go_roundg (H2-1)
        case rel=>exact⟨j+1,by omega,by go_num,HN⟩
        case measure=>omega
       .go_wp2_with fail
        go_roundg (H2-1)
        case rel=>exact⟨j+1,by omega,by go_num,HN⟩
        case measure=>omega
     .have jb:decide ((j:Int)<(T.length:Int))=false:=(by simp;omega);have HN:=ab h1;clear h1 h2 hJ;go_wp2_with fail
      go_roundg (H1-1)
      case rel=>exact⟨i+1,by omega,by go_num,ab ⟨_,uh HN⟩⟩
      case measure=>omega
   .have hd:decide ((i:Int)<(N:Int))=false:=(by simp;omega);have HN:=ab S6.bw;clear S6 hI;go_wp2_with fail
    go_ret;exact⟨rfl,uh HN⟩
 .have e1:((vd:Int) != 0)=true:=by simp;omega
  have HB:=ab (uh FB).bw;clear HS C3 FB h0 c1;go_wp2_with fail
  go_ret;exact⟨rfl,uh HB⟩
end
open Go.ChangeShapes Go.WideShapes Go.ChangeAt Go.RowKit Go.ChangeMaps
set_option linter.unusedVariables false
theorem own:ownKnob prog.godebug=none:=by kernel_rfl
theorem walk(s:ByteArray)(w:World):Calls prog 7 #[.string s] w λe w'=>e=.returned (.bool true)/\Below w.heap.size w w':=by
 have HD:=ab (Mr s w);go_enter func7,ntmps7;go_wp2_with fail
 refine(uh HD).mono ?_;rintro e w1 ⟨hb,⟨-,rfl⟩|⟨hs,hE,Y,X,G,rfl,h1,h2,h3,h4,h5⟩⟩
 .have HB:=ab hb;clear hb HD;go_wp2_with fail
  go_ret;exact⟨rfl,uh HB⟩
 .have hA:=ky hE;have HAG:=ab (P1 (w0:=w) h1 h4 h3 h5 hb hA hA.l (λhv=>Kr hE hv));clear hb HD h1 h2 h3 h4 h5 hA hE;go_wp2_with fail
  refine(uh HAG).mono ?_;rintro e w2 ⟨rfl,aL⟩;have HB:=ab aL;clear aL HAG;go_wp2_with fail
  go_ret;exact⟨rfl,uh HB⟩
theorem lifted(os:Go.Os)(started:os.Started)(H:Type)(enc:TypeId × Value->H):
  ReturnsInHanded {} Tryz.checked os 7 .any (Rows.itselfSpec.pre6 enc prog Tryz.f7 Rows.itselfRow.domain false) (Rows.itselfSpec.post enc prog Tryz.f7 false true false false):=by
 refine returnsInHanded_of_change (C:=Tryz.checked) own started (by kernel_rfl) func7
  (ChangeSpec.witness6 (enc:=enc) (C:=Tryz.checked) false ⟨#[],#[.string ⟨#[]⟩],[]⟩ 8 (by kernel_rfl) (by kernel_rfl) (by kernel_rfl) (by kernel_rfl)) ?_
 intro W base args ds gs before agy hW aqR _;have agx:∀(j:Nat) t v,Tryz.f7.params[j]?=some t->args[j]?=some v->Value.okWide prog W .any base t v:=agy;have hW':=hW;obtain⟨p,q,Au,hV,rfl,hfz,c9⟩:=hW;have hA:DataW.TrodAll enc prog W 0 (λ_=>true) true Tryz.f7.params.toList args.toList ds p:=Au;rw[Tryz.params7]at hA agx;obtain⟨v0,vs0,d0,ds0,p0,q0,aom,rfl,rfl,h0,r0⟩:=trodAll_cons hA;obtain⟨rfl,rfl,rfl⟩:=trodAll_nil r0;obtain rfl:args=#[v0]:=by cases args;simp_all
 obtain⟨rfl,rfl⟩:=trodVars_none hV;obtain⟨s,rfl,rfl,rfl,hs⟩:=open_string underlying9 (agx 0 9 v0 rfl rfl) h0;clear Au;simp only[append_nil]at hW';refine(walk s W).mono λe W' ⟨he,hb⟩=>?_;subst he;exact⟨_,rfl,_,_,_,[],[],[],hW',trodAll_cons_mk (shut_bool underlying4 _) trodAll_mk0,trodAll_cons_mk (shut_string underlying9 hs) trodAll_mk0,rfl,hb.frame _,λh=>by cases h⟩
theorem over:Rows.itselfRow.holds Tryz.pinned (OpenSpec.ofChange Rows.itselfSpec) :=
 OpenClaim.holds_of_wide 7 Tryz.f7 rfl rfl rfl rfl rfl rfl rfl ⟨rfl,rfl,rfl,rfl,rfl⟩ rfl rfl rfl rfl rfl (by kernel_rfl) func7 (by kernel_rfl)
  (of_decide_eq_true (by kernel_rfl)) (by unfold Func.isWrapper;first|(rw[if_pos (by decide +kernel)];kernel_rfl)|(rw[if_neg (by decide +kernel)];exact⟨rfl,rfl⟩))
  (λos started H enc _=>lifted os started H enc)
theorem itself_proved:Rows.ItselfSaid:=over
#print axioms itself_proved
