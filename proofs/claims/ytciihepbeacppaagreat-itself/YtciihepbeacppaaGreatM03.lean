import Derived.Test.YtciihepbeacppaaGreatM02
set_option maxRecDepth 100000
set_option maxHeartbeats 0
namespace Go.Proofs.YtciihepbeacppaaGreat
open Tryz Go.RowKit
set_option linter.unusedVariables false
section
variable {B:Nat} {WV:Value} {w:World} {P:Nat} {ws:List ByteArray} {s:PS} {F:List Nat} {wv vv hv:Value} {g cap:Nat}
theorem DT{blk:PS->PS}{f:Nat}(cd:Fz B WV P ws blk f)(gd:Lc blk)(hb:cL ws G6 s=true)(dW:ws.length<f+1+s.pos)(sk:s.nodes.length+2*ws.length<=60000+2*s.pos)(h:dP B WV w P ws s F):
  Calls prog 186 #[.pointer (some ⟨P,0,none⟩)] w λe w'=>e=.returned (.tuple #[])/\∃F',dP B WV w' P ws (F8 blk ws s) F'/\ar F w F' w':=by
 have HQ:=ab h;have hp0:=h.f.2.1;clear h;have HE:Hid (bp ws G6 s=s.adv):=ab (if_pos hb);have KY:s.adv.pos=s.pos+1:=rfl;have hna:s.adv.nodes.length=s.nodes.length:=rfl;have hts:=tj (ws:=ws) (s:=s.adv);have WM:=mQ (ws:=ws) (s:=s.adv);have h1:=gd.pos (jx ws s.adv);have h2:=gd.nodes (jx ws s.adv);have h3:=gd.phi (jx ws s.adv);have Ae:Hid (fP blk ws s=blk (jx ws s.adv)):=ab (by unfold fP;rw[uh HE]);have Lf:=ab cd;have HGD:=ab gd;clear cd hb gd;obtain⟨z,hz⟩:∃z,z=blk (jx ws s.adv):=⟨_,rfl⟩;rw[<-hz]at h1 h2 h3 Ae;have HZ:=ab hz;clear hz;cases he:cL ws xL z with
 |false =>
  have tz:Hid (kx ws xL z=z):=ab (if_neg (by simp[he]));have HS:Hid (F8 blk ws s={ z with nodes:=eG s.nodes.length z.nodes.length z.nodes }):=ab (by unfold F8;rw[uh Ae,he];rfl);have cg:=ab he;clear he;go_enter func186,ntmps186;go_wp2_with fail
  refine(aV G6 (by decide) (uh HQ)).mono ?_;rintro e w1 ⟨rfl,df,bq⟩;rw[uh HE]at df;have dD:=ab df;have bT:=ab bq;clear df bq;go_wp2_with fail
  refine(vb (s:=s.adv) (by omega) (uh dD)).mono ?_;rintro e w2 ⟨rfl,F2,bP,bE⟩;have dc:=ab bP;have cH:=ab ((uh bT).trans bE);clear bP bE;go_wp2_with fail
  refine(uh Lf _ _ _ (uh dc) (λ_=>by omega) (by omega)).mono ?_;rintro e w3 ⟨rfl,F3,ec,bZ⟩;have gU:=ab ec;have fV:=ab ((uh cH).trans bZ);clear ec bZ;rw[<-uh HZ]at gU;have hp3:=(uh gU).f.2.1;have vN:=aA xL (by decide) (uh gU);rw[uh cg,uh tz]at vN;replace vN:=ab vN
  go_wp2_with fail
  refine(uh vN).mono ?_;rintro e w4 ⟨rfl,kZ,er⟩;have mU:=ab kZ;have kt:=ab ((uh fV).trans er);clear kZ er;obtain⟨wv,vv,hv,g,cap,cW⟩:=(uh mU).nodesAt (by omega);obtain⟨_,_,_,_,c5,_⟩:=cW.readsV;obtain⟨⟨v4,yZ,AB⟩,f4⟩:=cW.nodeCell (s.nodes.length*6+5) (by omega);obtain⟨x4,rfl⟩:=iS AB;have vP:=ab cW;clear cW AB;have Ws:=xg z;go_wp2_with fail
  go_region
  go_wp2_with fail
  refine bodyPost_ret (results_none rfl _ _ _) rfl ?_;have JX:=(uh vP).setNode (s.nodes.length*6+5) (.int .i64 (z.nodes.length:Int)) (eG s.nodes.length z.nodes.length z.nodes) (uB _ _ _) (dC _ _ _);exact⟨rfl,F3,⟨by rw[uh HS];exact JX.is.drew,by rw[uh HS];exact(uh mU).f⟩,((uh kt).setCell (p:=⟨g,s.nodes.length*6+5,none⟩) ((uh vP).inF (uh kt)) _).drew⟩
 |true =>
  have tz:Hid (kx ws xL z=z.adv):=ab (if_pos he);have HS:Hid (F8 blk ws s=R5 z.nodes.length (blk (sE s.nodes.length z))):=ab (by unfold F8;rw[uh Ae,he];rfl);have hfz:fb z=0:=xh (xQ (ws:=ws) (s:=z) (by rw[ii he];decide)).1;have cg:=ab he;clear he;have hza:z.adv.pos=z.pos+1:=rfl;have hzl:z.adv.nodes.length=z.nodes.length:=rfl;have hbp:(sE s.nodes.length z).pos=z.pos+1:=rfl;have bS:(sE s.nodes.length z).nodes.length=z.nodes.length+1:=by simp[sE,dC,dR,PS.adv]
  have k2:=(uh HGD).nodes (sE s.nodes.length z);have k3:=(uh HGD).phi (sE s.nodes.length z);have k4:=xg (blk (sE s.nodes.length z));go_enter func186,ntmps186;go_wp2_with fail
  refine(aV G6 (by decide) (uh HQ)).mono ?_;rintro e w1 ⟨rfl,df,bq⟩;rw[uh HE]at df;have dD:=ab df;have bT:=ab bq;clear df bq;go_wp2_with fail
  refine(vb (s:=s.adv) (by omega) (uh dD)).mono ?_;rintro e w2 ⟨rfl,F2,bP,bE⟩;have dc:=ab bP;have cH:=ab ((uh bT).trans bE);clear bP bE;go_wp2_with fail
  refine(uh Lf _ _ _ (uh dc) (λ_=>by omega) (by omega)).mono ?_;rintro e w3 ⟨rfl,F3,ec,bZ⟩;have gU:=ab ec;have fV:=ab ((uh cH).trans bZ);clear ec bZ;rw[<-uh HZ]at gU;have hp3:=(uh gU).f.2.1;have vN:=aA xL (by decide) (uh gU);rw[uh cg,uh tz]at vN;replace vN:=ab vN
  go_wp2_with fail
  refine(uh vN).mono ?_;rintro e w4 ⟨rfl,kZ,er⟩;have mU:=ab kZ;have kt:=ab ((uh fV).trans er);clear kZ er;go_wp2_with fail
  refine(FP (uh mU) (by omega)).mono ?_;rintro e w5 ⟨rfl,F5,qO,eT⟩;have FF:=ab qO;have rT:=ab ((uh kt).trans eT);clear qO eT;have TP:(dR l7 z.adv).nodes.length=z.nodes.length+1:=by simp[dR,PS.adv]
  obtain⟨wv,vv,hv,g,cap,cW⟩:=(uh FF).nodesAt (by omega);obtain⟨_,_,_,_,c5,_⟩:=cW.readsV;obtain⟨⟨v4,yZ,AB⟩,f4⟩:=cW.nodeCell (s.nodes.length*6+5) (by omega);obtain⟨x4,rfl⟩:=iS AB;rw[TP]at c5;have vP:=ab cW;clear cW AB;go_wp2_with fail
  go_region
  go_wp2_with fail
  have JX:=(uh vP).setNode (s.nodes.length*6+5) (.int .i64 ((z.nodes.length:Int)+1)) (eG s.nodes.length (dR l7 z.adv).nodes.length (dR l7 z.adv).nodes) (by rw[uB,TP];rfl) (dC _ _ _);have HQ6:Hid (dP B WV ((w5.setCell ⟨g,s.nodes.length*6+5,none⟩ (.int .i64 ((z.nodes.length:Int)+1))).drew) P ws (sE s.nodes.length z) F5):=ab ⟨JX.is.drew,(uh FF).f⟩;have RH:Hid (ar F w F5 ((w5.setCell ⟨g,s.nodes.length*6+5,none⟩ (.int .i64 ((z.nodes.length:Int)+1))).drew)):=ab ((uh rT).setCell (p:=⟨g,s.nodes.length*6+5,none⟩) ((uh vP).inF (uh rT)) _).drew;clear JX c5 yZ f4;generalize (w5.setCell ⟨g,s.nodes.length*6+5,none⟩ (.int .i64 ((z.nodes.length:Int)+1))).drew=w6 at HQ6 RH ⊢;refine(uh Lf _ _ _ (uh HQ6) (λ_=>by omega) (by omega)).mono ?_;rintro e w7 ⟨rfl,F7,hI7,Dh⟩;have HI7:=ab hI7;have VG:=ab ((uh RH).trans Dh);have hp7:=hI7.f.2.1;clear hI7 Dh;obtain⟨y,hy⟩:∃y,y=blk (sE s.nodes.length z):=⟨_,rfl⟩;rw[<-hy]at HI7 k2 k3 k4 hp7 HS;clear hy;obtain⟨wv,vv,hv,g2,cap2,cW⟩:=(uh HI7).nodesAt (by omega);obtain⟨_,_,_,_,c5,_⟩:=cW.readsV;obtain⟨⟨v4,yZ,AB⟩,f4⟩:=cW.nodeCell (z.nodes.length*6+4) (by omega);obtain⟨x4,rfl⟩:=iS AB;have adu:=ab cW;clear cW AB;go_wp2_with fail
  go_region
  go_end0
  have alj:=(uh adu).setNode (z.nodes.length*6+4) (.int .i64 (y.nodes.length:Int)) (ic z.nodes.length y.nodes.length y.nodes) (Ct _ _ _) (eh _ _ _);exact⟨rfl,F7,⟨by rw[uh HS];exact alj.is.drew,by rw[uh HS];exact(uh HI7).f⟩,((uh VG).setCell (p:=⟨g2,z.nodes.length*6+4,none⟩) ((uh adu).inF (uh VG)) _).drew⟩
theorem Bd{blk:PS->PS}{f:Nat}(cd:Fz B WV P ws blk f)(gd:Lc blk)(dW:ws.length<f+1+s.pos)(sk:s.nodes.length+2*ws.length<=60000+2*s.pos)(h:dP B WV w P ws s F):
  Calls prog 161 #[.pointer (some ⟨P,0,none⟩)] w λe w'=>e=.returned (.tuple #[])/\∃F',dP B WV w' P ws (tM blk ws s) F'/\ar F w F' w':=by
 have HQ:=ab h;have hp0:=h.f.2.1;have HK:=ab (jZ h);clear h;cases hb:cL ws G6 s with
 |true =>
  have HS:Hid (tM blk ws s=F8 blk ws s):=ab (if_pos hb);have rF:((pk ws s).toList==G6.toList)=true:=hb;have CY:=λn=>ab (DT (w:=w.drewN n) cd gd hb dW sk ⟨(uh HQ).m.drewN n,(uh HQ).f⟩);rw[show G6.toList=[105,102] from (ByteArray.toList_eq _)]at rF;clear hb cd gd;go_enter func161,ntmps161;go_wp2_with (first|(go_at_call 160;refine(uh HK).mono ?_;rintro e w' ⟨rfl,n,rfl⟩)|(go_at_call 186;refine(uh (CY n)).mono ?_;rintro e w2 ⟨rfl,F2,bP,bE⟩))
  go_end0
  exact⟨rfl,F2,by rw[uh HS];exact bP,((ar.refl F w).drewN n).trans bE⟩
 |false =>
  have rF:((pk ws s).toList==G6.toList)=false:=hb;rw[show G6.toList=[105,102] from (ByteArray.toList_eq _)]at rF;cases aL:cL ws gp s with
  |true =>
   have HS:Hid (tM blk ws s=Cl blk ws s):=ab (by unfold tM;rw[hb,aL];rfl);have Y8:((pk ws s).toList==gp.toList)=true:=aL;have CY:=λn=>ab (OT (w:=w.drewN n) cd gd aL dW sk ⟨(uh HQ).m.drewN n,(uh HQ).f⟩);rw[show gp.toList=[119,104,105,108,101] from (ByteArray.toList_eq _)]at Y8;clear hb aL cd gd;go_enter func161,ntmps161;go_wp2_with (first|(go_at_call 160;refine(uh HK).mono ?_;rintro e w' ⟨rfl,n,rfl⟩)|(go_at_call 187;refine(uh (CY n)).mono ?_;rintro e w2 ⟨rfl,F2,bP,bE⟩))
   go_end0
   exact⟨rfl,F2,by rw[uh HS];exact bP,((ar.refl F w).drewN n).trans bE⟩
  |false =>
   have HS:Hid (tM blk ws s=Iw ws s):=ab (by unfold tM;rw[hb,aL];rfl);have Y8:((pk ws s).toList==gp.toList)=false:=aL;rw[show gp.toList=[119,104,105,108,101] from (ByteArray.toList_eq _)]at Y8;clear hb aL cd gd;go_enter func161,ntmps161;go_wp2_with (go_at_call 160;refine(uh HK).mono ?_;rintro e w' ⟨rfl,n,rfl⟩)
   refine(Fe (w:=w.drewN n) ⟨(uh HQ).m.drewN n,(uh HQ).f⟩).mono ?_;rintro e w1 ⟨rfl,F1,df,bq⟩;have dD:=ab df;have bT:=ab (((ar.refl F w).drewN n).trans bq);clear df bq;obtain⟨A0,Au⟩:∃A0,A0=oK ws s:=⟨_,rfl⟩;have HA0:=ab Au;rw[<-Au];clear Au;obtain⟨n0,n1,n2,n3,n4,n5⟩:=A0;simp only[Nd.cells];go_wp2_with fail
   refine(aV l9 (by decide) ((uh dD).alloc _)).mono ?_;rintro e w2 ⟨rfl,bP,bE⟩;obtain⟨aL,qQ,sP⟩:=bF (uh dD).m bE;obtain⟨⟨q0,q1,q2,q3,q4,q5⟩,_⟩:=fG aL;have El:=sB ⟨n0,n1,n2,n3,n4,n5⟩ bP (by rw[a8,x8];omega);simp only[Nd.cells]at El;have Xn:=ab El;have cH:=ab ((uh bT).trans (((ar.refl F1 w1).alloc _).trans bE));clear El bP bE aL;go_wp2_with fail
   refine(uh Xn).mono ?_;rintro e w3 ⟨rfl,F3,ec,bZ⟩;have gU:=ab ec;have fV:=ab ((uh cH).trans bZ);clear ec bZ;go_wp2_with fail
   go_end0
   refine⟨rfl,F3,?_,uh fV⟩;rw[uh HS];unfold Iw;rw[<-uh HA0];exact uh gU
end
theorem tN{ws:List ByteArray}{c:PS->PS}(n:Nat){s:PS}(h:(s.failed||cL ws Dq s)=true):mX c ws n s=s:=by
 cases n with
 |zero=>rfl
 |succ n=>simp only[mX];rw[if_pos h]
theorem Ye{ws:List ByteArray}{c:PS->PS}(n:Nat){s:PS}(h:(s.failed||cL ws Dq s)=false):mX c ws (n+1) s=mX c ws n (c s):=by
 simp only[mX];rw[if_neg (by simp[h])]
theorem tS{ws:List ByteArray}{k:ByteArray}{s:PS}(hk:k.size≠0)(h:s.failed=true):bp ws k s=s:=by
 unfold bp;rw[tI k hk h];obtain⟨a,b,c,d,e⟩:=s;simp only at h;subst h;rfl
section
variable {B:Nat} {WV:Value} {w:World} {P:Nat} {ws:List ByteArray} {s:PS} {F:List Nat} {wv vv hv:Value} {g cap:Nat}
theorem tL {c:PS->PS} {n:Nat}
  (ae9:∀(w:World) (st:PS) (F:List Nat),dP B WV w P ws st F->st.failed=false->ws.length<n+st.pos->st.nodes.length+2*ws.length<=60000+2*st.pos ->
   Calls prog 161 #[.pointer (some ⟨P,0,none⟩)] w λe w'=>e=.returned (.tuple #[])/\∃F',dP B WV w' P ws (c st) F'/\ar F w F' w')
  (hc:∀s,s.pos<=(c s).pos/\((c s).failed=false->s.pos<(c s).pos)/\(c s).nodes.length+2*s.pos<=s.nodes.length+2*(c s).pos+fb (c s))
  (dW:s.failed=false->ws.length<n+s.pos) (sk:s.nodes.length+2*ws.length<=60000+2*s.pos) (h:dP B WV w P ws s F) :
  Calls prog 122 #[.pointer (some ⟨P,0,none⟩)] w λe w'=>e=.returned (.tuple #[])/\∃F',dP B WV w' P ws (bp ws Dq (mX c ws (ws.length+2) (bp ws AI s))) F'/\ar F w F' w':=by
 have HQ:=ab h;clear h;have aiW:=ab ae9;have HC:=ab hc;have HFU:=ab dW;clear ae9 hc dW;have e1:=ca (ws:=ws) (s:=s) AI;have e2:(bp ws AI s).nodes.length=s.nodes.length:=by rw[a8]
 have HE3:Hid ((bp ws AI s).failed=false->ws.length<n+(bp ws AI s).pos):=ab (λh=>by have:=uh HFU (cV _ h).2.1;omega);go_enter func122,ntmps122;go_wp2_with fail
 refine(aV AI (by decide) (uh HQ)).mono ?_;rintro e w1 ⟨rfl,df,bq⟩;have dD:=ab df;have bT:=ab bq;clear df bq;go_wp2_with fail
 go_loopg [4] (ws.length+2) (λm _ wr=>∃(st:PS) (F2:List Nat),dP B WV wr P ws st F2/\ar F w F2 wr/\(bp ws AI s).pos<=st.pos /\
  Hid (mX c ws (ws.length+2) (bp ws AI s)=mX c ws m st)/\Hid (st.failed=false->ws.length<n+st.pos/\ws.length<m+st.pos/\st.nodes.length+2*ws.length<=60000+2*st.pos))
 case atStart =>
  exact⟨bp ws AI s,F,uh dD,uh bT,zq4 _,rfl,λh=>⟨uh HE3 h,by omega,by omega⟩⟩
 case round =>
  obtain⟨st,F2,hI,hS,ZO,k8,bf⟩:=hrel;have HI:=ab hI;have HS:=ab hS;obtain⟨c1,c2,_,_⟩:=hI.m.reads;have HK:=ab (jZ hI);clear hI hS c1;cases hf:st.failed with
  |true =>
   rw[hf]at c2;have HEQ:Hid (mX c ws (ws.length+2) (bp ws AI s)=st):=ab (by rw[uh k8];exact tN _ (by simp[hf]));clear hf k8 bf;go_wp2_with fail
   refine(aV Dq (by decide) (uh HI)).mono ?_;rintro e w2 ⟨rfl,bP,bE⟩;have dc:=ab bP;have cH:=ab ((uh HS).trans bE);clear bP bE;go_wp2_with fail
   go_end0
   exact⟨rfl,F2,by rw[uh HEQ];exact uh dc,uh cH⟩
  |false =>
   rw[hf]at c2;cases hb:cL ws Dq st with
   |true =>
    have rF:((pk ws st).toList==Dq.toList)=true:=hb;rw[show Dq.toList=[125] from (ByteArray.toList_eq _)]at rF;have HEQ:Hid (mX c ws (ws.length+2) (bp ws AI s)=st):=ab (by rw[uh k8];exact tN _ (by simp[hb]));clear hf hb k8 bf;go_wp2_with (go_at_call 160;refine(uh HK).mono ?_;rintro e w' ⟨rfl,nn,rfl⟩)
    refine(aV Dq (by decide) (w:=wr.drewN nn) ⟨(uh HI).m.drewN nn,(uh HI).f⟩).mono ?_;rintro e w2 ⟨rfl,bP,bE⟩;have dc:=ab bP;have cH:=ab (((uh HS).drewN nn).trans bE);clear bP bE;go_wp2_with fail
    go_end0
    exact⟨rfl,F2,by rw[uh HEQ];exact uh dc,uh cH⟩
   |false =>
    have rF:((pk ws st).toList==Dq.toList)=false:=hb;rw[show Dq.toList=[125] from (ByteArray.toList_eq _)]at rF;obtain⟨o1,o2,o3⟩:=uh bf hf;have hps:=(uh HI).f.2.1;obtain⟨m,rfl⟩:∃m,gk=m+1:=⟨gk-1,by omega⟩;have HEQ:Hid (mX c ws (ws.length+2) (bp ws AI s)=mX c ws m (c st)):=ab (by rw[uh k8];exact Ye _ (by simp[hb,hf]));have HF:=ab hf;clear hf hb k8 bf;go_wp2_with (go_at_call 160;refine(uh HK).mono ?_;rintro e w' ⟨rfl,nn,rfl⟩)
    refine(uh aiW (wr.drewN nn) st F2 ⟨(uh HI).m.drewN nn,(uh HI).f⟩ (uh HF) o1 o3).mono ?_;rintro e w2 ⟨rfl,F3,bP,bE⟩;have dc:=ab bP;have cH:=ab (((uh HS).drewN nn).trans bE);clear bP bE;go_wp2_with fail
    obtain⟨d1,d2,d3⟩:=uh HC st;go_roundg m
    case measure=>omega
    case rel =>
     refine⟨c st,F3,uh dc,uh cH,by omega,uh HEQ,λhcf=>?_⟩;have:=d2 hcf;rw[xh hcf]at d3;exact⟨by omega,by omega,by omega⟩
theorem L1(f:Nat):Fz B WV P ws (DS ws f) f:=by
 induction f with
 |zero =>
  intro w s F h dW sk;have hps:=h.f.2.1;have hf:s.failed=true:=by
   cases hf:s.failed with
   |true=>rfl
   |false=>have:=dW hf;omega
  have hw:=tL (c:=PS.adv) (n:=0) (B:=B) (P:=P) (ws:=ws) (s:=s) (F:=F) (w:=w) (λ_ st _ hi _ aq _=>by have:=hi.f.2.1;omega) (λs=>⟨cQ,λ_=>Nat.lt_succ_self _,by show s.nodes.length+2*s.pos<=s.nodes.length+2*(s.pos+1)+_;omega⟩) dW sk h;rw[tS (by decide) hf,tN _ (by simp[hf]),tS (by decide) hf]at hw;exact hw
 |succ f ih =>
  intro w s F h dW sk;exact tL (n:=f+1) (λw st F hi _ aq hph=>Bd ih (iB f) aq hph hi) (λs=>⟨(iD (iB f)).1,λh=>((iD (iB f)).2.2.1 h).2,(iD (iB f)).2.2.2⟩) dW sk h
end
def m8:ByteArray:=⟨#[112,114,101]⟩
def lr:Nd:=⟨0,0,0,0,0,0⟩
def pj(ws:List ByteArray)(s:PS):PS:=if s.pos=ws.length then s else s.fail
def Pz(ws:List ByteArray)(s:PS):PS:=dR lr (DS ws (ws.length+1) (po ws (bp ws m8 s)))
def lu(ws:List ByteArray)(s:PS):PS:=if (Pz ws s).pos=ws.length then Pz ws s else (Pz ws s).fail
def fZ(ws:List ByteArray)(s:PS):List bC:=Bu ws (bp ws m8 s)
section
variable {B:Nat} {WV:Value} {w:World} {P:Nat} {ws:List ByteArray} {s:PS} {F:List Nat} {wv vv hv nv:Value} {g cap:Nat}
theorem J9:(zq ws s).nodes=s.nodes:=by unfold zq oF pJ;rw[a8,mP,a8,mP,a8]
theorem E7:(eg ws s).nodes=s.nodes:=by unfold eg;split;rfl;split;rfl;exact a8 _
theorem wT:(dH ws s).nodes=s.nodes:=by
 unfold dH;split;rfl;split
 .rw[J9];rfl
 .rw[mP,E7,mP]
theorem Jr(n:Nat):∀s,(fW ws n s).2.nodes=s.nodes:=by
 induction n with
 |zero=>intro s;rfl
 |succ n ih =>
  intro s;simp only[fW];split
  .show(fW ws n (dH ws s.adv)).2.nodes=s.nodes;rw[ih,wT];rfl
  .rfl
theorem xp:(po ws s).nodes=s.nodes:=by unfold po;rw[Jr,wT]
theorem RP(h:dP B WV w P ws s F)(hn:s.nodes.length<=100000):
  Calls prog 123 #[.pointer (some ⟨P,0,none⟩),.agg #[.int .i64 0,.int .i64 0,.int .i64 0,.int .i64 0,.int .i64 0,.int .i64 0]] w λe w'=>e=.returned (.int .i64 s.nodes.length)/\∃F',dP B WV w' P ws (dR lr s) F'/\ar F w F' w' :=
 sB lr h hn
theorem dd.read0(h:dd B WV w P ws s F wv vv hv nv):w.cell? ⟨P,0,none⟩=some wv/\∃ao cap,wv=.slice ao ws.length cap :=
 ⟨(iC h.1).1.1,aC h.2.2.1⟩
theorem eM{w:World}{B B':Nat}{e:TypeId}{sz n:Nat}{v:Value}{xs:List Value}(h:w.ownsRow B e sz v n xs)(hB:B'<=B):w.ownsRow B' e sz v n xs:=by
 refine⟨h.1,?_⟩;rcases h.2 with hn|⟨g,cap,cur,rfl,hb,rest⟩
 .exact .inl hn
 .exact .inr ⟨g,cap,cur,rfl,by omega,rest⟩
theorem tU(h:dP B WV w P ws s F):
  Calls prog 124 #[.pointer (some ⟨P,0,none⟩)] w λe w'=>e=.returned (.tuple #[])/\dP B WV w' P ws (pj ws s) F/\ar F w F w':=by
 have HI:=ab h;have hp:=h.f.2.1;have hl:=h.f.1;obtain⟨wv,vv,hv,nv,cW⟩:=h.m.named;obtain⟨c0,ao,cap,rfl⟩:=cW.read0;obtain⟨c1,_,_,_,_,fz⟩:=cW.readsV;have f2:=fz 2;have c2:=h.m.reads.2.1;clear cW fz h;by_cases wh:s.pos=ws.length
 .have HS:Hid (pj ws s=s):=ab (if_pos wh);have hd:((s.pos:Int) != (ws.length:Int))=false:=by simp[wh]
  clear wh;go_enter func124,ntmps124;go_wp2_with fail
  go_quiet (fail)
  go_wp2_with fail
  go_end0
  exact⟨rfl,by rw[uh HS];exact⟨(uh HI).m.drewN _,(uh HI).f⟩,(ar.refl F w).drewN _⟩
 .have HS:Hid (pj ws s=s.fail):=ab (if_neg wh);have hd:((s.pos:Int) != (ws.length:Int))=true:=by rw[bne_iff_ne];omega
  clear wh;go_enter func124,ntmps124;go_wp2_with fail
  go_quiet (fail)
  go_wp2_with fail
  go_end0
  exact⟨rfl,by rw[uh HS];exact⟨((uh HI).m.drewN _).setFailed true,(uh HI).f⟩,((ar.refl F w).drewN _).setCell (zq0 (uh HI).m.memP) _⟩
theorem CD(h:dP B WV w P ws s F)(oq:s.nodes=[]):
  Calls prog 69 #[.pointer (some ⟨P,0,none⟩)] w λe w'=>∃v F',e=.returned v/\dP B WV w' P ws (lu ws s) F'/\ar F w F' w' /\
   w'.ownsRow w.heap.size 239 5 v (fZ ws s).length (aW (fZ ws s))/\(∀k,v.ownBlock=some k->k ∉ F'):=by
 have HQ:=ab h;have hl:=h.f.1;clear h;have fU:(po ws (bp ws m8 s)).nodes.length=0:=by rw[xp,a8,oq];rfl
 have k2:=(iB (ws:=ws) (ws.length+1)).nodes (po ws (bp ws m8 s));have k3:=(iB (ws:=ws) (ws.length+1)).phi (po ws (bp ws m8 s));have k4:=xg (DS ws (ws.length+1) (po ws (bp ws m8 s)));clear oq;go_enter func69,ntmps69;go_wp2_with fail
 refine(aV m8 (by decide) (uh HQ)).mono ?_;rintro e w1 ⟨rfl,df,bq⟩;have dD:=ab df;have bT:=ab bq;clear df bq;go_wp2_with fail
 refine(rD (uh dD)).mono ?_;rintro e w2 ⟨v,F2,rfl,bP,bE,aT,pC⟩;have dc:=ab bP;have cH:=ab ((uh bT).trans bE);have HW2:=ab aT;have HU2:=ab pC;have ep:=(uh bT).size;clear bP bE aT pC;go_wp2_with fail
 refine(L1 (ws.length+1) w2 _ F2 (uh dc) (λ_=>by omega) (by omega)).mono ?_;rintro e w3 ⟨rfl,F3,ec,bZ⟩;have hp3:=ec.f.2.1;have HW3:=ab (tb (uh HW2) bZ (uh HU2));have HU3:Hid (∀k,v.ownBlock=some k->k ∉ F3):=ab (λk hk hm=>by
  rcases bZ.foot k hm with h|h
  .exact uh HU2 k hk h
  .have:=((uh HW2).lt k hk).2;omega)
 have gU:=ab ec;have fV:=ab ((uh cH).trans bZ);clear ec bZ;go_wp2_with fail
 refine(RP (uh gU) (by omega)).mono ?_;rintro e w4 ⟨rfl,F4,kZ,er⟩;have HW4:=ab (tb (uh HW3) er (uh HU3));have HU4:Hid (∀k,v.ownBlock=some k->k ∉ F4):=ab (λk hk hm=>by
  rcases er.foot k hm with h|h
  .exact uh HU3 k hk h
  .have:=((uh HW3).lt k hk).2;omega)
 have mU:Hid (dP B WV w4 P ws (Pz ws s) F4):=ab kZ;have kt:=ab ((uh fV).trans er);clear kZ er;go_wp2_with fail
 refine(tU (uh mU)).mono ?_;rintro e w5 ⟨rfl,qO,eT⟩;have HW5:=ab (tb (uh HW4) eT (uh HU4));have FF:Hid (dP B WV w5 P ws (lu ws s) F4):=ab qO;have rT:=ab ((uh kt).trans eT);clear qO eT;go_wp2_with fail
 go_ret;exact⟨v,F4,rfl,uh FF,uh rT,eM (uh HW5) ep,uh HU4⟩
end
