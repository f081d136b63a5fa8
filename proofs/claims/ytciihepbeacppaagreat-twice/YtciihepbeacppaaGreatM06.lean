import Derived.Test.YtciihepbeacppaaGreatM05
set_option maxRecDepth 100000
set_option maxHeartbeats 0
namespace Go.Proofs.YtciihepbeacppaaGreat
open Tryz Go.RowKit List World Below
set_option linter.unusedVariables false
section
variable {w:World} {y:pS} {T V:CF} {s:SS}
theorem aD{w:World}{v:Value}{l:List Pr}(h:w.ownsRow 0 182 3 v l.length (af l)){i:Nat}(hi:i<l.length):∃g cap,v=.slice (some ⟨g,0,none⟩) l.length cap/\cap<=9223372036854775807/\l.length<=cap:=by
 obtain⟨ao,cap,hv,hm,hn,hc⟩:=dp h;obtain⟨g,qL,_⟩:=hc (by intro e;rw[e]at hi;simp at hi);exact⟨g,cap,by rw[hv,qL],by unfold maxLen at hm;omega,hn⟩
theorem aA{w:World}{l:List Pr}{g cap:Nat}(h:w.ownsRow 0 182 3 (.slice (some ⟨g,0,none⟩) l.length cap) l.length (af l)){i:Nat}(hi:i<l.length):
  w.cell? ⟨g,i*3,none⟩=some (.int .i64 (l.getD i aE).k)/\w.cell? ⟨g,i*3+1,none⟩=some (.int .i64 (l.getD i aE).l)/\w.cell? ⟨g,i*3+2,none⟩=some (.int .i64 (l.getD i aE).r):=by
 rw[iW hi];have hg:=Nq hi;exact⟨(h.cellAt _ (by omega)).trans hg.1,(h.cellAt _ (by omega)).trans hg.2.1,(h.cellAt _ (by omega)).trans hg.2.2⟩
theorem Sw.vcell(h:Sw w y T V s){g cap:Nat}(hv:y.vov=.slice (some ⟨g,0,none⟩) V.ow.length cap){i:Nat}(hi:i<V.ow.length):
  w.cell? ⟨y.v,6,none⟩=some (.slice (some ⟨g,0,none⟩) V.ow.length cap)/\w.cell? ⟨g,i*3,none⟩=some (.int .i64 (V.ow.getD i aE).k)/\w.cell? ⟨g,i*3+1,none⟩=some (.int .i64 (V.ow.getD i aE).l)/\w.cell? ⟨g,i*3+2,none⟩=some (.int .i64 (V.ow.getD i aE).r):=by
 have ho:=h.fv.ow;rw[hv]at ho;exact⟨by rw[h.fv.c6,hv],aA ho hi⟩
theorem Sw.tcell(h:Sw w y T V s){g cap:Nat}(hv:y.tov=.slice (some ⟨g,0,none⟩) T.ow.length cap){i:Nat}(hi:i<T.ow.length):
  w.cell? ⟨y.t,6,none⟩=some (.slice (some ⟨g,0,none⟩) T.ow.length cap)/\w.cell? ⟨g,i*3,none⟩=some (.int .i64 (T.ow.getD i aE).k)/\w.cell? ⟨g,i*3+1,none⟩=some (.int .i64 (T.ow.getD i aE).l)/\w.cell? ⟨g,i*3+2,none⟩=some (.int .i64 (T.ow.getD i aE).r):=by
 have ho:=h.ft.ow;rw[hv]at ho;exact⟨by rw[h.ft.c6,hv],aA ho hi⟩
theorem Sw.ocell(h:Sw w y T V s){O n cap:Nat}(hv:y.ov=.slice (some ⟨O,0,none⟩) n cap){i:Nat}(hi:i<s.ot.length):
  w.cell? ⟨O,i,none⟩=some (.int .i64 (eK (s.ot.getD i none)))/\w.frozen? ⟨O,i,none⟩=false:=by
 obtain⟨O',c',e',_,_,h1,h2⟩:=h.own (by intro e;rw[e]at hi;simp at hi);rw[hv]at e';have eL:O=O':=by injection e' with e1 _ _;injection e1 with e1;injection e1
 subst eL;exact⟨h1 i hi,h2 i⟩
theorem Sw.pcell(h:Sw w y T V s){L n cap:Nat}(hv:y.pv=.slice (some ⟨L,0,none⟩) n cap){i:Nat}(hi:i<s.pl.length):
  w.cell? ⟨L,i,none⟩=some (.bool (s.pl.getD i false))/\w.frozen? ⟨L,i,none⟩=false:=by
 obtain⟨O',c',e',_,_,h1,h2⟩:=h.plc (by intro e;rw[e]at hi;simp at hi);rw[hv]at e';have eL:L=O':=by injection e' with e1 _ _;injection e1 with e1;injection e1
 subst eL;exact⟨h1 i hi,h2 i⟩
end
def Ow(V T:CF)(m:Nat)(s2:SS)(k vr count:Nat):Bool × SS:=if (T.ow.getD k aE).k=4 then wk V T m s2 k vr count else (false,s2)
theorem SG {V T:CF} {m:Nat} {s:SS} {k at_ count i:Nat} (h0:¬ wrap64 (s.st-1)<0) (h1:er V.ow at_=some i) (h2:s.ot.getD i none=none) (h3:¬ ((T.ow.getD k aE).k≠4/\(V.ow.getD i aE).k=4))
  {r:Bool × SS} (hr:r=CN (wU (wk V T m) V T) T { s with st:=wrap64 (s.st-1),ot:=s.ot.set i (some k),un:=s.un-1 } k (V.ow.getD i aE).r count) :
  wk V T (m+1) s k at_ count=if r.1=true then (true,r.2) else if (Ow V T m r.2 k (V.ow.getD i aE).r count).1=true then (true,(Ow V T m r.2 k (V.ow.getD i aE).r count).2) else (false,{ (Ow V T m r.2 k (V.ow.getD i aE).r count).2 with ot:=(Ow V T m r.2 k (V.ow.getD i aE).r count).2.ot.set i none,un:=(Ow V T m r.2 k (V.ow.getD i aE).r count).2.un+1 }):=by
 simp only[wk];rw[if_neg h0,h1];dsimp only;rw[if_neg (by rw[h2];simp),if_neg h3,<-hr];obtain⟨b,s2⟩:=r;cases b with
 |true=>rfl
 |false =>
  dsimp only;rw[show(if (T.ow.getD k aE).k=4 then wk V T m s2 k (V.ow.getD i aE).r count else (false,s2))=Ow V T m s2 k (V.ow.getD i aE).r count from rfl];obtain⟨b3,s3⟩:=Ow V T m s2 k (V.ow.getD i aE).r count;cases b3 <;> rfl
theorem IT{y:pS}{T V:CF}(hT:Rm T)(hVl:V.ow.length<=1000000){m:Nat}(hW:WkC y T V m (wk V T m))(hP:PlC y T V m (wU (wk V T m) V T)):WkC y T V (m+1) (wk V T (m+1)):=by
 intro w s k at_ count h hw hm hk hc;obtain⟨jz,hkp⟩:=DW hk;have hkT:k<T.ow.length:=by rw[<-hw.lp];exact jz
 obtain⟨tg,tcap,nO,ZH,TX⟩:=aD h.ft.ow hkT;have hq8:=h.cs;have ann:=h.frz 54;have dc:=h.setSt (wrap64 (s.st-1));have Zn:=dc.cs;have C8:=dc.cv;have cg:=ab dc;have Hy:=dc.c1;have C6:=dc.co;obtain⟨Hs,V9,_,_⟩:=dc.tcell nO hkT;obtain⟨w1,wF⟩:∃w1,w1=w.setCell ⟨y.q,54,none⟩ (.int .i64 (wrap64 (s.st-1))):=⟨_,rfl⟩;have zt:Hid (aq y.fp w y.fp w1):=ab (by rw[wF];exact(aq.refl y.fp w).setCell (zq0 (Sw.memQ y)) _);have HB:=ab (cB at_ dc.fv);rw[<-wF]at cg Zn C8 Hy C6 Hs V9 HB;have UT:=ab wF;obtain⟨tk0,WX⟩:∃tk0,tk0=(T.ow.getD k aE).k:=⟨_,rfl⟩;rw[<-WX]at V9;have ve:=ab WX;have HS:=ab h;have BU:=ab hw;have HK:=ab hk;have HC:=ab hc;have HM:=ab hm;have SX:=ab hP;have HWC:=ab hW;have HTO:=ab nO;clear h hw hm hk hc hP hW hkp dc WX nO wF;by_cases qm:wrap64 (s.st-1)<0
 .have hn':decide (wrap64 (s.st-1)<0)=true:=by simpa using qm
  have HE:Hid (wk V T (m+1) s k at_ count=(false,{ s with st:=wrap64 (s.st-1) })):=ab (by simp only[wk];rw[if_pos qm]);rw[uh UT]at Zn cg zt;clear qm C8 Hy C6 Hs V9 HB;go_enter func207,ntmps207;go_wp2_with fail
  go_ret;rw[uh HE];exact⟨rfl,uh cg,uh zt⟩
 .have hn':decide (wrap64 (s.st-1)<0)=false:=by simpa using qm
  cases pQ:er V.ow at_ with
  |none =>
   have HE:Hid (wk V T (m+1) s k at_ count=(false,{ s with st:=wrap64 (s.st-1) })):=ab (by simp only[wk];rw[if_neg qm,pQ]);rw[pQ]at HB;rw[uh UT]at Zn cg zt C8 HB;clear qm Hy C6 Hs V9 pQ;go_enter func207,ntmps207;go_wp2_with fail
   refine(uh HB).mono ?_;rintro e w2 ⟨rfl,rfl⟩;rw[show eK none=(-1:Int) from rfl];go_wp2_with fail
   go_ret;rw[uh HE];exact⟨rfl,uh cg,uh zt⟩
  |some i =>
   obtain⟨hiV,ya⟩:=zX pQ;have TM:i<s.ot.length:=(by rw[(uh BU).lo];exact hiV);obtain⟨vg,vcap,Dq,QX,Mv⟩:=aD (uh cg).fv.ow hiV;obtain⟨O,ocap,fx,acJ,acI,_,_⟩:=(uh cg).own (by intro e;have e2:s.ot=[]:=e;rw[e2]at TM;simp at TM);have AO:y.ov=.slice (some ⟨O,0,none⟩) s.ot.length ocap:=fx;have alf:ocap<=9223372036854775807:=(by unfold maxLen at acI;omega);have alg:s.ot.length<=ocap:=acJ;obtain⟨ho1,WG⟩:=(uh cg).ocell AO (i:=i) TM;rw[AO]at C6;have QQ:w1.cell? ⟨O,i,none⟩=some (.int .i64 (eK (s.ot.getD i none))):=ho1;obtain⟨oi,hoi⟩:∃oi,oi=s.ot.getD i none:=⟨_,rfl⟩;rw[<-hoi]at QQ;have acK:=mE oi;obtain⟨hV6,hVk,_,hVr⟩:=(uh cg).vcell Dq hiV;obtain⟨vk,Xb⟩:∃vk,vk=(V.ow.getD i aE).k:=⟨_,rfl⟩;obtain⟨vr,hvr⟩:∃vr,vr=(V.ow.getD i aE).r:=⟨_,rfl⟩;rw[<-Xb]at hVk;rw[<-hvr]at hVr;rw[pQ]at HB;have lz:=ab pQ;have HOI:=ab hoi;have HVK:=ab Xb;have HVR:=ab hvr;have IY:=ab AO;have Y4:=ab Dq;clear fx AO ho1 hoi Xb hvr pQ Dq acI acJ ya;cases hos:oi.isSome with
   |true =>
    have HE:Hid (wk V T (m+1) s k at_ count=(false,{ s with st:=wrap64 (s.st-1) })):=ab (by
     simp only[wk];rw[if_neg qm,uh lz];dsimp only;rw[if_pos (by rw[<-uh HOI];intro e;rw[e]at hos;cases hos)])
    rw[hos]at acK;rw[uh UT]at Zn cg zt C8 HB C6 QQ Hy Hs V9;clear qm hV6 hVk hVr WG;go_enter func207,ntmps207;go_wp2_with fail
    refine(uh HB).mono ?_;rintro e w2 ⟨rfl,rfl⟩;rw[show eK (some i)=(i:Int) from rfl];go_wp2_with fail
    go_ret;rw[uh HE];exact⟨rfl,uh cg,uh zt⟩
   |false =>
    have hoN:oi=none:=(by cases oi with|none=>rfl|some _=>cases hos);rw[hos]at acK;by_cases hkk:tk0≠4/\vk=4
    .have HE:Hid (wk V T (m+1) s k at_ count=(false,{ s with st:=wrap64 (s.st-1) })):=ab (by
      simp only[wk];rw[if_neg qm,uh lz];dsimp only;rw[if_neg (by rw[<-uh HOI,hoN];simp),<-uh ve,<-uh HVK,if_pos hkk])
     have ht4:((tk0:Int)==4)=false:=(by rw[beq_eq_false_iff_ne];omega);have Fa:((vk:Int)==4)=true:=(by rw[beq_iff_eq];omega);rw[uh UT]at Zn cg zt C8 HB C6 QQ Hy Hs V9 hV6 hVk;clear qm hVr WG hkk hoN;go_enter func207,ntmps207;go_wp2_with fail
     refine(uh HB).mono ?_;rintro e w2 ⟨rfl,rfl⟩;rw[show eK (some i)=(i:Int) from rfl];go_wp2_with fail
     go_ret;rw[uh HE];exact⟨rfl,uh cg,uh zt⟩
    .have lM:(rO s).Perm (i::rO { s with st:=wrap64 (s.st-1),ot:=s.ot.set i (some k),un:=s.un-1 }):=Aq TM (by rw[<-uh HOI];exact hoN) rfl;have kh:=lM.length_eq;rw[length_cons]at kh;have aoh:1<=s.un:=(by have:=(uh BU).un;omega);have ail:s.un<=1000000:=by
      have h1:=(uh BU).un;have h2:(rO s).length<=s.ot.length:=by
       unfold rO;have:=length_filter_le (λi=>(s.ot.getD i none).isNone) (range s.ot.length);simpa using this
      have h3:=(uh BU).lo;omega
     have ab0:((s.un-1:Nat):Int)=(s.un:Int)-1:=by omega
     -- the worlds behind the stores
     have dF:=(uh cg).setO (i:=i) (o:=some k) (uh IY);rw[show eK (some k)=(k:Int) from rfl]at dF;have ahi:=dF.cu;have ahv:=dF.frz 52;have fe:=dF.setUn (s.un-1);rw[ab0]at fe;have ahj:=fe.cv;obtain⟨ag7,_,_,abK⟩:=fe.vcell (uh Y4) hiV;rw[<-uh HVR]at abK;have sy:Hid (aq y.fp w y.fp ((w1.setCell ⟨O,i,none⟩ (.int .i64 (k:Int))).setCell ⟨y.q,52,none⟩ (.int .i64 ((s.un:Int)-1)))):=ab (((uh zt).setCell (zq0 (Sw.memO (uh IY))) _).setCell (zq0 (Sw.memQ y)) _);have QZ:Wf V T { s with st:=wrap64 (s.st-1),ot:=s.ot.set i (some k),un:=s.un-1 }:=by
      refine⟨by simpa using (uh BU).lo,(uh BU).lp,(uh BU).lb,?_⟩;have h4:=(uh BU).un;show s.un-1=_;omega
     have AI:({ s with st:=wrap64 (s.st-1),ot:=s.ot.set i (some k),un:=s.un-1 }:SS).un<m:=by
      have:=uh HM;show s.un-1<m;omega
     have Pm:=ab (P3 (at_:=vr) hT (uh SX) (DH hT (GD hT m)) fe QZ AI (uh HK) (uh HC));have Z7:=fun {b:Bool} {s':SS} (hr:CN (wU (wk V T m) V T) T { s with st:=wrap64 (s.st-1),ot:=s.ot.set i (some k),un:=s.un-1 } k vr count=(b,s'))=>Kw hT (DH hT (GD hT m)) QZ (uh HK) (uh HC) hr
     obtain⟨r,hr⟩:∃r,r=CN (wU (wk V T m) V T) T { s with st:=wrap64 (s.st-1),ot:=s.ot.set i (some k),un:=s.un-1 } k vr count:=⟨_,rfl⟩;have HE:=ab (SG (m:=m) (count:=count) qm (uh lz) (by rw[<-uh HOI];exact hoN) (by rw[<-uh ve,<-uh HVK];exact hkk) (r:=r) (by rw[<-uh HVR];exact hr));rw[<-uh HVR]at HE;rw[<-hr]at Pm;have bE:r.1=false->r.2={ s with st:=r.2.st,ot:=s.ot.set i (some k),un:=s.un-1 }:=λhb=>(Z7 (b:=r.1) (s':=r.2) hr.symm).1 hb;have kQ:=ab bE;have PA:=ab QZ;have Ed:=ab AI;clear Z7 hr bE QZ AI dF fe lM kh;have ht4:((tk0:Int)==4)=decide (tk0=4):=(by rw[Bool.eq_iff_iff,beq_iff_eq,decide_eq_true_eq];omega);have acu:tk0=4\/(vk:Int)≠4:=(by omega);rw[uh UT]at Zn sy C8 HB C6 QQ Hy Hs V9 hV6 hVk WG ahi ahv ahj ag7 abK Pm;have HKK:=ab acu;have jN:decide ((i:Int)<0)=false:=(by simp);clear qm hkk acu hVr hoN;cases OZ:decide (tk0=4) with
     |true =>
      rw[OZ]at ht4;go_enter func207,ntmps207;go_wp2_with fail
      refine(uh HB).mono ?_;rintro e w2 ⟨rfl,rfl⟩;rw[show eK (some i)=(i:Int) from rfl];go_wp2_with fail
      refine(uh Pm).mono ?_;rintro e w4 ⟨rfl,el,V8⟩;obtain⟨b4,s4⟩:=r;cases b4 with
      |true =>
       have k6:=ab el;have HT4:=ab ((uh sy).trans V8);clear el V8;go_wp2_with fail
       go_ret;rw[uh HE];exact⟨rfl,uh k6,uh HT4⟩
      |false =>
       have tu:=uh kQ rfl;dsimp only at el tu;have ani:=el.cv;obtain⟨am7,_,_,aha⟩:=el.vcell (uh Y4) hiV;rw[<-uh HVR]at aha;have Xg:Wf V T s4:=(by rw[tu];exact⟨(uh PA).lo,(uh PA).lp,(uh PA).lb,(uh PA).un⟩);have adh:s4.un=s.un-1:=(by rw[tu]);have acU:s4.ot=s.ot.set i (some k):=(by rw[tu]);have Mu:uP s4=uP s:=(by rw[tu];rfl);have HWK:=ab (uh HWC w4 s4 k vr count el Xg (by have:=uh Ed;have e:({ s with st:=wrap64 (s.st-1),ot:=s.ot.set i (some k),un:=s.un-1 }:SS).un=s.un-1:=rfl;omega) (by rw[Mu];exact uh HK) (by rw[Mu];exact uh HC));have aaG:=ab (GD (V:=V) hT m s4 k vr count Xg (by rw[Mu];exact uh HK) (by rw[Mu];exact uh HC) _ _ rfl);have HT4:=ab ((uh sy).trans V8);have HQ:Hid (Ow V T m s4 k vr count=wk V T m s4 k vr count):=ab (by unfold Ow;rw[<-uh ve,if_pos (by simpa using OZ)]);have HUN:=ab adh;have HOT:=ab acU;clear el V8 tu Xg adh acU Mu;go_wp2_with fail
       refine(uh HWK).mono ?_;rintro e w5 ⟨rfl,eY,Hr⟩;obtain⟨q,hq⟩:∃q,q=wk V T m s4 k vr count:=⟨_,rfl⟩;rw[<-hq]at eY aaG HQ ⊢;obtain⟨b5,s5⟩:=q;cases b5 with
       |true =>
        have qZ:=ab eY;have I1:=ab ((uh HT4).trans Hr);have HQ5:=ab hq;clear eY Hr hq;go_wp2_with fail
        go_ret;rw[uh HE];dsimp only;rw[uh HQ];exact⟨rfl,uh qZ,uh I1⟩
       |false =>
        have oO:=(uh aaG).1 rfl;dsimp only at eY oO;have I1:=ab ((uh HT4).trans Hr);clear Hr hq;have WY:s5.un=s.un-1:=(by rw[oO];exact uh HUN);have Mi:s5.ot=s.ot.set i (some k):=(by rw[oO];exact uh HOT);have De:s5.ot.length=s.ot.length:=(by rw[Mi];simp);have Wp:=eY.co;rw[uh IY]at Wp;obtain⟨ho5,ahV⟩:=eY.ocell (uh IY) (i:=i) (by rw[De];exact TM);have AR:=eY.setO (i:=i) (o:=none) (by rw[De];exact uh IY);rw[show eK none=(-1:Int) from rfl]at AR;have Wq:=AR.cu;have hu6:(({ s5 with ot:=s5.ot.set i none }:SS).un:Int)=(s.un:Int)-1:=by
         have:({ s5 with ot:=s5.ot.set i none }:SS).un=s5.un:=rfl;omega
        rw[hu6]at Wq;have ahw:=AR.frz 52;have wD:=AR.setUn (s5.un+1);rw[show((s5.un+1:Nat):Int)=(s.un:Int) by omega]at wD;have S1:=ab wD;have HT7:Hid (aq y.fp w y.fp ((w5.setCell ⟨O,i,none⟩ (.int .i64 (-1))).setCell ⟨y.q,52,none⟩ (.int .i64 (s.un:Int)))):=ab (((uh I1).setCell (zq0 (Sw.memO (uh IY))) _).setCell (zq0 (Sw.memQ y)) _);clear eY oO WY Mi De AR wD hu6;go_wp2_with fail
        go_ret;rw[uh HE];dsimp only;rw[uh HQ];exact⟨rfl,uh S1,uh HT7⟩
     |false =>
      rw[OZ]at ht4;have Fa:((vk:Int)==4)=false:=by
       rw[beq_eq_false_iff_ne];rcases uh HKK with h|h
       .rw[h]at OZ;simp at OZ
       .exact h
      go_enter func207,ntmps207;go_wp2_with fail
      refine(uh HB).mono ?_;rintro e w2 ⟨rfl,rfl⟩;rw[show eK (some i)=(i:Int) from rfl];go_wp2_with fail
      refine(uh Pm).mono ?_;rintro e w5 ⟨rfl,eY,V8⟩;obtain⟨b4,s5⟩:=r;have I1:=ab ((uh sy).trans V8);clear V8;cases b4 with
      |true =>
       have k6:=ab eY;clear eY;go_wp2_with fail
       go_ret;rw[uh HE];exact⟨rfl,uh k6,uh I1⟩
      |false =>
       have oO:=uh kQ rfl;dsimp only at eY oO;have HQ:Hid (Ow V T m s5 k vr count=(false,s5)):=ab (by unfold Ow;rw[<-uh ve,if_neg (by simpa using OZ)]);have WY:s5.un=s.un-1:=(by rw[oO]);have Mi:s5.ot=s.ot.set i (some k):=(by rw[oO]);have De:s5.ot.length=s.ot.length:=(by rw[Mi];simp);have Wp:=eY.co;rw[uh IY]at Wp;obtain⟨ho5,ahV⟩:=eY.ocell (uh IY) (i:=i) (by rw[De];exact TM);have AR:=eY.setO (i:=i) (o:=none) (by rw[De];exact uh IY);rw[show eK none=(-1:Int) from rfl]at AR;have Wq:=AR.cu;have hu6:(({ s5 with ot:=s5.ot.set i none }:SS).un:Int)=(s.un:Int)-1:=by
        have:({ s5 with ot:=s5.ot.set i none }:SS).un=s5.un:=rfl;omega
       rw[hu6]at Wq;have ahw:=AR.frz 52;have wD:=AR.setUn (s5.un+1);rw[show((s5.un+1:Nat):Int)=(s.un:Int) by omega]at wD;have S1:=ab wD;have HT7:Hid (aq y.fp w y.fp ((w5.setCell ⟨O,i,none⟩ (.int .i64 (-1))).setCell ⟨y.q,52,none⟩ (.int .i64 (s.un:Int)))):=ab (((uh I1).setCell (zq0 (Sw.memO (uh IY))) _).setCell (zq0 (Sw.memQ y)) _);clear eY oO WY Mi De AR wD hu6;go_wp2_with fail
       go_ret;rw[uh HE];dsimp only;rw[uh HQ];exact⟨rfl,uh S1,uh HT7⟩
def I4(V:CF)(s:SS)(p:Pr):Bool:=p.l != p.r&&(match s.b p.l,s.b p.r with|some a,some b=>gi V a b|_,_=>true)
theorem PH{V T:CF}{s:SS}(h:∀j,(hj:j<T.ap.length)->I4 V s T.ap[j]=true):I3 V T s=true:=by
 show T.ap.all (I4 V s)=true;rw[all_eq_true];intro p hp;obtain⟨j,hj,rfl⟩:=mem_iff_getElem.1 hp;exact h j hj
theorem JO{V T:CF}{s:SS}{j:Nat}(hj:j<T.ap.length)(h:I4 V s T.ap[j]=false):I3 V T s=false:=by
 show T.ap.all (I4 V s)=false;rw[all_eq_false];exact⟨_,getElem_mem hj,by rw[h];simp⟩
def RmA(T:CF):Prop:=∀p∈T.ap,p.l<24/\p.r<24
theorem Sw.alloc{w:World}{y:pS}{T V:CF}{s:SS}(h:Sw w y T V s)(o:Obj):Sw (w.alloc o) y T V s:=h.of_eq (λ_ hk=>heap_alloc _ _ _ hk)
theorem Sw.drewN{w:World}{y:pS}{T V:CF}{s:SS}(h:Sw w y T V s)(n:Nat):Sw (w.drewN n) y T V s:=h.of_eq (λ_ _=>by simp)
theorem Dy(w:World)(a b c:Value)(T:TypeId):(w.alloc (.cells #[a,b,c] T)).cell? ⟨w.heap.size,0,none⟩=some a/\(w.alloc (.cells #[a,b,c] T)).cell? ⟨w.heap.size,1,none⟩=some b/\(w.alloc (.cells #[a,b,c] T)).cell? ⟨w.heap.size,2,none⟩=some c:=by
 have h:=λj=>cell_of_row (w.alloc (.cells #[a,b,c] T)) w.heap.size j #[a,b,c] T (0,0) (heap_alloc_new w _);exact⟨h 0,h 1,h 2⟩
theorem Bl(o:Option Nat):(eK o==(-1:Int))=o.isNone:=by
 cases o with
 |none=>rfl
 |some n=>simp[eK]
theorem GQ{y:pS}{T V:CF}(hA:RmA T){w:World}{s:SS}(h:Sw w y T V s):
  Calls prog 205 #[.pointer (some ⟨y.q,0,none⟩)] w λe w'=>e=.returned (.bool (I3 V T s))/\Below w.heap.size w w':=by
 obtain⟨ao,cap,jK,hm,Jj,hc⟩:=dp h.ft.ap;have h5:=h.ft.c5;rw[jK]at h5;have ZC:=h.c1;have HC:=ab hc;have HS:=ab h;clear hc jK h;unfold maxLen at hm;go_enter func205,ntmps205;go_wp2_with fail
 go_loopw [15] (λi wr=>∃k:Nat,k<=T.ap.length/\i=.int .i64 k/\Hid (∀j,(hj:j<T.ap.length)->j<k->I4 V s T.ap[j]=true)/\Below w.heap.size w wr) (λi _=>T.ap.length-(intOf i).toNat)
 case atStart=>exact⟨0,zq5 _,rfl,λ_ _ h=>absurd h (by omega),Below.refl _ _⟩
 case round =>
  obtain⟨k,hk,rfl,jw,cn⟩:=hrel;by_cases ar:k<T.ap.length
  .obtain⟨g,qL,aw⟩:=uh HC (by intro h;rw[h]at ar;simp at ar);subst qL;obtain⟨Cc,uR,uS⟩:=aw k ar;have c0:=(cn.cell (block_lt_of_cell? w _ Cc)).trans Cc;have c1:=(cn.cell (block_lt_of_cell? w _ uR)).trans uR;have c2:=(cn.cell (block_lt_of_cell? w _ uS)).trans uS;clear aw Cc uR uS;obtain⟨tp,Dl⟩:=hA _ (getElem_mem ar);obtain⟨p,hp⟩:∃p,p=T.ap[k]:=⟨_,rfl⟩;rw[<-hp]at c0 c1 c2 tp Dl;have HP:=ab hp;have HSr:=ab ((uh HS).below cn);have hZ:=(uh HSr).alloc (.cells #[Value.int .i64 p.k,.int .i64 p.l,.int .i64 p.r] 182);have WP:=hZ.cb tp;have hqr:=hZ.cb Dl;have hqv:=hZ.cv;have n0:(wr.alloc (.cells #[Value.int .i64 p.k,.int .i64 p.l,.int .i64 p.r] 182)).cell? ⟨wr.heap.size,1,none⟩=some (.int .i64 p.l):=(Dy wr _ _ _ _).2.1;have n1:(wr.alloc (.cells #[Value.int .i64 p.k,.int .i64 p.l,.int .i64 p.r] 182)).cell? ⟨wr.heap.size,2,none⟩=some (.int .i64 p.r):=(Dy wr _ _ _ _).2.2;have UD:=ab hZ.fv;obtain⟨ba,B6⟩:∃ba,ba=s.b p.l:=⟨_,rfl⟩;obtain⟨bb,xX⟩:∃bb,bb=s.b p.r:=⟨_,rfl⟩;rw[<-B6]at WP;rw[<-xX]at hqr;have HBA:=ab B6;have Ju:=ab xX;have HB:=ab cn;have OB:=ab (cn.alloc cn.size (.cells #[Value.int .i64 p.k,.int .i64 p.l,.int .i64 p.r] 182));clear B6 xX hp cn hZ;by_cases rj:p.l=p.r
   .have he:((p.l:Int)==(p.r:Int))=true:=(by rw[bh];simpa using rj);have HE:Hid (I3 V T s=false):=ab (JO ar (by rw[<-uh HP];unfold I4;rw[rj];simp));clear rj;go_wp2_with fail
    go_ret;exact⟨by rw[uh HE];rfl,uh OB⟩
   .have he:((p.l:Int)==(p.r:Int))=false:=(by rw[bh];simpa using rj);have HLR:=ab rj;clear rj;have Y1:Hid (∀n,I4 V s p=true->(∃k_1:Nat,k_1<=T.ap.length/\Value.int IntKind.i64 ((k:Int)+1)=Value.int IntKind.i64 k_1/\Hid (∀(j:Nat) (hj:j<T.ap.length),j<k_1->I4 V s T.ap[j]=true)/\Below w.heap.size w ((wr.alloc (Obj.cells #[Value.int IntKind.i64 p.k,Value.int IntKind.i64 p.l,Value.int IntKind.i64 p.r] 182)).drewN n))/\T.ap.length-(intOf (Value.int IntKind.i64 ((k:Int)+1))).toNat<T.ap.length-(intOf (Value.int IntKind.i64 (k:Int))).toNat):=ab (λn h =>
     ⟨⟨k+1,by omega,by go_num,ab (λj hj m9=>by
      by_cases e:j=k
      .subst e;rw[<-uh HP];exact h
      .exact jw.out j hj (by omega)),⟨(uh OB).os,(uh OB).tape,(uh OB).output,by simpa using (uh OB).size,λk hk=>by simpa using (uh OB).block k hk⟩⟩,by simp[intOf];omega⟩)
    have ZA:=Bl ba;have Mc:=Bl bb;cases hia:ba.isNone with
    |true =>
     rw[hia]at ZA;go_wp2_with fail
     go_quiet (fail)
     go_wp2_with fail
     go_quiet (fail)
     go_wp2_with fail
     refine uh Y1 _ ?_;unfold I4;rw[<-uh HBA,<-uh Ju];cases ba with
     |none=>simpa using uh HLR
     |some _=>cases hia
    |false =>
     rw[hia]at ZA;cases hib:bb.isNone with
     |true =>
      rw[hib]at Mc;go_wp2_with fail
      go_quiet (fail)
      go_wp2_with fail
      go_quiet (fail)
      go_wp2_with fail
      refine uh Y1 _ ?_;unfold I4;rw[<-uh HBA,<-uh Ju];cases bb with
      |none=>cases ba <;> simpa using uh HLR
      |some _=>cases hib
     |false =>
      rw[hib]at Mc;cases ba with
      |none=>cases hia
      |some a =>
       cases bb with
       |none=>cases hib
       |some b =>
        rw[show eK (some a)=(a:Int) from rfl]at WP ZA;rw[show eK (some b)=(b:Int) from rfl]at hqr Mc;have HAp:Hid (I4 V s p=gi V a b):=ab (by
         unfold I4;rw[<-uh HBA,<-uh Ju];have:(p.l != p.r)=true:=(by rw[bne_iff_ne];exact uh HLR);rw[this];rfl)
        go_wp2_with fail
        go_quiet (fail)
        go_wp2_with fail
        go_quiet (fail)
        go_wp2_with fail
        refine(kx a b ((uh UD).drewN _)).mono ?_;rintro e w3 ⟨rfl,cU⟩;have qY:Hid (Below w.heap.size w w3):=ab (by
         have hz:=uh OB;have hs:=cU.size;have dF:=hz.size;refine⟨cU.os.trans hz.os,cU.tape.trans hz.tape,cU.output.trans hz.output,?_,λk hk=>?_⟩
         .simp only[heap_drewN]at hs;omega
         .refine(cU.block k (by simp only[heap_drewN];omega)).trans ?_;rw[heap_drewN];exact hz.block k hk)
        clear cU;cases vo:gi V a b with
        |true =>
         go_wp2_with fail
         go_roundw
         case rel =>
          refine⟨k+1,by omega,by go_num,ab (λj hj m9=>?_),uh qY⟩;by_cases e:j=k
          .subst e;rw[<-uh HP,uh HAp];exact vo
          .exact jw.out j hj (by omega)
         case measure=>simp[intOf];omega
        |false =>
         have HE:Hid (I3 V T s=false):=ab (JO ar (by rw[<-uh HP,uh HAp];exact vo));go_wp2_with fail
         go_ret;exact⟨by rw[uh HE];rfl,uh qY⟩
  .have hd:decide ((k:Int)<(T.ap.length:Int))=false:=(by simp;omega);have HE:Hid (I3 V T s=true):=ab (PH (λj hj=>jw.out j hj (by omega)));go_wp2_with fail
   go_ret;exact⟨by rw[uh HE];rfl,cn⟩
theorem DK{n k:Nat}(h:k<n):(range n).drop k=k::(range n).drop (k+1):=by
 have hl:k<(range n).length:=by simpa using h
 rw[drop_eq_getElem_cons hl];simp
theorem XG(o:Option Nat):decide (eK o<(0:Int))=o.isNone:=by
 cases o with
 |none=>rfl
 |some n=>exact decide_eq_false (by show ¬ ((n:Int)<0);omega)
theorem CI{y:pS}{T V:CF}(hT:Rm T){w:World}{s:SS}(h:Sw w y T V s)(Ji:s.pl.length=T.ow.length):
  Calls prog 206 #[.pointer (some ⟨y.q,0,none⟩)] w λe w'=>e=.returned (.int .i64 (eK (Vg T s)))/\∃n,w'=w.drewN n:=by
 have HS:=ab h;clear h;have Wn:∃ao cap,y.pv=.slice ao s.pl.length cap/\cap<=9223372036854775807/\s.pl.length<=cap:=by
  rcases(uh HS).pl.2 with⟨h1,h0⟩|⟨O,cap,cur,hv,_,_,Jj,hm,_⟩
  .exact⟨none,0,by rw[h1,h0],by omega,by omega⟩
  .exact⟨_,cap,hv,by unfold maxLen at hm;omega,Jj⟩
 obtain⟨ao,pcap,dN,hpm,hpn⟩:=Wn;go_enter func206,ntmps206;go_wp2_with fail
 go_loopw [3,4] (λo i wr=>∃(k:Nat) (op:Option Nat),k<=s.pl.length/\o=.int .i64 (eK op)/\i=.int .i64 k/\Hid (OK T s ((range s.pl.length).drop k) op=Vg T s)/\∃n,wr=w.drewN n) (λ_ i _=>s.pl.length-(intOf i).toNat)
 case atStart=>exact⟨0,none,zq5 _,rfl,rfl,ab rfl,0,rfl⟩
 case round =>
  obtain⟨k,op,hk,rfl,rfl,rf,n,rfl⟩:=hrel;have Qz:=uh HS;have TF:=Qz.cp;rw[dN]at TF;have vb:=ab dN;by_cases ar:k<s.pl.length
  .obtain⟨L,lcap,hL,-,-,-,-⟩:=Qz.plc (by intro e;rw[e]at ar;simp at ar);obtain⟨Cb,-⟩:=Qz.pcell hL ar;have hkT:k<T.ow.length:=(by rw[<-Ji];exact ar);obtain⟨tg,tcap,nO,ZH,TX⟩:=aD Qz.ft.ow hkT;obtain⟨Hs,-,OT,-⟩:=Qz.tcell nO hkT;have OX:=Qz.c1;obtain⟨left,lm⟩:∃left,left=(T.ow.getD k aE).l:=⟨_,rfl⟩;have tp:left<24:=(by rw[lm];exact(hT.at k).1);rw[<-lm]at OT;have Hx:=Qz.cb tp;obtain⟨bl,cn⟩:∃bl,bl=s.b left:=⟨_,rfl⟩;rw[<-cn]at Hx;rw[hL]at dN;have qL:ao=some ⟨L,0,none⟩/\pcap=lcap:=(by injection dN with e1 _ e2;exact⟨e1.symm,e2.symm⟩);rw[qL.1,qL.2]at TF;have an1:lcap<=9223372036854775807:=(by omega);have an2:s.pl.length<=lcap:=(by omega);obtain⟨pb,hpb⟩:∃pb,pb=s.pl.getD k false:=⟨_,rfl⟩;rw[<-hpb]at Cb;have aS:OK T s ((range s.pl.length).drop k) op=if pb=true then OK T s ((range s.pl.length).drop (k+1)) op else if bl.isSome=true then some k else OK T s ((range s.pl.length).drop (k+1)) (if op.isSome=true then op else some k):=by
    rw[DK ar];simp only[OK];rw[<-hpb,<-lm,<-cn]
   rw[uh rf]at aS;have cI:=ab aS;have YW:=ab lm;have D8:=ab cn;have SW:=ab hpb;have HTO:=ab nO;have HL:=ab hL;have jf:=mE bl;have gl:=XG op;clear aS lm cn hpb nO hL dN Qz qL rf;cases pb with
   |true =>
    go_wp2_with fail
    go_roundw
    case rel=>exact⟨k+1,op,by omega,rfl,by go_num,ab ((uh cI).symm),n,rfl⟩
    case measure=>simp[intOf];omega
   |false =>
    cases Ly:bl.isSome with
    |true =>
     rw[Ly]at jf;go_wp2_with fail
     go_quiet (fail)
     go_wp2_with fail
     go_ret;refine⟨?_,n+_,drewN_drewN _ _ _⟩;rw[uh cI,Ly];rfl
    |false =>
     rw[Ly]at jf;cases ng:op.isNone with
     |true =>
      rw[ng]at gl;go_wp2_with fail
      go_quiet (fail)
      go_wp2_with fail
      go_roundw
      case rel =>
       refine⟨k+1,some k,by omega,rfl,by go_num,ab ?_,_,rfl⟩;have:=uh cI;rw[Ly]at this;simp only[Bool.false_eq_true,if_false]at this;rw[this];cases op with
       |none=>rfl
       |some _=>cases ng
      case measure=>simp[intOf];omega
     |false =>
      rw[ng]at gl;go_wp2_with fail
      go_quiet (fail)
      go_wp2_with fail
      go_roundw
      case rel =>
       refine⟨k+1,op,by omega,rfl,by go_num,ab ?_,_,rfl⟩;have:=uh cI;rw[Ly]at this;simp only[Bool.false_eq_true,if_false]at this;rw[this];cases op with
       |none=>cases ng
       |some _=>rfl
      case measure=>simp[intOf];omega
  .have hd:decide ((k:Int)<(s.pl.length:Int))=false:=(by simp;omega);have HE:Hid (Vg T s=op):=ab (by
    rw[<-uh rf,drop_of_length_le (by simp;omega)];rfl)
   clear Qz dN rf;go_wp2_with fail
   go_ret;exact⟨by rw[uh HE];rfl,n,rfl⟩
theorem Nn{W:SS->Nat->Nat->Nat->Bool × SS}{k left count:Nat}{l:List Pr}{i:Nat}(hi:i<l.length){s:SS}{r:Bool × SS}(hr:r=W { s with bd:=s.bd.set left (some (l.getD i aE).l) } k (l.getD i aE).l count):
  DI W k left count (l.drop i) s=if r.1=true then (true,r.2) else DI W k left count (l.drop (i+1)) r.2:=by
 rw[drop_eq_getElem_cons hi];have e:l[i]=l.getD i aE:=by simp[hi]
 rw[e];simp only[DI];rw[<-hr];obtain⟨b,s'⟩:=r;cases b <;> rfl
theorem tU{y:pS}{T V:CF}(hT:Rm T)(hA:RmA T)(OT:T.ow.length<=1000000)(hVl:V.ow.length<=1000000){m:Nat}(hW:WkC y T V m (wk V T m)):PlC y T V m (wU (wk V T m) V T):=by
 intro w s count h hw hm hc;have fY:count<=T.ow.length:=by omega
 have OX:=h.c1;have hcu:=h.cu;have Hs:=h.ft.c6;have Wn:∃ao cap,y.tov=.slice ao T.ow.length cap/\cap<=9223372036854775807/\T.ow.length<=cap:=by
  obtain⟨ao,cap,hv,hm,hn,_⟩:=dp h.ft.ow;exact⟨ao,cap,hv,by unfold maxLen at hm;omega,hn⟩
 obtain⟨tao,tcap,nO,ZH,TX⟩:=Wn;rw[nO]at Hs;have ail:s.un<=1000000:=by
  have h1:=hw.un;have h2:(rO s).length<=s.ot.length:=by
   unfold rO;have:=length_filter_le (λi=>(s.ot.getD i none).isNone) (range s.ot.length);simpa using this
  have h3:=hw.lo;omega
 have HS:=ab h;have BU:=ab hw;have HC:=ab hc;have HM:=ab hm;have HWC:=ab hW;have HTO:=ab nO;clear h hw hc hm hW nO;by_cases h0:T.ow.length=count
 .have hz:((T.ow.length:Int)-(count:Int)==0)=true:=by rw[beq_iff_eq];omega
  have HE:Hid (wU (wk V T m) V T s count=(decide (s.un=0)&&I3 V T s,s)):=ab (by unfold wU;rw[if_pos h0]);have HA:=ab (GQ hA (uh HS));clear h0;by_cases Do:s.un=0
  .have hu:((s.un:Int)==0)=true:=(by rw[beq_iff_eq];omega);have HU:=ab Do;clear Do;go_enter func177,ntmps177;go_wp2_with fail
   refine(uh HA).mono ?_;rintro e w1 ⟨rfl,bB⟩;have eU:=ab bB;clear bB;go_wp2_with fail
   go_ret;rw[uh HE];exact⟨by rw[uh HU];simp,(uh HS).below (uh eU),aq.ofBelow (uh eU)⟩
  .have hu:((s.un:Int)==0)=false:=(by rw[beq_eq_false_iff_ne];omega);have HU:Hid (decide (s.un=0)=false):=ab (by simpa using Do);clear Do;go_enter func177,ntmps177;go_wp2_with fail
   go_ret;rw[uh HE];exact⟨by rw[uh HU];rfl,uh HS,aq.refl _ _⟩
 .have hz:((T.ow.length:Int)-(count:Int)==0)=false:=by rw[beq_eq_false_iff_ne];omega
  by_cases h1:s.un<T.ow.length-count
  .have hgt:decide ((s.un:Int)<(T.ow.length:Int)-(count:Int))=true:=(by rw[decide_eq_true_eq];omega);have HE:Hid (wU (wk V T m) V T s count=(false,s)):=ab (by unfold wU;rw[if_neg h0,if_pos h1]);clear h0 h1;go_enter func177,ntmps177;go_wp2_with fail
   go_ret;rw[uh HE];exact⟨rfl,uh HS,aq.refl _ _⟩
  .have hgt:decide ((s.un:Int)<(T.ow.length:Int)-(count:Int))=false:=(by rw[decide_eq_false_iff_not];omega);have Z0:=ab (CI hT (uh HS) (uh BU).lp);cases rf:Vg T s with
   |none =>
    have HE:Hid (wU (wk V T m) V T s count=(false,s)):=ab (by unfold wU;rw[if_neg h0,if_neg h1,rf]);rw[rf]at Z0;clear h0 h1 rf;go_enter func177,ntmps177;go_wp2_with fail
    refine(uh Z0).mono ?_;rintro e w1 ⟨rfl,n,rfl⟩;rw[show eK none=(-1:Int) from rfl];go_wp2_with fail
    go_ret;rw[uh HE];exact⟨rfl,(uh HS).drewN n,(aq.refl _ _).drewN n⟩
   |some k =>
    have hk:=zZ rf;have hkT:k<T.ow.length:=(by rw[<-(uh BU).lp];exact(DW hk).1);obtain⟨tg,tcap2,Mr,-,-⟩:=aD (uh HS).ft.ow hkT;have htt:tao=some ⟨tg,0,none⟩:=by
     have:=(uh HTO).symm.trans Mr;injection this
    subst htt;obtain⟨-,-,ag6,-⟩:=(uh HS).tcell (uh HTO) hkT;obtain⟨left,lm⟩:∃left,left=(T.ow.getD k aE).l:=⟨_,rfl⟩;have tp:left<24:=(by rw[lm];exact(hT.at k).1);rw[<-lm]at ag6;have Hx:=(uh HS).cb tp;obtain⟨bl,cn⟩:∃bl,bl=s.b left:=⟨_,rfl⟩;rw[<-cn]at Hx;have Zx:decide ((k:Int)<0)=false:=(by simp);rw[rf]at Z0;have HK:=ab hk;cases bl with
    |some a =>
     have HE:Hid (wU (wk V T m) V T s count=wk V T m s k a count):=ab (by
      unfold wU;rw[if_neg h0,if_neg h1,rf];dsimp only;rw[<-lm,<-cn])
     rw[show eK (some a)=(a:Int) from rfl]at Hx;have ZA:((a:Int) != -1)=true:=mE (some a);clear h0 h1 rf lm cn hk Mr;go_enter func177,ntmps177;go_wp2_with fail
     refine(uh Z0).mono ?_;rintro e w1 ⟨rfl,n,rfl⟩;rw[show eK (some k)=(k:Int) from rfl];go_wp2_with fail
     refine(uh HWC _ s k a count ((uh HS).drewN n) (uh BU) (uh HM) (uh HK) (uh HC)).mono ?_;rintro e w2 ⟨rfl,bO,hT2⟩;have cj:=ab bO;have Ef:=ab (((aq.refl y.fp w).drewN n).trans hT2);clear bO hT2;go_wp2_with fail
     go_ret;rw[uh HE];exact⟨rfl,uh cj,uh Ef⟩
    |none =>
     have HE:Hid (wU (wk V T m) V T s count=DI (wk V T m) k left count V.ow s):=ab (by
      unfold wU;rw[if_neg h0,if_neg h1,rf];dsimp only;rw[<-lm,<-cn])
     rw[show eK none=(-1:Int) from rfl]at Hx;have D8:=ab cn;clear h0 h1 rf lm cn hk Mr;have hcv:=(uh HS).cv;go_enter func177,ntmps177;go_wp2_with fail
     refine(uh Z0).mono ?_;rintro e w1 ⟨rfl,n,rfl⟩;rw[show eK (some k)=(k:Int) from rfl];have AS:s.bd.set left none=s.bd:=by
      have:=jZ s.bd left none;rwa [show s.bd.getD left none=none from (uh D8).symm]at this
     have HSf:=ab AS;clear AS;go_wp2_with fail
     go_loopw [9] (λi wr=>∃(j:Nat) (o:Option Nat) (st:Int),j<=V.ow.length/\i=.int .i64 j/\Hid (Sw wr y T V { s with bd:=s.bd.set left o,st:=st })/\Hid (DI (wk V T m) k left count (V.ow.drop j) { s with bd:=s.bd.set left o,st:=st }=DI (wk V T m) k left count V.ow s)/\Hid (aq y.fp w y.fp wr)) (λi _=>V.ow.length-(intOf i).toNat)
     case atStart=>exact⟨0,none,s.st,zq5 _,rfl,ab (by rw[uh HSf];exact(uh HS).drewN n),ab (by rw[uh HSf];rfl),ab ((aq.refl _ _).drewN n)⟩
     case round =>
      obtain⟨j,o,st,hj,rfl,Hq,hpj,hTj⟩:=hrel;have anj:=(uh Hq).cv;have hV6:=(uh Hq).fv.c6;obtain⟨vao,vcap,Dq,adl,Mv,-⟩:=dp (uh Hq).fv.ow;have QX:vcap<=9223372036854775807:=(by unfold maxLen at adl;omega);rw[Dq]at hV6;have Y4:=ab Dq;clear Dq adl;by_cases ar:j<V.ow.length
      .have hd:decide ((j:Int)<(V.ow.length:Int))=true:=(by simp;omega);obtain⟨vg,vcap2,TY,-,-⟩:=aD (uh Hq).fv.ow ar;have htt:vao=some ⟨vg,0,none⟩:=by
        have:=(uh Y4).symm.trans TY;injection this
       subst htt;clear TY;obtain⟨-,-,ag8,-⟩:=(uh Hq).vcell (uh Y4) ar;obtain⟨vl,Dp⟩:∃vl,vl=(V.ow.getD j aE).l:=⟨_,rfl⟩;rw[<-Dp]at ag8;have Zu:=(uh Hq).frz (26+left);have Wo:=(uh Hq).cb tp;obtain⟨u0,Do⟩:∃u0,u0=eK (({ s with bd:=s.bd.set left o,st:=st }:SS).b left):=⟨_,rfl⟩;rw[<-Do]at Wo;clear Do;have dc:=(uh Hq).setB tp (some vl);rw[show eK (some vl)=(vl:Int) from rfl]at dc;simp only[set_set]at dc;have C8:=dc.cv;obtain⟨am6,-,ag9,-⟩:=dc.vcell (uh Y4) ar;rw[<-Dp]at ag9;have cg:=ab dc;have HVL:=ab Dp;clear dc Dp;have Xf:Wf V T { s with bd:=s.bd.set left (some vl),st:=st }:=⟨(uh BU).lo,(uh BU).lp,by simpa using (uh BU).lb,(uh BU).un⟩;obtain⟨r,hr⟩:∃r,r=wk V T m { s with bd:=s.bd.set left (some vl),st:=st } k vl count:=⟨_,rfl⟩;have kQ:=ab (GD (V:=V) hT m { s with bd:=s.bd.set left (some vl),st:=st } k vl count Xf (uh HK) (uh HC) _ _ hr.symm);have HWk:=ab (λw' (hs:Sw w' y T V { s with bd:=s.bd.set left (some vl),st:=st })=>uh HWC w' _ k vl count hs Xf (uh HM) (uh HK) (uh HC));rw[<-hr]at HWk;have HPl:Hid (DI (wk V T m) k left count V.ow s=if r.1=true then (true,r.2) else DI (wk V T m) k left count (V.ow.drop (j+1)) r.2):=ab (by
        rw[<-uh hpj];refine Nn ar ?_;rw[hr,<-uh HVL];simp only[set_set])
       have HTs:Hid (aq y.fp w y.fp (wr.setCell ⟨y.q,26+left,none⟩ (.int .i64 (vl:Int)))):=ab ((uh hTj).setCell (zq0 (Sw.memQ y)) _);clear Xf hr Hq hpj hTj;go_wp2_with fail
       go_region
       go_wp2_with fail
       refine(uh HWk (wr.setCell ⟨y.q,26+left,none⟩ (.int .i64 (vl:Int))).drew ((uh cg).of_eq (λ_ _=>rfl))).mono ?_;rintro e w5 ⟨rfl,eY,Hr⟩;have I1:Hid (aq y.fp w y.fp w5):=ab ((uh HTs).trans ⟨Hr.os,Hr.tape,Hr.output,Hr.size,Hr.block,Hr.foot⟩);obtain⟨b5,s5⟩:=r;cases b5 with
       |true =>
        have qZ:=ab eY;clear eY Hr;go_wp2_with fail
        go_ret;rw[uh HE,uh HPl];exact⟨rfl,uh qZ,uh I1⟩
       |false =>
        have oO:=(uh kQ).1 rfl;dsimp only at eY oO;have qZ:=ab eY;have aaA:=ab oO;clear eY Hr oO;go_wp2_with fail
        go_roundw
        case rel =>
         refine⟨j+1,some vl,s5.st,by omega,by go_num,ab ?_,ab ?_,I1⟩
         .rw[<-uh aaA];exact uh qZ
         .rw[<-uh aaA,uh HPl];rfl
        case measure=>simp[intOf];omega
      .have hd:decide ((j:Int)<(V.ow.length:Int))=false:=(by simp;omega);have Zu:=(uh Hq).frz (26+left);have Wo:=(uh Hq).cb tp;obtain⟨u0,Do⟩:∃u0,u0=eK (({ s with bd:=s.bd.set left o,st:=st }:SS).b left):=⟨_,rfl⟩;rw[<-Do]at Wo;clear Do;have dc:=(uh Hq).setB tp none;rw[show eK none=(-1:Int) from rfl]at dc;simp only[set_set]at dc;have cg:=ab dc;have HTs:Hid (aq y.fp w y.fp (wr.setCell ⟨y.q,26+left,none⟩ (.int .i64 (-1)))):=ab ((uh hTj).setCell (zq0 (Sw.memQ y)) _);have HPl:Hid (DI (wk V T m) k left count V.ow s=(false,{ s with bd:=s.bd.set left none,st:=st })):=ab (by
        rw[<-uh hpj,drop_of_length_le (by omega)];simp only[DI,set_set])
       clear dc Hq hpj hTj;go_wp2_with fail
       go_ret;rw[uh HE,uh HPl];exact⟨rfl,uh cg,uh HTs⟩
def aV(a b:ByteArray):Bool:=a.toList==b.toList
def b9:ByteArray:=⟨#[110,105,108]⟩
def fN(u:ByteArray):Bool:=aV u b9||aI u||jH u
def rb:List ByteArray->ByteArray->Nat
 |[],_=>0
 |x::r,k=>if aV x k then 0 else rb r k+1
def amI(l:List ByteArray)(c:ByteArray):Int:=if rb l c<l.length then rb l c else -1
def cK:ByteArray:=⟨#[123]⟩
def dd:ByteArray:=⟨#[125]⟩
structure oe where
 op:ByteArray
 x:ByteArray
 y:ByteArray
 cond:ByteArray
 to:Nat
 head:Bool
def em:ByteArray:=⟨#[]⟩
def qV:ByteArray:=⟨#[116,101,115,116]⟩
def bG:ByteArray:=⟨#[42]⟩
def bM:ByteArray:=⟨#[61]⟩
def jB:ByteArray:=⟨#[33,61]⟩
def rcB(l:List ByteArray):Bool:=match l with
 |[a]=>aV a bG
 |[a,b,c]=>aI a&&(aI c||aV c b9)&&(aV b bM||aV b jB)
 |_=>false
def Jn(l:List ByteArray):oe:=match l with
 |[a,b,c]=>⟨qV,a,c,b,0,false⟩
 |_=>⟨qV,em,em,bG,0,false⟩
structure xy where
 k:ByteArray
 a:ByteArray
 b:ByteArray
def oB:ByteArray:=⟨#[101,109,112]⟩
def Ce:ByteArray:=⟨#[108,115]⟩
def IQ:ByteArray:=⟨#[45,62]⟩
def lw:ByteArray:=⟨#[40]⟩
def Tg:ByteArray:=⟨#[44]⟩
def kS:ByteArray:=⟨#[41]⟩
theorem Kt:oB.toList=[101,109,112]:=ByteArray.toList_eq _
theorem T9:Ce.toList=[108,115]:=ByteArray.toList_eq _
def vF(l:List ByteArray):Bool:=match l with
 |[a]=>aV a oB
 |[a,b,c]=>fN a&&fN c&&(aV b bM||aV b jB||aV b IQ)
 |[a,b,c,d,e,f]=>aV a Ce&&aV b lw&&aV d Tg&&aV f kS&&(fN c&&fN e)
 |_=>false
def raE(l:List ByteArray):Bool:=match l with|[_]=>true|_=>false
def raA(l:List ByteArray):xy:=match l with
 |[a,b,c]=>⟨b,a,c⟩
 |[_,_,c,_,e,_]=>⟨Ce,c,e⟩
 |_=>⟨em,em,em⟩
def pce(l:List ByteArray):List xy:=if raE l then [] else [raA l]
def Pb:List ByteArray->List ByteArray->Option (List xy)
 |cur,[]=>if vF cur then some (pce cur) else none
 |cur,x::r=>if aV x bG then (if vF cur then (Pb [] r).map (pce cur++·) else none) else Pb (cur++[x]) r
