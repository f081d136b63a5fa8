import Derived.Test.YtciihepbeacppaaGreatM05
set_option maxRecDepth 100000
set_option maxHeartbeats 0
namespace Go.Proofs.YtciihepbeacppaaGreat
open Tryz Go.RowKit List World Below
set_option linter.unusedVariables false
section
variable {w:World} {y:py} {T V:CF} {s:SS}
theorem aC{w:World}{v:Value}{l:List Pr}(h:w.ownsRow 0 182 3 v l.length (aj l)){i:Nat}(hi:i<l.length):∃g cap,v=.slice (some ⟨g,0,none⟩) l.length cap/\cap<=9223372036854775807/\l.length<=cap:=by
 obtain⟨ao,cap,hv,hm,hn,hc⟩:=bn h;obtain⟨g,jm,_⟩:=hc (by intro e;rw[e]at hi;simp at hi);exact⟨g,cap,by rw[hv,jm],by unfold maxLen at hm;omega,hn⟩
theorem aA{w:World}{l:List Pr}{g cap:Nat}(h:w.ownsRow 0 182 3 (.slice (some ⟨g,0,none⟩) l.length cap) l.length (aj l)){i:Nat}(hi:i<l.length):
  w.cell? ⟨g,i*3,none⟩=some (.int .i64 (l.getD i az).k)/\w.cell? ⟨g,i*3+1,none⟩=some (.int .i64 (l.getD i az).l)/\w.cell? ⟨g,i*3+2,none⟩=some (.int .i64 (l.getD i az).r):=by
 rw[iI hi];have hg:=OE hi;exact⟨(h.cellAt _ (by omega)).trans hg.1,(h.cellAt _ (by omega)).trans hg.2.1,(h.cellAt _ (by omega)).trans hg.2.2⟩
theorem Sw.vcell(h:Sw w y T V s){g cap:Nat}(hv:y.vov=.slice (some ⟨g,0,none⟩) V.ow.length cap){i:Nat}(hi:i<V.ow.length):
  w.cell? ⟨y.v,6,none⟩=some (.slice (some ⟨g,0,none⟩) V.ow.length cap)/\w.cell? ⟨g,i*3,none⟩=some (.int .i64 (V.ow.getD i az).k)/\w.cell? ⟨g,i*3+1,none⟩=some (.int .i64 (V.ow.getD i az).l)/\w.cell? ⟨g,i*3+2,none⟩=some (.int .i64 (V.ow.getD i az).r):=by
 have ho:=h.fv.ow;rw[hv]at ho;exact⟨by rw[h.fv.c6,hv],aA ho hi⟩
theorem Sw.tcell(h:Sw w y T V s){g cap:Nat}(hv:y.tov=.slice (some ⟨g,0,none⟩) T.ow.length cap){i:Nat}(hi:i<T.ow.length):
  w.cell? ⟨y.t,6,none⟩=some (.slice (some ⟨g,0,none⟩) T.ow.length cap)/\w.cell? ⟨g,i*3,none⟩=some (.int .i64 (T.ow.getD i az).k)/\w.cell? ⟨g,i*3+1,none⟩=some (.int .i64 (T.ow.getD i az).l)/\w.cell? ⟨g,i*3+2,none⟩=some (.int .i64 (T.ow.getD i az).r):=by
 have ho:=h.ft.ow;rw[hv]at ho;exact⟨by rw[h.ft.c6,hv],aA ho hi⟩
theorem Sw.ocell(h:Sw w y T V s){O n cap:Nat}(hv:y.ov=.slice (some ⟨O,0,none⟩) n cap){i:Nat}(hi:i<s.ot.length):
  w.cell? ⟨O,i,none⟩=some (.int .i64 (eH (s.ot.getD i none)))/\w.frozen? ⟨O,i,none⟩=false:=by
 obtain⟨O',c',e',_,_,h1,h2⟩:=h.own (by intro e;rw[e]at hi;simp at hi);rw[hv]at e';have eL:O=O':=by injection e' with e1 _ _;injection e1 with e1;injection e1
 subst eL;exact⟨h1 i hi,h2 i⟩
theorem Sw.pcell(h:Sw w y T V s){L n cap:Nat}(hv:y.pv=.slice (some ⟨L,0,none⟩) n cap){i:Nat}(hi:i<s.pl.length):
  w.cell? ⟨L,i,none⟩=some (.bool (s.pl.getD i false))/\w.frozen? ⟨L,i,none⟩=false:=by
 obtain⟨O',c',e',_,_,h1,h2⟩:=h.plc (by intro e;rw[e]at hi;simp at hi);rw[hv]at e';have eL:L=O':=by injection e' with e1 _ _;injection e1 with e1;injection e1
 subst eL;exact⟨h1 i hi,h2 i⟩
end
def PI(V T:CF)(m:Nat)(s2:SS)(k vr count:Nat):Bool × SS:=if (T.ow.getD k az).k=4 then wk V T m s2 k vr count else (false,s2)
theorem UI {V T:CF} {m:Nat} {s:SS} {k at_ count i:Nat} (h0:¬ wrap64 (s.st-1)<0) (h1:dJ V.ow at_=some i) (h2:s.ot.getD i none=none) (h3:¬ ((T.ow.getD k az).k≠4/\(V.ow.getD i az).k=4))
  {r:Bool × SS} (hr:r=DA (xq (wk V T m) V T) T { s with st:=wrap64 (s.st-1),ot:=s.ot.set i (some k),un:=s.un-1 } k (V.ow.getD i az).r count) :
  wk V T (m+1) s k at_ count=if r.1=true then (true,r.2) else if (PI V T m r.2 k (V.ow.getD i az).r count).1=true then (true,(PI V T m r.2 k (V.ow.getD i az).r count).2) else (false,{ (PI V T m r.2 k (V.ow.getD i az).r count).2 with ot:=(PI V T m r.2 k (V.ow.getD i az).r count).2.ot.set i none,un:=(PI V T m r.2 k (V.ow.getD i az).r count).2.un+1 }):=by
 simp only[wk];rw[if_neg h0,h1];dsimp only;rw[if_neg (by rw[h2];simp),if_neg h3,<-hr];obtain⟨b,s2⟩:=r;cases b with
 |true=>rfl
 |false =>
  dsimp only;rw[show(if (T.ow.getD k az).k=4 then wk V T m s2 k (V.ow.getD i az).r count else (false,s2))=PI V T m s2 k (V.ow.getD i az).r count from rfl];obtain⟨b3,s3⟩:=PI V T m s2 k (V.ow.getD i az).r count;cases b3 <;> rfl
theorem JY{y:py}{T V:CF}(hT:Rm T)(Yl:V.ow.length<=1000000){m:Nat}(hW:WkC y T V m (wk V T m))(hP:PlC y T V m (xq (wk V T m) V T)):WkC y T V (m+1) (wk V T (m+1)):=by
 intro w s k at_ count h hw hm hk hc;obtain⟨gy,hkp⟩:=E7 hk;have hkT:k<T.ow.length:=by rw[<-hw.lp];exact gy
 obtain⟨tg,tcap,m8,V3,V4⟩:=aC h.ft.ow hkT;have hq8:=h.cs;have ap1:=h.frz 54;have cN:=h.setSt (wrap64 (s.st-1));have hc8:=cN.cs;have DV:=cN.cv;have bC:=ab cN;have I2:=cN.c1;have DU:=cN.co;obtain⟨IU,Yk,_,_⟩:=cN.tcell m8 hkT;obtain⟨w1,qx⟩:∃w1,w1=w.setCell ⟨y.q,54,none⟩ (.int .i64 (wrap64 (s.st-1))):=⟨_,rfl⟩;have v7:Hid (am y.fp w y.fp w1):=ab (by rw[qx];exact(am.refl y.fp w).setCell (zq0 (Sw.memQ y)) _);have HB:=ab (cj at_ cN.fv);rw[<-qx]at bC hc8 DV I2 DU IU Yk HB;have PX:=ab qx;obtain⟨tk0,Y6⟩:∃tk0,tk0=(T.ow.getD k az).k:=⟨_,rfl⟩;rw[<-Y6]at Yk;have ve:=ab Y6;have HS:=ab h;have CG:=ab hw;have HK:=ab hk;have HC:=ab hc;have HM:=ab hm;have U0:=ab hP;have HWC:=ab hW;have HTO:=ab m8;clear h hw hm hk hc hP hW hkp cN Y6 m8 qx;by_cases pO:wrap64 (s.st-1)<0
 .have hn':decide (wrap64 (s.st-1)<0)=true:=by simpa using pO
  have HE:Hid (wk V T (m+1) s k at_ count=(false,{ s with st:=wrap64 (s.st-1) })):=ab (by simp only[wk];rw[if_pos pO]);rw[uh PX]at hc8 bC v7;clear pO DV I2 DU IU Yk HB;go_enter func207,ntmps207;go_wp2_with fail
  go_ret;rw[uh HE];exact⟨rfl,uh bC,uh v7⟩
 .have hn':decide (wrap64 (s.st-1)<0)=false:=by simpa using pO
  cases po:dJ V.ow at_ with
  |none =>
   have HE:Hid (wk V T (m+1) s k at_ count=(false,{ s with st:=wrap64 (s.st-1) })):=ab (by simp only[wk];rw[if_neg pO,po]);rw[po]at HB;rw[uh PX]at hc8 bC v7 DV HB;clear pO I2 DU IU Yk po;go_enter func207,ntmps207;go_wp2_with fail
   refine(uh HB).mono ?_;rintro e w2 ⟨rfl,rfl⟩;rw[show eH none=(-1:Int) from rfl];go_wp2_with fail
   go_ret;rw[uh HE];exact⟨rfl,uh bC,uh v7⟩
  |some i =>
   obtain⟨hiV,kG⟩:=jr po;have VM:i<s.ot.length:=(by rw[(uh CG).lo];exact hiV);obtain⟨vg,vcap,Eo,NE,Jr⟩:=aC (uh bC).fv.ow hiV;obtain⟨O,ocap,dB,SN,SM,_,_⟩:=(uh bC).own (by intro e;have e2:s.ot=[]:=e;rw[e2]at VM;simp at VM);have Bq:y.ov=.slice (some ⟨O,0,none⟩) s.ot.length ocap:=dB;have anO:ocap<=9223372036854775807:=(by unfold maxLen at SM;omega);have anP:s.ot.length<=ocap:=SN;obtain⟨ho1,YV⟩:=(uh bC).ocell Bq (i:=i) VM;rw[Bq]at DU;have SK:w1.cell? ⟨O,i,none⟩=some (.int .i64 (eH (s.ot.getD i none))):=ho1;obtain⟨oi,hoi⟩:∃oi,oi=s.ot.getD i none:=⟨_,rfl⟩;rw[<-hoi]at SK;have aeq:=lW oi;obtain⟨hV6,hVk,_,hVr⟩:=(uh bC).vcell Eo hiV;obtain⟨vk,Y8⟩:∃vk,vk=(V.ow.getD i az).k:=⟨_,rfl⟩;obtain⟨vr,hvr⟩:∃vr,vr=(V.ow.getD i az).r:=⟨_,rfl⟩;rw[<-Y8]at hVk;rw[<-hvr]at hVr;rw[po]at HB;have kK:=ab po;have HOI:=ab hoi;have HVK:=ab Y8;have HVR:=ab hvr;have J4:=ab Bq;have HVO:=ab Eo;clear dB Bq ho1 hoi Y8 hvr po Eo SM SN kG;cases hos:oi.isSome with
   |true =>
    have HE:Hid (wk V T (m+1) s k at_ count=(false,{ s with st:=wrap64 (s.st-1) })):=ab (by
     simp only[wk];rw[if_neg pO,uh kK];dsimp only;rw[if_pos (by rw[<-uh HOI];intro e;rw[e]at hos;cases hos)])
    rw[hos]at aeq;rw[uh PX]at hc8 bC v7 DV HB DU SK I2 IU Yk;clear pO hV6 hVk hVr YV;go_enter func207,ntmps207;go_wp2_with fail
    refine(uh HB).mono ?_;rintro e w2 ⟨rfl,rfl⟩;rw[show eH (some i)=(i:Int) from rfl];go_wp2_with fail
    go_ret;rw[uh HE];exact⟨rfl,uh bC,uh v7⟩
   |false =>
    have hoN:oi=none:=(by cases oi with|none=>rfl|some _=>cases hos);rw[hos]at aeq;by_cases hkk:tk0≠4/\vk=4
    .have HE:Hid (wk V T (m+1) s k at_ count=(false,{ s with st:=wrap64 (s.st-1) })):=ab (by
      simp only[wk];rw[if_neg pO,uh kK];dsimp only;rw[if_neg (by rw[<-uh HOI,hoN];simp),<-uh ve,<-uh HVK,if_pos hkk])
     have ht4:((tk0:Int)==4)=false:=(by rw[beq_eq_false_iff_ne];omega);have yF:((vk:Int)==4)=true:=(by rw[beq_iff_eq];omega);rw[uh PX]at hc8 bC v7 DV HB DU SK I2 IU Yk hV6 hVk;clear pO hVr YV hkk hoN;go_enter func207,ntmps207;go_wp2_with fail
     refine(uh HB).mono ?_;rintro e w2 ⟨rfl,rfl⟩;rw[show eH (some i)=(i:Int) from rfl];go_wp2_with fail
     go_ret;rw[uh HE];exact⟨rfl,uh bC,uh v7⟩
    .have f7:(qm s).Perm (i::qm { s with st:=wrap64 (s.st-1),ot:=s.ot.set i (some k),un:=s.un-1 }):=AU VM (by rw[<-uh HOI];exact hoN) rfl;have jN:=f7.length_eq;rw[length_cons]at jN;have aqM:1<=s.un:=(by have:=(uh CG).un;omega);have aks:s.un<=1000000:=by
      have h1:=(uh CG).un;have h2:(qm s).length<=s.ot.length:=by
       unfold qm;have:=length_filter_le (λi=>(s.ot.getD i none).isNone) (range s.ot.length);simpa using this
      have h3:=(uh CG).lo;omega
     have adD:((s.un-1:Nat):Int)=(s.un:Int)-1:=by omega
     -- the worlds behind the stores
     have ce:=(uh bC).setO (i:=i) (o:=some k) (uh J4);rw[show eH (some k)=(k:Int) from rfl]at ce;have aji:=ce.cu;have aju:=ce.frz 52;have dP:=ce.setUn (s.un-1);rw[adD]at dP;have ajj:=dP.cv;obtain⟨ai1,_,_,adk⟩:=dP.vcell (uh HVO) hiV;rw[<-uh HVR]at adk;have sm:Hid (am y.fp w y.fp ((w1.setCell ⟨O,i,none⟩ (.int .i64 (k:Int))).setCell ⟨y.q,52,none⟩ (.int .i64 ((s.un:Int)-1)))):=ab (((uh v7).setCell (zq0 (Sw.memO (uh J4))) _).setCell (zq0 (Sw.memQ y)) _);have S5:Wf V T { s with st:=wrap64 (s.st-1),ot:=s.ot.set i (some k),un:=s.un-1 }:=by
      refine⟨by simpa using (uh CG).lo,(uh CG).lp,(uh CG).lb,?_⟩;have h4:=(uh CG).un;show s.un-1=_;omega
     have vD:({ s with st:=wrap64 (s.st-1),ot:=s.ot.set i (some k),un:=s.un-1 }:SS).un<m:=by
      have:=uh HM;show s.un-1<m;omega
     have QB:=ab (Rx (at_:=vr) hT (uh U0) (zh hT (Cu hT m)) dP S5 vD (uh HK) (uh HC));have abB:=fun {b:Bool} {s':SS} (hr:DA (xq (wk V T m) V T) T { s with st:=wrap64 (s.st-1),ot:=s.ot.set i (some k),un:=s.un-1 } k vr count=(b,s'))=>LQ hT (zh hT (Cu hT m)) S5 (uh HK) (uh HC) hr
     obtain⟨r,hr⟩:∃r,r=DA (xq (wk V T m) V T) T { s with st:=wrap64 (s.st-1),ot:=s.ot.set i (some k),un:=s.un-1 } k vr count:=⟨_,rfl⟩;have HE:=ab (UI (m:=m) (count:=count) pO (uh kK) (by rw[<-uh HOI];exact hoN) (by rw[<-uh ve,<-uh HVK];exact hkk) (r:=r) (by rw[<-uh HVR];exact hr));rw[<-uh HVR]at HE;rw[<-hr]at QB;have aY:r.1=false->r.2={ s with st:=r.2.st,ot:=s.ot.set i (some k),un:=s.un-1 }:=λhb=>(abB (b:=r.1) (s':=r.2) hr.symm).1 hb;have kj:=ab aY;have QO:=ab S5;have Fj:=ab vD;clear abB hr aY S5 vD ce dP f7 jN;have ht4:((tk0:Int)==4)=decide (tk0=4):=(by rw[Bool.eq_iff_iff,beq_iff_eq,decide_eq_true_eq];omega);have aeb:tk0=4\/(vk:Int)≠4:=(by omega);rw[uh PX]at hc8 sm DV HB DU SK I2 IU Yk hV6 hVk YV aji aju ajj ai1 adk QB;have HKK:=ab aeb;have iy:decide ((i:Int)<0)=false:=(by simp);clear pO hkk aeb hVr hoN;cases DY:decide (tk0=4) with
     |true =>
      rw[DY]at ht4;go_enter func207,ntmps207;go_wp2_with fail
      refine(uh HB).mono ?_;rintro e w2 ⟨rfl,rfl⟩;rw[show eH (some i)=(i:Int) from rfl];go_wp2_with fail
      refine(uh QB).mono ?_;rintro e w4 ⟨rfl,dA,Yj⟩;obtain⟨b4,s4⟩:=r;cases b4 with
      |true =>
       have dW:=ab dA;have HT4:=ab ((uh sm).trans Yj);clear dA Yj;go_wp2_with fail
       go_ret;rw[uh HE];exact⟨rfl,uh dW,uh HT4⟩
      |false =>
       have eG:=uh kj rfl;dsimp only at dA eG;have apT:=dA.cv;obtain⟨apF,_,_,ai4⟩:=dA.vcell (uh HVO) hiV;rw[<-uh HVR]at ai4;have Zb:Wf V T s4:=(by rw[eG];exact⟨(uh QO).lo,(uh QO).lp,(uh QO).lb,(uh QO).un⟩);have aeT:s4.un=s.un-1:=(by rw[eG]);have aez:s4.ot=s.ot.set i (some k):=(by rw[eG]);have NC:uP s4=uP s:=(by rw[eG];rfl);have HWK:=ab (uh HWC w4 s4 k vr count dA Zb (by have:=uh Fj;have e:({ s with st:=wrap64 (s.st-1),ot:=s.ot.set i (some k),un:=s.un-1 }:SS).un=s.un-1:=rfl;omega) (by rw[NC];exact uh HK) (by rw[NC];exact uh HC));have acd:=ab (Cu (V:=V) hT m s4 k vr count Zb (by rw[NC];exact uh HK) (by rw[NC];exact uh HC) _ _ rfl);have HT4:=ab ((uh sm).trans Yj);have HQ:Hid (PI V T m s4 k vr count=wk V T m s4 k vr count):=ab (by unfold PI;rw[<-uh ve,if_pos (by simpa using DY)]);have HUN:=ab aeT;have HOT:=ab aez;clear dA Yj eG Zb aeT aez NC;go_wp2_with fail
       refine(uh HWK).mono ?_;rintro e w5 ⟨rfl,ep,IT⟩;obtain⟨q,hq⟩:∃q,q=wk V T m s4 k vr count:=⟨_,rfl⟩;rw[<-hq]at ep acd HQ ⊢;obtain⟨b5,s5⟩:=q;cases b5 with
       |true =>
        have gN:=ab ep;have J7:=ab ((uh HT4).trans IT);have HQ5:=ab hq;clear ep IT hq;go_wp2_with fail
        go_ret;rw[uh HE];dsimp only;rw[uh HQ];exact⟨rfl,uh gN,uh J7⟩
       |false =>
        have f9:=(uh acd).1 rfl;dsimp only at ep f9;have J7:=ab ((uh HT4).trans IT);clear IT hq;have Y7:s5.un=s.un-1:=(by rw[f9];exact uh HUN);have Nr:s5.ot=s.ot.set i (some k):=(by rw[f9];exact uh HOT);have D9:s5.ot.length=s.ot.length:=(by rw[Nr];simp);have Yz:=ep.co;rw[uh J4]at Yz;obtain⟨ho5,aj0⟩:=ep.ocell (uh J4) (i:=i) (by rw[D9];exact VM);have kI:=ep.setO (i:=i) (o:=none) (by rw[D9];exact uh J4);rw[show eH none=(-1:Int) from rfl]at kI;have YA:=kI.cu;have hu6:(({ s5 with ot:=s5.ot.set i none }:SS).un:Int)=(s.un:Int)-1:=by
         have:({ s5 with ot:=s5.ot.set i none }:SS).un=s5.un:=rfl;omega
        rw[hu6]at YA;have ajv:=kI.frz 52;have tA:=kI.setUn (s5.un+1);rw[show((s5.un+1:Nat):Int)=(s.un:Int) by omega]at tA;have U3:=ab tA;have HT7:Hid (am y.fp w y.fp ((w5.setCell ⟨O,i,none⟩ (.int .i64 (-1))).setCell ⟨y.q,52,none⟩ (.int .i64 (s.un:Int)))):=ab (((uh J7).setCell (zq0 (Sw.memO (uh J4))) _).setCell (zq0 (Sw.memQ y)) _);clear ep f9 Y7 Nr D9 kI tA hu6;go_wp2_with fail
        go_ret;rw[uh HE];dsimp only;rw[uh HQ];exact⟨rfl,uh U3,uh HT7⟩
     |false =>
      rw[DY]at ht4;have yF:((vk:Int)==4)=false:=by
       rw[beq_eq_false_iff_ne];rcases uh HKK with h|h
       .rw[h]at DY;simp at DY
       .exact h
      go_enter func207,ntmps207;go_wp2_with fail
      refine(uh HB).mono ?_;rintro e w2 ⟨rfl,rfl⟩;rw[show eH (some i)=(i:Int) from rfl];go_wp2_with fail
      refine(uh QB).mono ?_;rintro e w5 ⟨rfl,ep,Yj⟩;obtain⟨b4,s5⟩:=r;have J7:=ab ((uh sm).trans Yj);clear Yj;cases b4 with
      |true =>
       have dW:=ab ep;clear ep;go_wp2_with fail
       go_ret;rw[uh HE];exact⟨rfl,uh dW,uh J7⟩
      |false =>
       have f9:=uh kj rfl;dsimp only at ep f9;have HQ:Hid (PI V T m s5 k vr count=(false,s5)):=ab (by unfold PI;rw[<-uh ve,if_neg (by simpa using DY)]);have Y7:s5.un=s.un-1:=(by rw[f9]);have Nr:s5.ot=s.ot.set i (some k):=(by rw[f9]);have D9:s5.ot.length=s.ot.length:=(by rw[Nr];simp);have Yz:=ep.co;rw[uh J4]at Yz;obtain⟨ho5,aj0⟩:=ep.ocell (uh J4) (i:=i) (by rw[D9];exact VM);have kI:=ep.setO (i:=i) (o:=none) (by rw[D9];exact uh J4);rw[show eH none=(-1:Int) from rfl]at kI;have YA:=kI.cu;have hu6:(({ s5 with ot:=s5.ot.set i none }:SS).un:Int)=(s.un:Int)-1:=by
        have:({ s5 with ot:=s5.ot.set i none }:SS).un=s5.un:=rfl;omega
       rw[hu6]at YA;have ajv:=kI.frz 52;have tA:=kI.setUn (s5.un+1);rw[show((s5.un+1:Nat):Int)=(s.un:Int) by omega]at tA;have U3:=ab tA;have HT7:Hid (am y.fp w y.fp ((w5.setCell ⟨O,i,none⟩ (.int .i64 (-1))).setCell ⟨y.q,52,none⟩ (.int .i64 (s.un:Int)))):=ab (((uh J7).setCell (zq0 (Sw.memO (uh J4))) _).setCell (zq0 (Sw.memQ y)) _);clear ep f9 Y7 Nr D9 kI tA hu6;go_wp2_with fail
       go_ret;rw[uh HE];dsimp only;rw[uh HQ];exact⟨rfl,uh U3,uh HT7⟩
def Kb(V:CF)(s:SS)(p:Pr):Bool:=p.l != p.r&&(match s.b p.l,s.b p.r with|some a,some b=>ew V a b|_,_=>true)
theorem QZ{V T:CF}{s:SS}(h:∀j,(hj:j<T.ap.length)->Kb V s T.ap[j]=true):Ka V T s=true:=by
 show T.ap.all (Kb V s)=true;rw[all_eq_true];intro p hp;obtain⟨j,hj,rfl⟩:=mem_iff_getElem.1 hp;exact h j hj
theorem K1{V T:CF}{s:SS}{j:Nat}(hj:j<T.ap.length)(h:Kb V s T.ap[j]=false):Ka V T s=false:=by
 show T.ap.all (Kb V s)=false;rw[all_eq_false];exact⟨_,getElem_mem hj,by rw[h];simp⟩
def RmA(T:CF):Prop:=∀p∈T.ap,p.l<24/\p.r<24
theorem Sw.alloc{w:World}{y:py}{T V:CF}{s:SS}(h:Sw w y T V s)(o:Obj):Sw (w.alloc o) y T V s:=h.of_eq (λ_ hk=>heap_alloc _ _ _ hk)
theorem Sw.drewN{w:World}{y:py}{T V:CF}{s:SS}(h:Sw w y T V s)(n:Nat):Sw (w.drewN n) y T V s:=h.of_eq (λ_ _=>by simp)
theorem EE(w:World)(a b c:Value)(T:TypeId):(w.alloc (.cells #[a,b,c] T)).cell? ⟨w.heap.size,0,none⟩=some a/\(w.alloc (.cells #[a,b,c] T)).cell? ⟨w.heap.size,1,none⟩=some b/\(w.alloc (.cells #[a,b,c] T)).cell? ⟨w.heap.size,2,none⟩=some c:=by
 have h:=λj=>cell_of_row (w.alloc (.cells #[a,b,c] T)) w.heap.size j #[a,b,c] T (0,0) (heap_alloc_new w _);exact⟨h 0,h 1,h 2⟩
theorem BT(o:Option Nat):(eH o==(-1:Int))=o.isNone:=by
 cases o with
 |none=>rfl
 |some n=>simp[eH]
theorem Ip{y:py}{T V:CF}(hA:RmA T){w:World}{s:SS}(h:Sw w y T V s):
  Calls prog 205 #[.pointer (some ⟨y.q,0,none⟩)] w λe w'=>e=.returned (.bool (Ka V T s))/\Below w.heap.size w w':=by
 obtain⟨ao,cap,eS,hm,wV,hc⟩:=bn h.ft.ap;have h5:=h.ft.c5;rw[eS]at h5;have SV:=h.c1;have HC:=ab hc;have HS:=ab h;clear hc eS h;unfold maxLen at hm;go_enter func205,ntmps205;go_wp2_with fail
 go_loopw [15] (λi wr=>∃k:Nat,k<=T.ap.length/\i=.int .i64 k/\Hid (∀j,(hj:j<T.ap.length)->j<k->Kb V s T.ap[j]=true)/\Below w.heap.size w wr) (λi _=>T.ap.length-(intOf i).toNat)
 case atStart=>exact⟨0,zq5 _,rfl,λ_ _ h=>absurd h (by omega),Below.refl _ _⟩
 case round =>
  obtain⟨k,hk,rfl,cP,bP⟩:=hrel;by_cases ar:k<T.ap.length
  .obtain⟨g,jm,aq⟩:=uh HC (by intro h;rw[h]at ar;simp at ar);subst jm;obtain⟨Aa,rK,vI⟩:=aq k ar;have c0:=(bP.cell (block_lt_of_cell? w _ Aa)).trans Aa;have c1:=(bP.cell (block_lt_of_cell? w _ rK)).trans rK;have c2:=(bP.cell (block_lt_of_cell? w _ vI)).trans vI;clear aq Aa rK vI;obtain⟨tp,Ej⟩:=hA _ (getElem_mem ar);obtain⟨p,hp⟩:∃p,p=T.ap[k]:=⟨_,rfl⟩;rw[<-hp]at c0 c1 c2 tp Ej;have HP:=ab hp;have HSr:=ab ((uh HS).below bP);have hZ:=(uh HSr).alloc (.cells #[Value.int .i64 p.k,.int .i64 p.l,.int .i64 p.r] 182);have Ji:=hZ.cb tp;have hqr:=hZ.cb Ej;have hqv:=hZ.cv;have n0:(wr.alloc (.cells #[Value.int .i64 p.k,.int .i64 p.l,.int .i64 p.r] 182)).cell? ⟨wr.heap.size,1,none⟩=some (.int .i64 p.l):=(EE wr _ _ _ _).2.1;have n1:(wr.alloc (.cells #[Value.int .i64 p.k,.int .i64 p.l,.int .i64 p.r] 182)).cell? ⟨wr.heap.size,2,none⟩=some (.int .i64 p.r):=(EE wr _ _ _ _).2.2;have WI:=ab hZ.fv;obtain⟨ba,CR⟩:∃ba,ba=s.b p.l:=⟨_,rfl⟩;obtain⟨bb,rH⟩:∃bb,bb=s.b p.r:=⟨_,rfl⟩;rw[<-CR]at Ji;rw[<-rH]at hqr;have HBA:=ab CR;have Kx:=ab rH;have HB:=ab bP;have PM:=ab (bP.alloc bP.size (.cells #[Value.int .i64 p.k,.int .i64 p.l,.int .i64 p.r] 182));clear CR rH hp bP hZ;by_cases mH:p.l=p.r
   .have he:((p.l:Int)==(p.r:Int))=true:=(by rw[aU];simpa using mH);have HE:Hid (Ka V T s=false):=ab (K1 ar (by rw[<-uh HP];unfold Kb;rw[mH];simp));clear mH;go_wp2_with fail
    go_ret;exact⟨by rw[uh HE];rfl,uh PM⟩
   .have he:((p.l:Int)==(p.r:Int))=false:=(by rw[aU];simpa using mH);have HLR:=ab mH;clear mH;have HRo:Hid (∀n,Kb V s p=true->(∃k_1:Nat,k_1<=T.ap.length/\Value.int IntKind.i64 ((k:Int)+1)=Value.int IntKind.i64 k_1/\Hid (∀(j:Nat) (hj:j<T.ap.length),j<k_1->Kb V s T.ap[j]=true)/\Below w.heap.size w ((wr.alloc (Obj.cells #[Value.int IntKind.i64 p.k,Value.int IntKind.i64 p.l,Value.int IntKind.i64 p.r] 182)).drewN n))/\T.ap.length-(intOf (Value.int IntKind.i64 ((k:Int)+1))).toNat<T.ap.length-(intOf (Value.int IntKind.i64 (k:Int))).toNat):=ab (λn h =>
     ⟨⟨k+1,by omega,by go_num,ab (λj hj CU=>by
      by_cases e:j=k
      .subst e;rw[<-uh HP];exact h
      .exact cP.out j hj (by omega)),⟨(uh PM).os,(uh PM).tape,(uh PM).output,by simpa using (uh PM).size,λk hk=>by simpa using (uh PM).block k hk⟩⟩,by simp[intOf];omega⟩)
    have Jb:=BT ba;have Ee:=BT bb;cases hia:ba.isNone with
    |true =>
     rw[hia]at Jb;go_wp2_with fail
     go_quiet (fail)
     go_wp2_with fail
     go_quiet (fail)
     go_wp2_with fail
     refine uh HRo _ ?_;unfold Kb;rw[<-uh HBA,<-uh Kx];cases ba with
     |none=>simpa using uh HLR
     |some _=>cases hia
    |false =>
     rw[hia]at Jb;cases VL:bb.isNone with
     |true =>
      rw[VL]at Ee;go_wp2_with fail
      go_quiet (fail)
      go_wp2_with fail
      go_quiet (fail)
      go_wp2_with fail
      refine uh HRo _ ?_;unfold Kb;rw[<-uh HBA,<-uh Kx];cases bb with
      |none=>cases ba <;> simpa using uh HLR
      |some _=>cases VL
     |false =>
      rw[VL]at Ee;cases ba with
      |none=>cases hia
      |some a =>
       cases bb with
       |none=>cases VL
       |some b =>
        rw[show eH (some a)=(a:Int) from rfl]at Ji Jb;rw[show eH (some b)=(b:Int) from rfl]at hqr Ee;have HAp:Hid (Kb V s p=ew V a b):=ab (by
         unfold Kb;rw[<-uh HBA,<-uh Kx];have:(p.l != p.r)=true:=(by rw[bne_iff_ne];exact uh HLR);rw[this];rfl)
        go_wp2_with fail
        go_quiet (fail)
        go_wp2_with fail
        go_quiet (fail)
        go_wp2_with fail
        refine(jW a b ((uh WI).drewN _)).mono ?_;rintro e w3 ⟨rfl,bF⟩;have mN:Hid (Below w.heap.size w w3):=ab (by
         have hz:=uh PM;have hs:=bF.size;have ce:=hz.size;refine⟨bF.os.trans hz.os,bF.tape.trans hz.tape,bF.output.trans hz.output,?_,λk hk=>?_⟩
         .simp only[heap_drewN]at hs;omega
         .refine(bF.block k (by simp only[heap_drewN];omega)).trans ?_;rw[heap_drewN];exact hz.block k hk)
        clear bF;cases vx:ew V a b with
        |true =>
         go_wp2_with fail
         go_roundw
         case rel =>
          refine⟨k+1,by omega,by go_num,ab (λj hj CU=>?_),uh mN⟩;by_cases e:j=k
          .subst e;rw[<-uh HP,uh HAp];exact vx
          .exact cP.out j hj (by omega)
         case measure=>simp[intOf];omega
        |false =>
         have HE:Hid (Ka V T s=false):=ab (K1 ar (by rw[<-uh HP,uh HAp];exact vx));go_wp2_with fail
         go_ret;exact⟨by rw[uh HE];rfl,uh mN⟩
  .have hd:decide ((k:Int)<(T.ap.length:Int))=false:=(by simp;omega);have HE:Hid (Ka V T s=true):=ab (QZ (λj hj=>cP.out j hj (by omega)));go_wp2_with fail
   go_ret;exact⟨by rw[uh HE];rfl,bP⟩
theorem EP{n k:Nat}(h:k<n):(range n).drop k=k::(range n).drop (k+1):=by
 have hl:k<(range n).length:=by simpa using h
 rw[drop_eq_getElem_cons hl];simp
theorem ZG(o:Option Nat):decide (eH o<(0:Int))=o.isNone:=by
 cases o with
 |none=>rfl
 |some n=>exact decide_eq_false (by show ¬ ((n:Int)<0);omega)
theorem Ds{y:py}{T V:CF}(hT:Rm T){w:World}{s:SS}(h:Sw w y T V s)(Km:s.pl.length=T.ow.length):
  Calls prog 206 #[.pointer (some ⟨y.q,0,none⟩)] w λe w'=>e=.returned (.int .i64 (eH (Xx T s)))/\∃n,w'=w.drewN n:=by
 have HS:=ab h;clear h;have Yx:∃ao cap,y.pv=.slice ao s.pl.length cap/\cap<=9223372036854775807/\s.pl.length<=cap:=by
  rcases(uh HS).pl.2 with⟨h1,h0⟩|⟨O,cap,cur,hv,_,_,wV,hm,_⟩
  .exact⟨none,0,by rw[h1,h0],by omega,by omega⟩
  .exact⟨_,cap,hv,by unfold maxLen at hm;omega,wV⟩
 obtain⟨ao,pcap,dL,hpm,hpn⟩:=Yx;go_enter func206,ntmps206;go_wp2_with fail
 go_loopw [3,4] (λo i wr=>∃(k:Nat) (op:Option Nat),k<=s.pl.length/\o=.int .i64 (eH op)/\i=.int .i64 k/\Hid (PY T s ((range s.pl.length).drop k) op=Xx T s)/\∃n,wr=w.drewN n) (λ_ i _=>s.pl.length-(intOf i).toNat)
 case atStart=>exact⟨0,none,zq5 _,rfl,rfl,ab rfl,0,rfl⟩
 case round =>
  obtain⟨k,op,hk,rfl,rfl,qR,n,rfl⟩:=hrel;have Sl:=uh HS;have VG:=Sl.cp;rw[dL]at VG;have u7:=ab dL;by_cases ar:k<s.pl.length
  .obtain⟨L,lcap,hL,-,-,-,-⟩:=Sl.plc (by intro e;rw[e]at ar;simp at ar);obtain⟨hpk,-⟩:=Sl.pcell hL ar;have hkT:k<T.ow.length:=(by rw[<-Km];exact ar);obtain⟨tg,tcap,m8,V3,V4⟩:=aC Sl.ft.ow hkT;obtain⟨IU,-,yw,-⟩:=Sl.tcell m8 hkT;have P8:=Sl.c1;obtain⟨left,iA⟩:∃left,left=(T.ow.getD k az).l:=⟨_,rfl⟩;have tp:left<24:=(by rw[iA];exact(hT.at k).1);rw[<-iA]at yw;have I1:=Sl.cb tp;obtain⟨bl,bP⟩:∃bl,bl=s.b left:=⟨_,rfl⟩;rw[<-bP]at I1;rw[hL]at dL;have jm:ao=some ⟨L,0,none⟩/\pcap=lcap:=(by injection dL with e1 _ e2;exact⟨e1.symm,e2.symm⟩);rw[jm.1,jm.2]at VG;have aqy:lcap<=9223372036854775807:=(by omega);have aqz:s.pl.length<=lcap:=(by omega);obtain⟨pb,hpb⟩:∃pb,pb=s.pl.getD k false:=⟨_,rfl⟩;rw[<-hpb]at hpk;have aE:PY T s ((range s.pl.length).drop k) op=if pb=true then PY T s ((range s.pl.length).drop (k+1)) op else if bl.isSome=true then some k else PY T s ((range s.pl.length).drop (k+1)) (if op.isSome=true then op else some k):=by
    rw[EP ar];simp only[PY];rw[<-hpb,<-iA,<-bP]
   rw[uh qR]at aE;have bA:=ab aE;have CB:=ab iA;have zF:=ab bP;have J5:=ab hpb;have HTO:=ab m8;have HL:=ab hL;have jg:=lW bl;have nE:=ZG op;clear aE iA bP hpb m8 hL dL Sl jm qR;cases pb with
   |true =>
    go_wp2_with fail
    go_roundw
    case rel=>exact⟨k+1,op,by omega,rfl,by go_num,ab ((uh bA).symm),n,rfl⟩
    case measure=>simp[intOf];omega
   |false =>
    cases MU:bl.isSome with
    |true =>
     rw[MU]at jg;go_wp2_with fail
     go_quiet (fail)
     go_wp2_with fail
     go_ret;refine⟨?_,n+_,drewN_drewN _ _ _⟩;rw[uh bA,MU];rfl
    |false =>
     rw[MU]at jg;cases dV:op.isNone with
     |true =>
      rw[dV]at nE;go_wp2_with fail
      go_quiet (fail)
      go_wp2_with fail
      go_roundw
      case rel =>
       refine⟨k+1,some k,by omega,rfl,by go_num,ab ?_,_,rfl⟩;have:=uh bA;rw[MU]at this;simp only[Bool.false_eq_true,if_false]at this;rw[this];cases op with
       |none=>rfl
       |some _=>cases dV
      case measure=>simp[intOf];omega
     |false =>
      rw[dV]at nE;go_wp2_with fail
      go_quiet (fail)
      go_wp2_with fail
      go_roundw
      case rel =>
       refine⟨k+1,op,by omega,rfl,by go_num,ab ?_,_,rfl⟩;have:=uh bA;rw[MU]at this;simp only[Bool.false_eq_true,if_false]at this;rw[this];cases op with
       |none=>cases dV
       |some _=>rfl
      case measure=>simp[intOf];omega
  .have hd:decide ((k:Int)<(s.pl.length:Int))=false:=(by simp;omega);have HE:Hid (Xx T s=op):=ab (by
    rw[<-uh qR,drop_of_length_le (by simp;omega)];rfl)
   clear Sl dL qR;go_wp2_with fail
   go_ret;exact⟨by rw[uh HE];rfl,n,rfl⟩
theorem OC{W:SS->Nat->Nat->Nat->Bool × SS}{k left count:Nat}{l:List Pr}{i:Nat}(hi:i<l.length){s:SS}{r:Bool × SS}(hr:r=W { s with bd:=s.bd.set left (some (l.getD i az).l) } k (l.getD i az).l count):
  EM W k left count (l.drop i) s=if r.1=true then (true,r.2) else EM W k left count (l.drop (i+1)) r.2:=by
 rw[drop_eq_getElem_cons hi];have e:l[i]=l.getD i az:=by simp[hi]
 rw[e];simp only[EM];rw[<-hr];obtain⟨b,s'⟩:=r;cases b <;> rfl
theorem tY{y:py}{T V:CF}(hT:Rm T)(hA:RmA T)(yw:T.ow.length<=1000000)(Yl:V.ow.length<=1000000){m:Nat}(hW:WkC y T V m (wk V T m)):PlC y T V m (xq (wk V T m) V T):=by
 intro w s count h hw hm hc;have de:count<=T.ow.length:=by omega
 have P8:=h.c1;have hcu:=h.cu;have IU:=h.ft.c6;have Yx:∃ao cap,y.tov=.slice ao T.ow.length cap/\cap<=9223372036854775807/\T.ow.length<=cap:=by
  obtain⟨ao,cap,hv,hm,hn,_⟩:=bn h.ft.ow;exact⟨ao,cap,hv,by unfold maxLen at hm;omega,hn⟩
 obtain⟨tao,tcap,m8,V3,V4⟩:=Yx;rw[m8]at IU;have aks:s.un<=1000000:=by
  have h1:=hw.un;have h2:(qm s).length<=s.ot.length:=by
   unfold qm;have:=length_filter_le (λi=>(s.ot.getD i none).isNone) (range s.ot.length);simpa using this
  have h3:=hw.lo;omega
 have HS:=ab h;have CG:=ab hw;have HC:=ab hc;have HM:=ab hm;have HWC:=ab hW;have HTO:=ab m8;clear h hw hc hm hW m8;by_cases h0:T.ow.length=count
 .have hz:((T.ow.length:Int)-(count:Int)==0)=true:=by rw[beq_iff_eq];omega
  have HE:Hid (xq (wk V T m) V T s count=(decide (s.un=0)&&Ka V T s,s)):=ab (by unfold xq;rw[if_pos h0]);have HA:=ab (Ip hA (uh HS));clear h0;by_cases El:s.un=0
  .have hu:((s.un:Int)==0)=true:=(by rw[beq_iff_eq];omega);have HU:=ab El;clear El;go_enter func177,ntmps177;go_wp2_with fail
   refine(uh HA).mono ?_;rintro e w1 ⟨rfl,aO⟩;have cY:=ab aO;clear aO;go_wp2_with fail
   go_ret;rw[uh HE];exact⟨by rw[uh HU];simp,(uh HS).below (uh cY),am.ofBelow (uh cY)⟩
  .have hu:((s.un:Int)==0)=false:=(by rw[beq_eq_false_iff_ne];omega);have HU:Hid (decide (s.un=0)=false):=ab (by simpa using El);clear El;go_enter func177,ntmps177;go_wp2_with fail
   go_ret;rw[uh HE];exact⟨by rw[uh HU];rfl,uh HS,am.refl _ _⟩
 .have hz:((T.ow.length:Int)-(count:Int)==0)=false:=by rw[beq_eq_false_iff_ne];omega
  by_cases h1:s.un<T.ow.length-count
  .have hgt:decide ((s.un:Int)<(T.ow.length:Int)-(count:Int))=true:=(by rw[decide_eq_true_eq];omega);have HE:Hid (xq (wk V T m) V T s count=(false,s)):=ab (by unfold xq;rw[if_neg h0,if_pos h1]);clear h0 h1;go_enter func177,ntmps177;go_wp2_with fail
   go_ret;rw[uh HE];exact⟨rfl,uh HS,am.refl _ _⟩
  .have hgt:decide ((s.un:Int)<(T.ow.length:Int)-(count:Int))=false:=(by rw[decide_eq_false_iff_not];omega);have HCh:=ab (Ds hT (uh HS) (uh CG).lp);cases qR:Xx T s with
   |none =>
    have HE:Hid (xq (wk V T m) V T s count=(false,s)):=ab (by unfold xq;rw[if_neg h0,if_neg h1,qR]);rw[qR]at HCh;clear h0 h1 qR;go_enter func177,ntmps177;go_wp2_with fail
    refine(uh HCh).mono ?_;rintro e w1 ⟨rfl,n,rfl⟩;rw[show eH none=(-1:Int) from rfl];go_wp2_with fail
    go_ret;rw[uh HE];exact⟨rfl,(uh HS).drewN n,(am.refl _ _).drewN n⟩
   |some k =>
    have hk:=AC qR;have hkT:k<T.ow.length:=(by rw[<-(uh CG).lp];exact(E7 hk).1);obtain⟨tg,tcap2,NA,-,-⟩:=aC (uh HS).ft.ow hkT;have htt:tao=some ⟨tg,0,none⟩:=by
     have:=(uh HTO).symm.trans NA;injection this
    subst htt;obtain⟨-,-,ai0,-⟩:=(uh HS).tcell (uh HTO) hkT;obtain⟨left,iA⟩:∃left,left=(T.ow.getD k az).l:=⟨_,rfl⟩;have tp:left<24:=(by rw[iA];exact(hT.at k).1);rw[<-iA]at ai0;have I1:=(uh HS).cb tp;obtain⟨bl,bP⟩:∃bl,bl=s.b left:=⟨_,rfl⟩;rw[<-bP]at I1;have hk0:decide ((k:Int)<0)=false:=(by simp);rw[qR]at HCh;have HK:=ab hk;cases bl with
    |some a =>
     have HE:Hid (xq (wk V T m) V T s count=wk V T m s k a count):=ab (by
      unfold xq;rw[if_neg h0,if_neg h1,qR];dsimp only;rw[<-iA,<-bP])
     rw[show eH (some a)=(a:Int) from rfl]at I1;have Jb:((a:Int) != -1)=true:=lW (some a);clear h0 h1 qR iA bP hk NA;go_enter func177,ntmps177;go_wp2_with fail
     refine(uh HCh).mono ?_;rintro e w1 ⟨rfl,n,rfl⟩;rw[show eH (some k)=(k:Int) from rfl];go_wp2_with fail
     refine(uh HWC _ s k a count ((uh HS).drewN n) (uh CG) (uh HM) (uh HK) (uh HC)).mono ?_;rintro e w2 ⟨rfl,bK,hT2⟩;have bz:=ab bK;have mz:=ab (((am.refl y.fp w).drewN n).trans hT2);clear bK hT2;go_wp2_with fail
     go_ret;rw[uh HE];exact⟨rfl,uh bz,uh mz⟩
    |none =>
     have HE:Hid (xq (wk V T m) V T s count=EM (wk V T m) k left count V.ow s):=ab (by
      unfold xq;rw[if_neg h0,if_neg h1,qR];dsimp only;rw[<-iA,<-bP])
     rw[show eH none=(-1:Int) from rfl]at I1;have zF:=ab bP;clear h0 h1 qR iA bP hk NA;have I3:=(uh HS).cv;go_enter func177,ntmps177;go_wp2_with fail
     refine(uh HCh).mono ?_;rintro e w1 ⟨rfl,n,rfl⟩;rw[show eH (some k)=(k:Int) from rfl];have Bu:s.bd.set left none=s.bd:=by
      have:=iK s.bd left none;rwa [show s.bd.getD left none=none from (uh zF).symm]at this
     have HSf:=ab Bu;clear Bu;go_wp2_with fail
     go_loopw [9] (λi wr=>∃(j:Nat) (o:Option Nat) (st:Int),j<=V.ow.length/\i=.int .i64 j/\Hid (Sw wr y T V { s with bd:=s.bd.set left o,st:=st })/\Hid (EM (wk V T m) k left count (V.ow.drop j) { s with bd:=s.bd.set left o,st:=st }=EM (wk V T m) k left count V.ow s)/\Hid (am y.fp w y.fp wr)) (λi _=>V.ow.length-(intOf i).toNat)
     case atStart=>exact⟨0,none,s.st,zq5 _,rfl,ab (by rw[uh HSf];exact(uh HS).drewN n),ab (by rw[uh HSf];rfl),ab ((am.refl _ _).drewN n)⟩
     case round =>
      obtain⟨j,o,st,hj,rfl,IS,hpj,hTj⟩:=hrel;have apU:=(uh IS).cv;have hV6:=(uh IS).fv.c6;obtain⟨vao,vcap,Eo,aeV,Jr,-⟩:=bn (uh IS).fv.ow;have NE:vcap<=9223372036854775807:=(by unfold maxLen at aeV;omega);rw[Eo]at hV6;have HVO:=ab Eo;clear Eo aeV;by_cases ar:j<V.ow.length
      .have hd:decide ((j:Int)<(V.ow.length:Int))=true:=(by simp;omega);obtain⟨vg,vcap2,V6,-,-⟩:=aC (uh IS).fv.ow ar;have htt:vao=some ⟨vg,0,none⟩:=by
        have:=(uh HVO).symm.trans V6;injection this
       subst htt;clear V6;obtain⟨-,-,ai2,-⟩:=(uh IS).vcell (uh HVO) ar;obtain⟨vl,mu⟩:∃vl,vl=(V.ow.getD j az).l:=⟨_,rfl⟩;rw[<-mu]at ai2;have YG:=(uh IS).frz (26+left);have Yy:=(uh IS).cb tp;obtain⟨u0,El⟩:∃u0,u0=eH (({ s with bd:=s.bd.set left o,st:=st }:SS).b left):=⟨_,rfl⟩;rw[<-El]at Yy;clear El;have cN:=(uh IS).setB tp (some vl);rw[show eH (some vl)=(vl:Int) from rfl]at cN;simp only[set_set]at cN;have DV:=cN.cv;obtain⟨apE,-,ai3,-⟩:=cN.vcell (uh HVO) ar;rw[<-mu]at ai3;have bC:=ab cN;have HVL:=ab mu;clear cN mu;have Za:Wf V T { s with bd:=s.bd.set left (some vl),st:=st }:=⟨(uh CG).lo,(uh CG).lp,by simpa using (uh CG).lb,(uh CG).un⟩;obtain⟨r,hr⟩:∃r,r=wk V T m { s with bd:=s.bd.set left (some vl),st:=st } k vl count:=⟨_,rfl⟩;have kj:=ab (Cu (V:=V) hT m { s with bd:=s.bd.set left (some vl),st:=st } k vl count Za (uh HK) (uh HC) _ _ hr.symm);have HWk:=ab (λw' (hs:Sw w' y T V { s with bd:=s.bd.set left (some vl),st:=st })=>uh HWC w' _ k vl count hs Za (uh HM) (uh HK) (uh HC));rw[<-hr]at HWk;have HPl:Hid (EM (wk V T m) k left count V.ow s=if r.1=true then (true,r.2) else EM (wk V T m) k left count (V.ow.drop (j+1)) r.2):=ab (by
        rw[<-uh hpj];refine OC ar ?_;rw[hr,<-uh HVL];simp only[set_set])
       have HTs:Hid (am y.fp w y.fp (wr.setCell ⟨y.q,26+left,none⟩ (.int .i64 (vl:Int)))):=ab ((uh hTj).setCell (zq0 (Sw.memQ y)) _);clear Za hr IS hpj hTj;go_wp2_with fail
       go_region
       go_wp2_with fail
       refine(uh HWk (wr.setCell ⟨y.q,26+left,none⟩ (.int .i64 (vl:Int))).drew ((uh bC).of_eq (λ_ _=>rfl))).mono ?_;rintro e w5 ⟨rfl,ep,IT⟩;have J7:Hid (am y.fp w y.fp w5):=ab ((uh HTs).trans ⟨IT.os,IT.tape,IT.output,IT.size,IT.block,IT.foot⟩);obtain⟨b5,s5⟩:=r;cases b5 with
       |true =>
        have gN:=ab ep;clear ep IT;go_wp2_with fail
        go_ret;rw[uh HE,uh HPl];exact⟨rfl,uh gN,uh J7⟩
       |false =>
        have f9:=(uh kj).1 rfl;dsimp only at ep f9;have gN:=ab ep;have ab5:=ab f9;clear ep IT f9;go_wp2_with fail
        go_roundw
        case rel =>
         refine⟨j+1,some vl,s5.st,by omega,by go_num,ab ?_,ab ?_,J7⟩
         .rw[<-uh ab5];exact uh gN
         .rw[<-uh ab5,uh HPl];rfl
        case measure=>simp[intOf];omega
      .have hd:decide ((j:Int)<(V.ow.length:Int))=false:=(by simp;omega);have YG:=(uh IS).frz (26+left);have Yy:=(uh IS).cb tp;obtain⟨u0,El⟩:∃u0,u0=eH (({ s with bd:=s.bd.set left o,st:=st }:SS).b left):=⟨_,rfl⟩;rw[<-El]at Yy;clear El;have cN:=(uh IS).setB tp none;rw[show eH none=(-1:Int) from rfl]at cN;simp only[set_set]at cN;have bC:=ab cN;have HTs:Hid (am y.fp w y.fp (wr.setCell ⟨y.q,26+left,none⟩ (.int .i64 (-1)))):=ab ((uh hTj).setCell (zq0 (Sw.memQ y)) _);have HPl:Hid (EM (wk V T m) k left count V.ow s=(false,{ s with bd:=s.bd.set left none,st:=st })):=ab (by
        rw[<-uh hpj,drop_of_length_le (by omega)];simp only[EM,set_set])
       clear cN IS hpj hTj;go_wp2_with fail
       go_ret;rw[uh HE,uh HPl];exact⟨rfl,uh bC,uh HTs⟩
def eqW(a b:ByteArray):Bool:=a.toList==b.toList
