import Derived.Test.YtciihepbeacppaaGreatM05
set_option maxRecDepth 100000
set_option maxHeartbeats 0
namespace Go.Proofs.YtciihepbeacppaaGreat
open Tryz Go.RowKit List World Below
set_option linter.unusedVariables false
section
variable {w:World} {y:rN} {T V:CF} {s:SS}
theorem aE{w:World}{v:Value}{l:List Pr}(h:w.ownsRow 0 182 3 v l.length (af l)){i:Nat}(hi:i<l.length):∃g cap,v=.slice (some ⟨g,0,none⟩) l.length cap/\cap<=9223372036854775807/\l.length<=cap:=by
 obtain⟨ao,cap,hv,hm,hn,hc⟩:=dR h;obtain⟨g,tb,_⟩:=hc (by intro e;rw[e]at hi;simp at hi);exact⟨g,cap,by rw[hv,tb],by unfold maxLen at hm;omega,hn⟩
theorem aB{w:World}{l:List Pr}{g cap:Nat}(h:w.ownsRow 0 182 3 (.slice (some ⟨g,0,none⟩) l.length cap) l.length (af l)){i:Nat}(hi:i<l.length):
  w.cell? ⟨g,i*3,none⟩=some (.int .i64 (l.getD i ay).k)/\w.cell? ⟨g,i*3+1,none⟩=some (.int .i64 (l.getD i ay).l)/\w.cell? ⟨g,i*3+2,none⟩=some (.int .i64 (l.getD i ay).r):=by
 rw[j7 hi];have hg:=QM hi;exact⟨(h.cellAt _ (by omega)).trans hg.1,(h.cellAt _ (by omega)).trans hg.2.1,(h.cellAt _ (by omega)).trans hg.2.2⟩
theorem Sw.vcell(h:Sw w y T V s){g cap:Nat}(hv:y.vov=.slice (some ⟨g,0,none⟩) V.ow.length cap){i:Nat}(hi:i<V.ow.length):
  w.cell? ⟨y.v,6,none⟩=some (.slice (some ⟨g,0,none⟩) V.ow.length cap)/\w.cell? ⟨g,i*3,none⟩=some (.int .i64 (V.ow.getD i ay).k)/\w.cell? ⟨g,i*3+1,none⟩=some (.int .i64 (V.ow.getD i ay).l)/\w.cell? ⟨g,i*3+2,none⟩=some (.int .i64 (V.ow.getD i ay).r):=by
 have ho:=h.fv.ow;rw[hv]at ho;exact⟨by rw[h.fv.c6,hv],aB ho hi⟩
theorem Sw.tcell(h:Sw w y T V s){g cap:Nat}(hv:y.tov=.slice (some ⟨g,0,none⟩) T.ow.length cap){i:Nat}(hi:i<T.ow.length):
  w.cell? ⟨y.t,6,none⟩=some (.slice (some ⟨g,0,none⟩) T.ow.length cap)/\w.cell? ⟨g,i*3,none⟩=some (.int .i64 (T.ow.getD i ay).k)/\w.cell? ⟨g,i*3+1,none⟩=some (.int .i64 (T.ow.getD i ay).l)/\w.cell? ⟨g,i*3+2,none⟩=some (.int .i64 (T.ow.getD i ay).r):=by
 have ho:=h.ft.ow;rw[hv]at ho;exact⟨by rw[h.ft.c6,hv],aB ho hi⟩
theorem Sw.ocell(h:Sw w y T V s){O n cap:Nat}(hv:y.ov=.slice (some ⟨O,0,none⟩) n cap){i:Nat}(hi:i<s.ot.length):
  w.cell? ⟨O,i,none⟩=some (.int .i64 (fV (s.ot.getD i none)))/\w.frozen? ⟨O,i,none⟩=false:=by
 obtain⟨O',c',e',_,_,h1,h2⟩:=h.own (by intro e;rw[e]at hi;simp at hi);rw[hv]at e';have eL:O=O':=by injection e' with e1 _ _;injection e1 with e1;injection e1
 subst eL;exact⟨h1 i hi,h2 i⟩
theorem Sw.pcell(h:Sw w y T V s){L n cap:Nat}(hv:y.pv=.slice (some ⟨L,0,none⟩) n cap){i:Nat}(hi:i<s.pl.length):
  w.cell? ⟨L,i,none⟩=some (.bool (s.pl.getD i false))/\w.frozen? ⟨L,i,none⟩=false:=by
 obtain⟨O',c',e',_,_,h1,h2⟩:=h.plc (by intro e;rw[e]at hi;simp at hi);rw[hv]at e';have eL:L=O':=by injection e' with e1 _ _;injection e1 with e1;injection e1
 subst eL;exact⟨h1 i hi,h2 i⟩
end
def RY(V T:CF)(m:Nat)(s2:SS)(k vr count:Nat):Bool × SS:=if (T.ow.getD k ay).k=4 then wk V T m s2 k vr count else (false,s2)
theorem Wr {V T:CF} {m:Nat} {s:SS} {k at_ count i:Nat} (h0:¬ wrap64 (s.st-1)<0) (h1:cE V.ow at_=some i) (h2:s.ot.getD i none=none) (h3:¬ ((T.ow.getD k ay).k≠4/\(V.ow.getD i ay).k=4))
  {r:Bool × SS} (hr:r=Fq (zF (wk V T m) V T) T { s with st:=wrap64 (s.st-1),ot:=s.ot.set i (some k),un:=s.un-1 } k (V.ow.getD i ay).r count) :
  wk V T (m+1) s k at_ count=if r.1=true then (true,r.2) else if (RY V T m r.2 k (V.ow.getD i ay).r count).1=true then (true,(RY V T m r.2 k (V.ow.getD i ay).r count).2) else (false,{ (RY V T m r.2 k (V.ow.getD i ay).r count).2 with ot:=(RY V T m r.2 k (V.ow.getD i ay).r count).2.ot.set i none,un:=(RY V T m r.2 k (V.ow.getD i ay).r count).2.un+1 }):=by
 simp only[wk];rw[if_neg h0,h1];dsimp only;rw[if_neg (by rw[h2];simp),if_neg h3,<-hr];obtain⟨b,s2⟩:=r;cases b with
 |true=>rfl
 |false =>
  dsimp only;rw[show(if (T.ow.getD k ay).k=4 then wk V T m s2 k (V.ow.getD i ay).r count else (false,s2))=RY V T m s2 k (V.ow.getD i ay).r count from rfl];obtain⟨b3,s3⟩:=RY V T m s2 k (V.ow.getD i ay).r count;cases b3 <;> rfl
theorem LV{y:rN}{T V:CF}(hT:Rm T)(hVl:V.ow.length<=1000000){m:Nat}(hW:WkC y T V m (wk V T m))(hP:PlC y T V m (zF (wk V T m) V T)):WkC y T V (m+1) (wk V T (m+1)):=by
 intro w s k at_ count h hw hm hk hc;obtain⟨gK,hkp⟩:=GP hk;have hkT:k<T.ow.length:=by rw[<-hw.lp];exact gK
 obtain⟨tg,tcap,pU,htm,XL⟩:=aE h.ft.ow hkT;have hq8:=h.cs;have aru:=h.frz 54;have dA:=h.setSt (wrap64 (s.st-1));have hc8:=dA.cs;have AE:=dA.cv;have cI:=ab dA;have KT:=dA.c1;have FL:=dA.co;obtain⟨KL,ZY,_,_⟩:=dA.tcell pU hkT;obtain⟨w1,zq⟩:∃w1,w1=w.setCell ⟨y.q,54,none⟩ (.int .i64 (wrap64 (s.st-1))):=⟨_,rfl⟩;have Ca:Hid (ar y.fp w y.fp w1):=ab (by rw[zq];exact(ar.refl y.fp w).setCell (zq0 (Sw.memQ y)) _);have HB:=ab (cP at_ dA.fv);rw[<-zq]at cI hc8 AE KT FL KL ZY HB;have YG:=ab zq;obtain⟨tk0,aaF⟩:∃tk0,tk0=(T.ow.getD k ay).k:=⟨_,rfl⟩;rw[<-aaF]at ZY;have yd:=ab aaF;have HS:=ab h;have Es:=ab hw;have HK:=ab hk;have HC:=ab hc;have HM:=ab hm;have WI:=ab hP;have HWC:=ab hW;have HTO:=ab pU;clear h hw hm hk hc hP hW hkp dA aaF pU zq;by_cases sm:wrap64 (s.st-1)<0
 .have hn':decide (wrap64 (s.st-1)<0)=true:=by simpa using sm
  have HE:Hid (wk V T (m+1) s k at_ count=(false,{ s with st:=wrap64 (s.st-1) })):=ab (by simp only[wk];rw[if_pos sm]);rw[uh YG]at hc8 cI Ca;clear sm AE KT FL KL ZY HB;go_enter func207,ntmps207;go_wp2_with fail
  go_ret;rw[uh HE];exact⟨rfl,uh cI,uh Ca⟩
 .have hn':decide (wrap64 (s.st-1)<0)=false:=by simpa using sm
  cases nX:cE V.ow at_ with
  |none =>
   have HE:Hid (wk V T (m+1) s k at_ count=(false,{ s with st:=wrap64 (s.st-1) })):=ab (by simp only[wk];rw[if_neg sm,nX]);rw[nX]at HB;rw[uh YG]at hc8 cI Ca AE HB;clear sm KT FL KL ZY nX;go_enter func207,ntmps207;go_wp2_with fail
   refine(uh HB).mono ?_;rintro e w2 ⟨rfl,rfl⟩;rw[show fV none=(-1:Int) from rfl];go_wp2_with fail
   go_ret;rw[uh HE];exact⟨rfl,uh cI,uh Ca⟩
  |some i =>
   obtain⟨hiV,ur⟩:=CL nX;have KZ:i<s.ot.length:=(by rw[(uh Es).lo];exact hiV);obtain⟨vg,vcap,Gg,UQ,PQ⟩:=aE (uh cI).fv.ow hiV;obtain⟨O,ocap,gy,agr,agq,_,_⟩:=(uh cI).own (by intro e;have e2:s.ot=[]:=e;rw[e2]at KZ;simp at KZ);have Ds:y.ov=.slice (some ⟨O,0,none⟩) s.ot.length ocap:=gy;have apj:ocap<=9223372036854775807:=(by unfold maxLen at agq;omega);have apk:s.ot.length<=ocap:=agr;obtain⟨ho1,aar⟩:=(uh cI).ocell Ds (i:=i) KZ;rw[Ds]at FL;have UI:w1.cell? ⟨O,i,none⟩=some (.int .i64 (fV (s.ot.getD i none))):=ho1;obtain⟨oi,hoi⟩:∃oi,oi=s.ot.getD i none:=⟨_,rfl⟩;rw[<-hoi]at UI;have ags:=oy oi;obtain⟨hV6,hVk,_,hVr⟩:=(uh cI).vcell Gg hiV;obtain⟨vk,hvk⟩:∃vk,vk=(V.ow.getD i ay).k:=⟨_,rfl⟩;obtain⟨vr,PR⟩:∃vr,vr=(V.ow.getD i ay).r:=⟨_,rfl⟩;rw[<-hvk]at hVk;rw[<-PR]at hVr;rw[nX]at HB;have mR:=ab nX;have HOI:=ab hoi;have HVK:=ab hvk;have HVR:=ab PR;have L5:=ab Ds;have HVO:=ab Gg;clear gy Ds ho1 hoi hvk PR nX Gg agq agr ur;cases hos:oi.isSome with
   |true =>
    have HE:Hid (wk V T (m+1) s k at_ count=(false,{ s with st:=wrap64 (s.st-1) })):=ab (by
     simp only[wk];rw[if_neg sm,uh mR];dsimp only;rw[if_pos (by rw[<-uh HOI];intro e;rw[e]at hos;cases hos)])
    rw[hos]at ags;rw[uh YG]at hc8 cI Ca AE HB FL UI KT KL ZY;clear sm hV6 hVk hVr aar;go_enter func207,ntmps207;go_wp2_with fail
    refine(uh HB).mono ?_;rintro e w2 ⟨rfl,rfl⟩;rw[show fV (some i)=(i:Int) from rfl];go_wp2_with fail
    go_ret;rw[uh HE];exact⟨rfl,uh cI,uh Ca⟩
   |false =>
    have hoN:oi=none:=(by cases oi with|none=>rfl|some _=>cases hos);rw[hos]at ags;by_cases hkk:tk0≠4/\vk=4
    .have HE:Hid (wk V T (m+1) s k at_ count=(false,{ s with st:=wrap64 (s.st-1) })):=ab (by
      simp only[wk];rw[if_neg sm,uh mR];dsimp only;rw[if_neg (by rw[<-uh HOI,hoN];simp),<-uh yd,<-uh HVK,if_pos hkk])
     have ht4:((tk0:Int)==4)=false:=(by rw[beq_eq_false_iff_ne];omega);have IL:((vk:Int)==4)=true:=(by rw[beq_iff_eq];omega);rw[uh YG]at hc8 cI Ca AE HB FL UI KT KL ZY hV6 hVk;clear sm hVr aar hkk hoN;go_enter func207,ntmps207;go_wp2_with fail
     refine(uh HB).mono ?_;rintro e w2 ⟨rfl,rfl⟩;rw[show fV (some i)=(i:Int) from rfl];go_wp2_with fail
     go_ret;rw[uh HE];exact⟨rfl,uh cI,uh Ca⟩
    .have lR:(sZ s).Perm (i::sZ { s with st:=wrap64 (s.st-1),ot:=s.ot.set i (some k),un:=s.un-1 }):=CZ KZ (by rw[<-uh HOI];exact hoN) rfl;have jx:=lR.length_eq;rw[length_cons]at jx;have aso:1<=s.un:=(by have:=(uh Es).un;omega);have amk:s.un<=1000000:=by
      have h1:=(uh Es).un;have h2:(sZ s).length<=s.ot.length:=by
       unfold sZ;have:=length_filter_le (λi=>(s.ot.getD i none).isNone) (range s.ot.length);simpa using this
      have h3:=(uh Es).lo;omega
     have afH:((s.un-1:Nat):Int)=(s.un:Int)-1:=by omega
     -- the worlds behind the stores
     have gT:=(uh cI).setO (i:=i) (o:=some k) (uh L5);rw[show fV (some k)=(k:Int) from rfl]at gT;have alb:=gT.cu;have alq:=gT.frz 52;have gj:=gT.setUn (s.un-1);rw[afH]at gj;have alc:=gj.cv;obtain⟨akX,_,_,aft⟩:=gj.vcell (uh HVO) hiV;rw[<-uh HVR]at aft;have vh:Hid (ar y.fp w y.fp ((w1.setCell ⟨O,i,none⟩ (.int .i64 (k:Int))).setCell ⟨y.q,52,none⟩ (.int .i64 ((s.un:Int)-1)))):=ab (((uh Ca).setCell (zq0 (Sw.memO (uh L5))) _).setCell (zq0 (Sw.memQ y)) _);have US:Wf V T { s with st:=wrap64 (s.st-1),ot:=s.ot.set i (some k),un:=s.un-1 }:=by
      refine⟨by simpa using (uh Es).lo,(uh Es).lp,(uh Es).lb,?_⟩;have h4:=(uh Es).un;show s.un-1=_;omega
     have Dl:({ s with st:=wrap64 (s.st-1),ot:=s.ot.set i (some k),un:=s.un-1 }:SS).un<m:=by
      have:=uh HM;show s.un-1<m;omega
     have S7:=ab (TT (at_:=vr) hT (uh WI) (BF hT (Ej hT m)) gj US Dl (uh HK) (uh HC));have adN:=fun {b:Bool} {s':SS} (hr:Fq (zF (wk V T m) V T) T { s with st:=wrap64 (s.st-1),ot:=s.ot.set i (some k),un:=s.un-1 } k vr count=(b,s'))=>NZ hT (BF hT (Ej hT m)) US (uh HK) (uh HC) hr
     obtain⟨r,hr⟩:∃r,r=Fq (zF (wk V T m) V T) T { s with st:=wrap64 (s.st-1),ot:=s.ot.set i (some k),un:=s.un-1 } k vr count:=⟨_,rfl⟩;have HE:=ab (Wr (m:=m) (count:=count) sm (uh mR) (by rw[<-uh HOI];exact hoN) (by rw[<-uh yd,<-uh HVK];exact hkk) (r:=r) (by rw[<-uh HVR];exact hr));rw[<-uh HVR]at HE;rw[<-hr]at S7;have bn:r.1=false->r.2={ s with st:=r.2.st,ot:=s.ot.set i (some k),un:=s.un-1 }:=λhb=>(adN (b:=r.1) (s':=r.2) hr.symm).1 hb;have mr:=ab bn;have Tm:=ab US;have Hc:=ab Dl;clear adN hr bn US Dl gT gj lR jx;have ht4:((tk0:Int)==4)=decide (tk0=4):=(by rw[Bool.eq_iff_iff,beq_iff_eq,decide_eq_true_eq];omega);have agc:tk0=4\/(vk:Int)≠4:=(by omega);rw[uh YG]at hc8 vh AE HB FL UI KT KL ZY hV6 hVk aar alb alq alc akX aft S7;have HKK:=ab agc;have lw:decide ((i:Int)<0)=false:=(by simp);clear sm hkk agc hVr hoN;cases SE:decide (tk0=4) with
     |true =>
      rw[SE]at ht4;go_enter func207,ntmps207;go_wp2_with fail
      refine(uh HB).mono ?_;rintro e w2 ⟨rfl,rfl⟩;rw[show fV (some i)=(i:Int) from rfl];go_wp2_with fail
      refine(uh S7).mono ?_;rintro e w4 ⟨rfl,fE,ZX⟩;obtain⟨b4,s4⟩:=r;cases b4 with
      |true =>
       have mF:=ab fE;have HT4:=ab ((uh vh).trans ZX);clear fE ZX;go_wp2_with fail
       go_ret;rw[uh HE];exact⟨rfl,uh mF,uh HT4⟩
      |false =>
       have wb:=uh mr rfl;dsimp only at fE wb;have arr:=fE.cv;obtain⟨ard,_,_,ak0⟩:=fE.vcell (uh HVO) hiV;rw[<-uh HVR]at ak0;have aaL:Wf V T s4:=(by rw[wb];exact⟨(uh Tm).lo,(uh Tm).lp,(uh Tm).lb,(uh Tm).un⟩);have agX:s4.un=s.un-1:=(by rw[wb]);have agC:s4.ot=s.ot.set i (some k):=(by rw[wb]);have PP:uP s4=uP s:=(by rw[wb];rfl);have HWK:=ab (uh HWC w4 s4 k vr count fE aaL (by have:=uh Hc;have e:({ s with st:=wrap64 (s.st-1),ot:=s.ot.set i (some k),un:=s.un-1 }:SS).un=s.un-1:=rfl;omega) (by rw[PP];exact uh HK) (by rw[PP];exact uh HC));have aem:=ab (Ej (V:=V) hT m s4 k vr count aaL (by rw[PP];exact uh HK) (by rw[PP];exact uh HC) _ _ rfl);have HT4:=ab ((uh vh).trans ZX);have HQ:Hid (RY V T m s4 k vr count=wk V T m s4 k vr count):=ab (by unfold RY;rw[<-uh yd,if_pos (by simpa using SE)]);have HUN:=ab agX;have HOT:=ab agC;clear fE ZX wb aaL agX agC PP;go_wp2_with fail
       refine(uh HWK).mono ?_;rintro e w5 ⟨rfl,gh,KK⟩;obtain⟨q,hq⟩:∃q,q=wk V T m s4 k vr count:=⟨_,rfl⟩;rw[<-hq]at gh aem HQ ⊢;obtain⟨b5,s5⟩:=q;cases b5 with
       |true =>
        have tE:=ab gh;have L9:=ab ((uh HT4).trans KK);have HQ5:=ab hq;clear gh KK hq;go_wp2_with fail
        go_ret;rw[uh HE];dsimp only;rw[uh HQ];exact⟨rfl,uh tE,uh L9⟩
       |false =>
        have qN:=(uh aem).1 rfl;dsimp only at gh qN;have L9:=ab ((uh HT4).trans KK);clear KK hq;have aaG:s5.un=s.un-1:=(by rw[qN];exact uh HUN);have PG:s5.ot=s.ot.set i (some k):=(by rw[qN];exact uh HOT);have FU:s5.ot.length=s.ot.length:=(by rw[PG];simp);have aaa:=gh.co;rw[uh L5]at aaa;obtain⟨ho5,alQ⟩:=gh.ocell (uh L5) (i:=i) (by rw[FU];exact KZ);have Dw:=gh.setO (i:=i) (o:=none) (by rw[FU];exact uh L5);rw[show fV none=(-1:Int) from rfl]at Dw;have aab:=Dw.cu;have hu6:(({ s5 with ot:=s5.ot.set i none }:SS).un:Int)=(s.un:Int)-1:=by
         have:({ s5 with ot:=s5.ot.set i none }:SS).un=s5.un:=rfl;omega
        rw[hu6]at aab;have alr:=Dw.frz 52;have zp:=Dw.setUn (s5.un+1);rw[show((s5.un+1:Nat):Int)=(s.un:Int) by omega]at zp;have WM:=ab zp;have HT7:Hid (ar y.fp w y.fp ((w5.setCell ⟨O,i,none⟩ (.int .i64 (-1))).setCell ⟨y.q,52,none⟩ (.int .i64 (s.un:Int)))):=ab (((uh L9).setCell (zq0 (Sw.memO (uh L5))) _).setCell (zq0 (Sw.memQ y)) _);clear gh qN aaG PG FU Dw zp hu6;go_wp2_with fail
        go_ret;rw[uh HE];dsimp only;rw[uh HQ];exact⟨rfl,uh WM,uh HT7⟩
     |false =>
      rw[SE]at ht4;have IL:((vk:Int)==4)=false:=by
       rw[beq_eq_false_iff_ne];rcases uh HKK with h|h
       .rw[h]at SE;simp at SE
       .exact h
      go_enter func207,ntmps207;go_wp2_with fail
      refine(uh HB).mono ?_;rintro e w2 ⟨rfl,rfl⟩;rw[show fV (some i)=(i:Int) from rfl];go_wp2_with fail
      refine(uh S7).mono ?_;rintro e w5 ⟨rfl,gh,ZX⟩;obtain⟨b4,s5⟩:=r;have L9:=ab ((uh vh).trans ZX);clear ZX;cases b4 with
      |true =>
       have mF:=ab gh;clear gh;go_wp2_with fail
       go_ret;rw[uh HE];exact⟨rfl,uh mF,uh L9⟩
      |false =>
       have qN:=uh mr rfl;dsimp only at gh qN;have HQ:Hid (RY V T m s5 k vr count=(false,s5)):=ab (by unfold RY;rw[<-uh yd,if_neg (by simpa using SE)]);have aaG:s5.un=s.un-1:=(by rw[qN]);have PG:s5.ot=s.ot.set i (some k):=(by rw[qN]);have FU:s5.ot.length=s.ot.length:=(by rw[PG];simp);have aaa:=gh.co;rw[uh L5]at aaa;obtain⟨ho5,alQ⟩:=gh.ocell (uh L5) (i:=i) (by rw[FU];exact KZ);have Dw:=gh.setO (i:=i) (o:=none) (by rw[FU];exact uh L5);rw[show fV none=(-1:Int) from rfl]at Dw;have aab:=Dw.cu;have hu6:(({ s5 with ot:=s5.ot.set i none }:SS).un:Int)=(s.un:Int)-1:=by
        have:({ s5 with ot:=s5.ot.set i none }:SS).un=s5.un:=rfl;omega
       rw[hu6]at aab;have alr:=Dw.frz 52;have zp:=Dw.setUn (s5.un+1);rw[show((s5.un+1:Nat):Int)=(s.un:Int) by omega]at zp;have WM:=ab zp;have HT7:Hid (ar y.fp w y.fp ((w5.setCell ⟨O,i,none⟩ (.int .i64 (-1))).setCell ⟨y.q,52,none⟩ (.int .i64 (s.un:Int)))):=ab (((uh L9).setCell (zq0 (Sw.memO (uh L5))) _).setCell (zq0 (Sw.memQ y)) _);clear gh qN aaG PG FU Dw zp hu6;go_wp2_with fail
       go_ret;rw[uh HE];dsimp only;rw[uh HQ];exact⟨rfl,uh WM,uh HT7⟩
def Mc(V:CF)(s:SS)(p:Pr):Bool:=p.l != p.r&&(match s.b p.l,s.b p.r with|some a,some b=>aV V a b|_,_=>true)
theorem Tv{V T:CF}{s:SS}(h:∀j,(hj:j<T.ap.length)->Mc V s T.ap[j]=true):Mb V T s=true:=by
 show T.ap.all (Mc V s)=true;rw[all_eq_true];intro p hp;obtain⟨j,hj,rfl⟩:=mem_iff_getElem.1 hp;exact h j hj
theorem M5{V T:CF}{s:SS}{j:Nat}(hj:j<T.ap.length)(h:Mc V s T.ap[j]=false):Mb V T s=false:=by
 show T.ap.all (Mc V s)=false;rw[all_eq_false];exact⟨_,getElem_mem hj,by rw[h];simp⟩
def RmA(T:CF):Prop:=∀p∈T.ap,p.l<24/\p.r<24
theorem Sw.alloc{w:World}{y:rN}{T V:CF}{s:SS}(h:Sw w y T V s)(o:Obj):Sw (w.alloc o) y T V s:=h.of_eq (λ_ hk=>heap_alloc _ _ _ hk)
theorem Sw.drewN{w:World}{y:rN}{T V:CF}{s:SS}(h:Sw w y T V s)(n:Nat):Sw (w.drewN n) y T V s:=h.of_eq (λ_ _=>by simp)
theorem Gs(w:World)(a b c:Value)(T:TypeId):(w.alloc (.cells #[a,b,c] T)).cell? ⟨w.heap.size,0,none⟩=some a/\(w.alloc (.cells #[a,b,c] T)).cell? ⟨w.heap.size,1,none⟩=some b/\(w.alloc (.cells #[a,b,c] T)).cell? ⟨w.heap.size,2,none⟩=some c:=by
 have h:=λj=>cell_of_row (w.alloc (.cells #[a,b,c] T)) w.heap.size j #[a,b,c] T (0,0) (heap_alloc_new w _);exact⟨h 0,h 1,h 2⟩
theorem DP(o:Option Nat):(fV o==(-1:Int))=o.isNone:=by
 cases o with
 |none=>rfl
 |some n=>simp[fV]
theorem Kg{y:rN}{T V:CF}(hA:RmA T){w:World}{s:SS}(h:Sw w y T V s):
  Calls prog 205 #[.pointer (some ⟨y.q,0,none⟩)] w λe w'=>e=.returned (.bool (Mb V T s))/\Below w.heap.size w w':=by
 obtain⟨ao,cap,kt,hm,Mt,hc⟩:=dR h.ft.ap;have h5:=h.ft.c5;rw[kt]at h5;have hq1:=h.c1;have HC:=ab hc;have HS:=ab h;clear hc kt h;unfold maxLen at hm;go_enter func205,ntmps205;go_wp2_with fail
 go_loopw [15] (λi wr=>∃k:Nat,k<=T.ap.length/\i=.int .i64 k/\Hid (∀j,(hj:j<T.ap.length)->j<k->Mc V s T.ap[j]=true)/\Below w.heap.size w wr) (λi _=>T.ap.length-(intOf i).toNat)
 case atStart=>exact⟨0,zq5 _,rfl,λ_ _ h=>absurd h (by omega),Below.refl _ _⟩
 case round =>
  obtain⟨k,hk,rfl,ee,cL⟩:=hrel;by_cases au:k<T.ap.length
  .obtain⟨g,tb,ax⟩:=uh HC (by intro h;rw[h]at au;simp at au);subst tb;obtain⟨EK,tr,pV⟩:=ax k au;have c0:=(cL.cell (block_lt_of_cell? w _ EK)).trans EK;have c1:=(cL.cell (block_lt_of_cell? w _ tr)).trans tr;have c2:=(cL.cell (block_lt_of_cell? w _ pV)).trans pV;clear ax EK tr pV;obtain⟨vX,F8⟩:=hA _ (getElem_mem au);obtain⟨p,hp⟩:∃p,p=T.ap[k]:=⟨_,rfl⟩;rw[<-hp]at c0 c1 c2 vX F8;have HP:=ab hp;have HSr:=ab ((uh HS).below cL);have hZ:=(uh HSr).alloc (.cells #[Value.int .i64 p.k,.int .i64 p.l,.int .i64 p.r] 182);have UO:=hZ.cb vX;have hqr:=hZ.cb F8;have hqv:=hZ.cv;have n0:(wr.alloc (.cells #[Value.int .i64 p.k,.int .i64 p.l,.int .i64 p.r] 182)).cell? ⟨wr.heap.size,1,none⟩=some (.int .i64 p.l):=(Gs wr _ _ _ _).2.1;have n1:(wr.alloc (.cells #[Value.int .i64 p.k,.int .i64 p.l,.int .i64 p.r] 182)).cell? ⟨wr.heap.size,2,none⟩=some (.int .i64 p.r):=(Gs wr _ _ _ _).2.2;have Yq:=ab hZ.fv;obtain⟨ba,EB⟩:∃ba,ba=s.b p.l:=⟨_,rfl⟩;obtain⟨bb,AB⟩:∃bb,bb=s.b p.r:=⟨_,rfl⟩;rw[<-EB]at UO;rw[<-AB]at hqr;have HBA:=ab EB;have MH:=ab AB;have HB:=ab cL;have R7:=ab (cL.alloc cL.size (.cells #[Value.int .i64 p.k,.int .i64 p.l,.int .i64 p.r] 182));clear EB AB hp cL hZ;by_cases tL:p.l=p.r
   .have he:((p.l:Int)==(p.r:Int))=true:=(by rw[bh];simpa using tL);have HE:Hid (Mb V T s=false):=ab (M5 au (by rw[<-uh HP];unfold Mc;rw[tL];simp));clear tL;go_wp2_with fail
    go_ret;exact⟨by rw[uh HE];rfl,uh R7⟩
   .have he:((p.l:Int)==(p.r:Int))=false:=(by rw[bh];simpa using tL);have HLR:=ab tL;clear tL;have HRo:Hid (∀n,Mc V s p=true->(∃k_1:Nat,k_1<=T.ap.length/\Value.int IntKind.i64 ((k:Int)+1)=Value.int IntKind.i64 k_1/\Hid (∀(j:Nat) (hj:j<T.ap.length),j<k_1->Mc V s T.ap[j]=true)/\Below w.heap.size w ((wr.alloc (Obj.cells #[Value.int IntKind.i64 p.k,Value.int IntKind.i64 p.l,Value.int IntKind.i64 p.r] 182)).drewN n))/\T.ap.length-(intOf (Value.int IntKind.i64 ((k:Int)+1))).toNat<T.ap.length-(intOf (Value.int IntKind.i64 (k:Int))).toNat):=ab (λn h =>
     ⟨⟨k+1,by omega,by go_num,ab (λj hj IG=>by
      by_cases e:j=k
      .subst e;rw[<-uh HP];exact h
      .exact ee.out j hj (by omega)),⟨(uh R7).os,(uh R7).tape,(uh R7).output,by simpa using (uh R7).size,λk hk=>by simpa using (uh R7).block k hk⟩⟩,by simp[intOf];omega⟩)
    have hna:=DP ba;have Pz:=DP bb;cases hia:ba.isNone with
    |true =>
     rw[hia]at hna;go_wp2_with fail
     go_quiet (fail)
     go_wp2_with fail
     go_quiet (fail)
     go_wp2_with fail
     refine uh HRo _ ?_;unfold Mc;rw[<-uh HBA,<-uh MH];cases ba with
     |none=>simpa using uh HLR
     |some _=>cases hia
    |false =>
     rw[hia]at hna;cases hib:bb.isNone with
     |true =>
      rw[hib]at Pz;go_wp2_with fail
      go_quiet (fail)
      go_wp2_with fail
      go_quiet (fail)
      go_wp2_with fail
      refine uh HRo _ ?_;unfold Mc;rw[<-uh HBA,<-uh MH];cases bb with
      |none=>cases ba <;> simpa using uh HLR
      |some _=>cases hib
     |false =>
      rw[hib]at Pz;cases ba with
      |none=>cases hia
      |some a =>
       cases bb with
       |none=>cases hib
       |some b =>
        rw[show fV (some a)=(a:Int) from rfl]at UO hna;rw[show fV (some b)=(b:Int) from rfl]at hqr Pz;have HAp:Hid (Mc V s p=aV V a b):=ab (by
         unfold Mc;rw[<-uh HBA,<-uh MH];have:(p.l != p.r)=true:=(by rw[bne_iff_ne];exact uh HLR);rw[this];rfl)
        go_wp2_with fail
        go_quiet (fail)
        go_wp2_with fail
        go_quiet (fail)
        go_wp2_with fail
        refine(l7 a b ((uh Yq).drewN _)).mono ?_;rintro e w3 ⟨rfl,dy⟩;have tD:Hid (Below w.heap.size w w3):=ab (by
         have hz:=uh R7;have hs:=dy.size;have gT:=hz.size;refine⟨dy.os.trans hz.os,dy.tape.trans hz.tape,dy.output.trans hz.output,?_,λk hk=>?_⟩
         .simp only[heap_drewN]at hs;omega
         .refine(dy.block k (by simp only[heap_drewN];omega)).trans ?_;rw[heap_drewN];exact hz.block k hk)
        clear dy;cases yl:aV V a b with
        |true =>
         go_wp2_with fail
         go_roundw
         case rel =>
          refine⟨k+1,by omega,by go_num,ab (λj hj IG=>?_),uh tD⟩;by_cases e:j=k
          .subst e;rw[<-uh HP,uh HAp];exact yl
          .exact ee.out j hj (by omega)
         case measure=>simp[intOf];omega
        |false =>
         have HE:Hid (Mb V T s=false):=ab (M5 au (by rw[<-uh HP,uh HAp];exact yl));go_wp2_with fail
         go_ret;exact⟨by rw[uh HE];rfl,uh tD⟩
  .have hd:decide ((k:Int)<(T.ap.length:Int))=false:=(by simp;omega);have HE:Hid (Mb V T s=true):=ab (Tv (λj hj=>ee.out j hj (by omega)));go_wp2_with fail
   go_ret;exact⟨by rw[uh HE];rfl,cL⟩
theorem GB{n k:Nat}(h:k<n):(range n).drop k=k::(range n).drop (k+1):=by
 have hl:k<(range n).length:=by simpa using h
 rw[drop_eq_getElem_cons hl];simp
theorem abf(o:Option Nat):decide (fV o<(0:Int))=o.isNone:=by
 cases o with
 |none=>rfl
 |some n=>exact decide_eq_false (by show ¬ ((n:Int)<0);omega)
theorem Fh{y:rN}{T V:CF}(hT:Rm T){w:World}{s:SS}(h:Sw w y T V s)(zn:s.pl.length=T.ow.length):
  Calls prog 206 #[.pointer (some ⟨y.q,0,none⟩)] w λe w'=>e=.returned (.int .i64 (fV (Y5 T s)))/\∃n,w'=w.drewN n:=by
 have HS:=ab h;clear h;have Z8:∃ao cap,y.pv=.slice ao s.pl.length cap/\cap<=9223372036854775807/\s.pl.length<=cap:=by
  rcases(uh HS).pl.2 with⟨h1,h0⟩|⟨O,cap,cur,hv,_,_,Mt,hm,_⟩
  .exact⟨none,0,by rw[h1,h0],by omega,by omega⟩
  .exact⟨_,cap,hv,by unfold maxLen at hm;omega,Mt⟩
 obtain⟨ao,pcap,ez,Cv,hpn⟩:=Z8;go_enter func206,ntmps206;go_wp2_with fail
 go_loopw [3,4] (λo i wr=>∃(k:Nat) (op:Option Nat),k<=s.pl.length/\o=.int .i64 (fV op)/\i=.int .i64 k/\Hid (Sp T s ((range s.pl.length).drop k) op=Y5 T s)/\∃n,wr=w.drewN n) (λ_ i _=>s.pl.length-(intOf i).toNat)
 case atStart=>exact⟨0,none,zq5 _,rfl,rfl,ab rfl,0,rfl⟩
 case round =>
  obtain⟨k,op,hk,rfl,rfl,pT,n,rfl⟩:=hrel;have Uv:=uh HS;have Xt:=Uv.cp;rw[ez]at Xt;have yc:=ab ez;by_cases au:k<s.pl.length
  .obtain⟨L,lcap,hL,-,-,-,-⟩:=Uv.plc (by intro e;rw[e]at au;simp at au);obtain⟨SJ,-⟩:=Uv.pcell hL au;have hkT:k<T.ow.length:=(by rw[<-zn];exact au);obtain⟨tg,tcap,pU,htm,XL⟩:=aE Uv.ft.ow hkT;obtain⟨KL,-,SB,-⟩:=Uv.tcell pU hkT;have ID:=Uv.c1;obtain⟨left,m9⟩:∃left,left=(T.ow.getD k ay).l:=⟨_,rfl⟩;have vX:left<24:=(by rw[m9];exact(hT.at k).1);rw[<-m9]at SB;have KS:=Uv.cb vX;obtain⟨bl,cL⟩:∃bl,bl=s.b left:=⟨_,rfl⟩;rw[<-cL]at KS;rw[hL]at ez;have tb:ao=some ⟨L,0,none⟩/\pcap=lcap:=(by injection ez with e1 _ e2;exact⟨e1.symm,e2.symm⟩);rw[tb.1,tb.2]at Xt;have ar5:lcap<=9223372036854775807:=(by omega);have ar6:s.pl.length<=lcap:=(by omega);obtain⟨pb,hpb⟩:∃pb,pb=s.pl.getD k false:=⟨_,rfl⟩;rw[<-hpb]at SJ;have aP:Sp T s ((range s.pl.length).drop k) op=if pb=true then Sp T s ((range s.pl.length).drop (k+1)) op else if bl.isSome=true then some k else Sp T s ((range s.pl.length).drop (k+1)) (if op.isSome=true then op else some k):=by
    rw[GB au];simp only[Sp];rw[<-hpb,<-m9,<-cL]
   rw[uh pT]at aP;have di:=ab aP;have HLE:=ab m9;have G8:=ab cL;have WH:=ab hpb;have HTO:=ab pU;have HL:=ab hL;have ku:=oy bl;have xV:=abf op;clear aP m9 cL hpb pU hL ez Uv tb pT;cases pb with
   |true =>
    go_wp2_with fail
    go_roundw
    case rel=>exact⟨k+1,op,by omega,rfl,by go_num,ab ((uh di).symm),n,rfl⟩
    case measure=>simp[intOf];omega
   |false =>
    cases O6:bl.isSome with
    |true =>
     rw[O6]at ku;go_wp2_with fail
     go_quiet (fail)
     go_wp2_with fail
     go_ret;refine⟨?_,n+_,drewN_drewN _ _ _⟩;rw[uh di,O6];rfl
    |false =>
     rw[O6]at ku;cases pw:op.isNone with
     |true =>
      rw[pw]at xV;go_wp2_with fail
      go_quiet (fail)
      go_wp2_with fail
      go_roundw
      case rel =>
       refine⟨k+1,some k,by omega,rfl,by go_num,ab ?_,_,rfl⟩;have:=uh di;rw[O6]at this;simp only[Bool.false_eq_true,if_false]at this;rw[this];cases op with
       |none=>rfl
       |some _=>cases pw
      case measure=>simp[intOf];omega
     |false =>
      rw[pw]at xV;go_wp2_with fail
      go_quiet (fail)
      go_wp2_with fail
      go_roundw
      case rel =>
       refine⟨k+1,op,by omega,rfl,by go_num,ab ?_,_,rfl⟩;have:=uh di;rw[O6]at this;simp only[Bool.false_eq_true,if_false]at this;rw[this];cases op with
       |none=>cases pw
       |some _=>rfl
      case measure=>simp[intOf];omega
  .have hd:decide ((k:Int)<(s.pl.length:Int))=false:=(by simp;omega);have HE:Hid (Y5 T s=op):=ab (by
    rw[<-uh pT,drop_of_length_le (by simp;omega)];rfl)
   clear Uv ez pT;go_wp2_with fail
   go_ret;exact⟨by rw[uh HE];rfl,n,rfl⟩
theorem QJ{W:SS->Nat->Nat->Nat->Bool × SS}{k left count:Nat}{l:List Pr}{i:Nat}(hi:i<l.length){s:SS}{r:Bool × SS}(hr:r=W { s with bd:=s.bd.set left (some (l.getD i ay).l) } k (l.getD i ay).l count):
  Gz W k left count (l.drop i) s=if r.1=true then (true,r.2) else Gz W k left count (l.drop (i+1)) r.2:=by
 rw[drop_eq_getElem_cons hi];have e:l[i]=l.getD i ay:=by simp[hi]
 rw[e];simp only[Gz];rw[<-hr];obtain⟨b,s'⟩:=r;cases b <;> rfl
theorem wQ{y:rN}{T V:CF}(hT:Rm T)(hA:RmA T)(SB:T.ow.length<=1000000)(hVl:V.ow.length<=1000000){m:Nat}(hW:WkC y T V m (wk V T m)):PlC y T V m (zF (wk V T m) V T):=by
 intro w s count h hw hm hc;have dU:count<=T.ow.length:=by omega
 have ID:=h.c1;have hcu:=h.cu;have KL:=h.ft.c6;have Z8:∃ao cap,y.tov=.slice ao T.ow.length cap/\cap<=9223372036854775807/\T.ow.length<=cap:=by
  obtain⟨ao,cap,hv,hm,hn,_⟩:=dR h.ft.ow;exact⟨ao,cap,hv,by unfold maxLen at hm;omega,hn⟩
 obtain⟨tao,tcap,pU,htm,XL⟩:=Z8;rw[pU]at KL;have amk:s.un<=1000000:=by
  have h1:=hw.un;have h2:(sZ s).length<=s.ot.length:=by
   unfold sZ;have:=length_filter_le (λi=>(s.ot.getD i none).isNone) (range s.ot.length);simpa using this
  have h3:=hw.lo;omega
 have HS:=ab h;have Es:=ab hw;have HC:=ab hc;have HM:=ab hm;have HWC:=ab hW;have HTO:=ab pU;clear h hw hc hm hW pU;by_cases h0:T.ow.length=count
 .have hz:((T.ow.length:Int)-(count:Int)==0)=true:=by rw[beq_iff_eq];omega
  have HE:Hid (zF (wk V T m) V T s count=(decide (s.un=0)&&Mb V T s,s)):=ab (by unfold zF;rw[if_pos h0]);have HA:=ab (Kg hA (uh HS));clear h0;by_cases Ge:s.un=0
  .have hu:((s.un:Int)==0)=true:=(by rw[beq_iff_eq];omega);have HU:=ab Ge;clear Ge;go_enter func177,ntmps177;go_wp2_with fail
   refine(uh HA).mono ?_;rintro e w1 ⟨rfl,bB⟩;have gb:=ab bB;clear bB;go_wp2_with fail
   go_ret;rw[uh HE];exact⟨by rw[uh HU];simp,(uh HS).below (uh gb),ar.ofBelow (uh gb)⟩
  .have hu:((s.un:Int)==0)=false:=(by rw[beq_eq_false_iff_ne];omega);have HU:Hid (decide (s.un=0)=false):=ab (by simpa using Ge);clear Ge;go_enter func177,ntmps177;go_wp2_with fail
   go_ret;rw[uh HE];exact⟨by rw[uh HU];rfl,uh HS,ar.refl _ _⟩
 .have hz:((T.ow.length:Int)-(count:Int)==0)=false:=by rw[beq_eq_false_iff_ne];omega
  by_cases h1:s.un<T.ow.length-count
  .have hgt:decide ((s.un:Int)<(T.ow.length:Int)-(count:Int))=true:=(by rw[decide_eq_true_eq];omega);have HE:Hid (zF (wk V T m) V T s count=(false,s)):=ab (by unfold zF;rw[if_neg h0,if_pos h1]);clear h0 h1;go_enter func177,ntmps177;go_wp2_with fail
   go_ret;rw[uh HE];exact⟨rfl,uh HS,ar.refl _ _⟩
  .have hgt:decide ((s.un:Int)<(T.ow.length:Int)-(count:Int))=false:=(by rw[decide_eq_false_iff_not];omega);have HCh:=ab (Fh hT (uh HS) (uh Es).lp);cases pT:Y5 T s with
   |none =>
    have HE:Hid (zF (wk V T m) V T s count=(false,s)):=ab (by unfold zF;rw[if_neg h0,if_neg h1,pT]);rw[pT]at HCh;clear h0 h1 pT;go_enter func177,ntmps177;go_wp2_with fail
    refine(uh HCh).mono ?_;rintro e w1 ⟨rfl,n,rfl⟩;rw[show fV none=(-1:Int) from rfl];go_wp2_with fail
    go_ret;rw[uh HE];exact⟨rfl,(uh HS).drewN n,(ar.refl _ _).drewN n⟩
   |some k =>
    have hk:=CN pT;have hkT:k<T.ow.length:=(by rw[<-(uh Es).lp];exact(GP hk).1);obtain⟨tg,tcap2,PN,-,-⟩:=aE (uh HS).ft.ow hkT;have htt:tao=some ⟨tg,0,none⟩:=by
     have:=(uh HTO).symm.trans PN;injection this
    subst htt;obtain⟨-,-,akV,-⟩:=(uh HS).tcell (uh HTO) hkT;obtain⟨left,m9⟩:∃left,left=(T.ow.getD k ay).l:=⟨_,rfl⟩;have vX:left<24:=(by rw[m9];exact(hT.at k).1);rw[<-m9]at akV;have KS:=(uh HS).cb vX;obtain⟨bl,cL⟩:∃bl,bl=s.b left:=⟨_,rfl⟩;rw[<-cL]at KS;have hk0:decide ((k:Int)<0)=false:=(by simp);rw[pT]at HCh;have HK:=ab hk;cases bl with
    |some a =>
     have HE:Hid (zF (wk V T m) V T s count=wk V T m s k a count):=ab (by
      unfold zF;rw[if_neg h0,if_neg h1,pT];dsimp only;rw[<-m9,<-cL])
     rw[show fV (some a)=(a:Int) from rfl]at KS;have hna:((a:Int) != -1)=true:=oy (some a);clear h0 h1 pT m9 cL hk PN;go_enter func177,ntmps177;go_wp2_with fail
     refine(uh HCh).mono ?_;rintro e w1 ⟨rfl,n,rfl⟩;rw[show fV (some k)=(k:Int) from rfl];go_wp2_with fail
     refine(uh HWC _ s k a count ((uh HS).drewN n) (uh Es) (uh HM) (uh HK) (uh HC)).mono ?_;rintro e w2 ⟨rfl,bZ,hT2⟩;have dh:=ab bZ;have Hd:=ab (((ar.refl y.fp w).drewN n).trans hT2);clear bZ hT2;go_wp2_with fail
     go_ret;rw[uh HE];exact⟨rfl,uh dh,uh Hd⟩
    |none =>
     have HE:Hid (zF (wk V T m) V T s count=Gz (wk V T m) k left count V.ow s):=ab (by
      unfold zF;rw[if_neg h0,if_neg h1,pT];dsimp only;rw[<-m9,<-cL])
     rw[show fV none=(-1:Int) from rfl]at KS;have G8:=ab cL;clear h0 h1 pT m9 cL hk PN;have Mk:=(uh HS).cv;go_enter func177,ntmps177;go_wp2_with fail
     refine(uh HCh).mono ?_;rintro e w1 ⟨rfl,n,rfl⟩;rw[show fV (some k)=(k:Int) from rfl];have qO:s.bd.set left none=s.bd:=by
      have:=j9 s.bd left none;rwa [show s.bd.getD left none=none from (uh G8).symm]at this
     have HSf:=ab qO;clear qO;go_wp2_with fail
     go_loopw [9] (λi wr=>∃(j:Nat) (o:Option Nat) (st:Int),j<=V.ow.length/\i=.int .i64 j/\Hid (Sw wr y T V { s with bd:=s.bd.set left o,st:=st })/\Hid (Gz (wk V T m) k left count (V.ow.drop j) { s with bd:=s.bd.set left o,st:=st }=Gz (wk V T m) k left count V.ow s)/\Hid (ar y.fp w y.fp wr)) (λi _=>V.ow.length-(intOf i).toNat)
     case atStart=>exact⟨0,none,s.st,zq5 _,rfl,ab (by rw[uh HSf];exact(uh HS).drewN n),ab (by rw[uh HSf];rfl),ab ((ar.refl _ _).drewN n)⟩
     case round =>
      obtain⟨j,o,st,hj,rfl,KJ,hpj,hTj⟩:=hrel;have ars:=(uh KJ).cv;have hV6:=(uh KJ).fv.c6;obtain⟨vao,vcap,Gg,ag2,PQ,-⟩:=dR (uh KJ).fv.ow;have UQ:vcap<=9223372036854775807:=(by unfold maxLen at ag2;omega);rw[Gg]at hV6;have HVO:=ab Gg;clear Gg ag2;by_cases au:j<V.ow.length
      .have hd:decide ((j:Int)<(V.ow.length:Int))=true:=(by simp;omega);obtain⟨vg,vcap2,XM,-,-⟩:=aE (uh KJ).fv.ow au;have htt:vao=some ⟨vg,0,none⟩:=by
        have:=(uh HVO).symm.trans XM;injection this
       subst htt;clear XM;obtain⟨-,-,akY,-⟩:=(uh KJ).vcell (uh HVO) au;obtain⟨vl,Gf⟩:∃vl,vl=(V.ow.getD j ay).l:=⟨_,rfl⟩;rw[<-Gf]at akY;have hfz:=(uh KJ).frz (26+left);have Z9:=(uh KJ).cb vX;obtain⟨u0,Ge⟩:∃u0,u0=fV (({ s with bd:=s.bd.set left o,st:=st }:SS).b left):=⟨_,rfl⟩;rw[<-Ge]at Z9;clear Ge;have dA:=(uh KJ).setB vX (some vl);rw[show fV (some vl)=(vl:Int) from rfl]at dA;simp only[set_set]at dA;have AE:=dA.cv;obtain⟨arc,-,akZ,-⟩:=dA.vcell (uh HVO) au;rw[<-Gf]at akZ;have cI:=ab dA;have HVL:=ab Gf;clear dA Gf;have aaK:Wf V T { s with bd:=s.bd.set left (some vl),st:=st }:=⟨(uh Es).lo,(uh Es).lp,by simpa using (uh Es).lb,(uh Es).un⟩;obtain⟨r,hr⟩:∃r,r=wk V T m { s with bd:=s.bd.set left (some vl),st:=st } k vl count:=⟨_,rfl⟩;have mr:=ab (Ej (V:=V) hT m { s with bd:=s.bd.set left (some vl),st:=st } k vl count aaK (uh HK) (uh HC) _ _ hr.symm);have HWk:=ab (λw' (hs:Sw w' y T V { s with bd:=s.bd.set left (some vl),st:=st })=>uh HWC w' _ k vl count hs aaK (uh HM) (uh HK) (uh HC));rw[<-hr]at HWk;have HPl:Hid (Gz (wk V T m) k left count V.ow s=if r.1=true then (true,r.2) else Gz (wk V T m) k left count (V.ow.drop (j+1)) r.2):=ab (by
        rw[<-uh hpj];refine QJ au ?_;rw[hr,<-uh HVL];simp only[set_set])
       have HTs:Hid (ar y.fp w y.fp (wr.setCell ⟨y.q,26+left,none⟩ (.int .i64 (vl:Int)))):=ab ((uh hTj).setCell (zq0 (Sw.memQ y)) _);clear aaK hr KJ hpj hTj;go_wp2_with fail
       go_region
       go_wp2_with fail
       refine(uh HWk (wr.setCell ⟨y.q,26+left,none⟩ (.int .i64 (vl:Int))).drew ((uh cI).of_eq (λ_ _=>rfl))).mono ?_;rintro e w5 ⟨rfl,gh,KK⟩;have L9:Hid (ar y.fp w y.fp w5):=ab ((uh HTs).trans ⟨KK.os,KK.tape,KK.output,KK.size,KK.block,KK.foot⟩);obtain⟨b5,s5⟩:=r;cases b5 with
       |true =>
        have tE:=ab gh;clear gh KK;go_wp2_with fail
        go_ret;rw[uh HE,uh HPl];exact⟨rfl,uh tE,uh L9⟩
       |false =>
        have qN:=(uh mr).1 rfl;dsimp only at gh qN;have tE:=ab gh;have aeh:=ab qN;clear gh KK qN;go_wp2_with fail
        go_roundw
        case rel =>
         refine⟨j+1,some vl,s5.st,by omega,by go_num,ab ?_,ab ?_,L9⟩
         .rw[<-uh aeh];exact uh tE
         .rw[<-uh aeh,uh HPl];rfl
        case measure=>simp[intOf];omega
      .have hd:decide ((j:Int)<(V.ow.length:Int))=false:=(by simp;omega);have hfz:=(uh KJ).frz (26+left);have Z9:=(uh KJ).cb vX;obtain⟨u0,Ge⟩:∃u0,u0=fV (({ s with bd:=s.bd.set left o,st:=st }:SS).b left):=⟨_,rfl⟩;rw[<-Ge]at Z9;clear Ge;have dA:=(uh KJ).setB vX none;rw[show fV none=(-1:Int) from rfl]at dA;simp only[set_set]at dA;have cI:=ab dA;have HTs:Hid (ar y.fp w y.fp (wr.setCell ⟨y.q,26+left,none⟩ (.int .i64 (-1)))):=ab ((uh hTj).setCell (zq0 (Sw.memQ y)) _);have HPl:Hid (Gz (wk V T m) k left count V.ow s=(false,{ s with bd:=s.bd.set left none,st:=st })):=ab (by
        rw[<-uh hpj,drop_of_length_le (by omega)];simp only[Gz,set_set])
       clear dA KJ hpj hTj;go_wp2_with fail
       go_ret;rw[uh HE,uh HPl];exact⟨rfl,uh cI,uh HTs⟩
def aX(a b:ByteArray):Bool:=a.toList==b.toList
def cD:ByteArray:=⟨#[110,105,108]⟩
def gQ(u:ByteArray):Bool:=aX u cD||aK u||lg u
def Fw:List ByteArray->ByteArray->Nat
 |[],_=>0
 |x::r,k=>if aX x k then 0 else Fw r k+1
def amI(l:List ByteArray)(c:ByteArray):Int:=if Fw l c<l.length then Fw l c else -1
def eg:ByteArray:=⟨#[123]⟩
def gC:ByteArray:=⟨#[125]⟩
structure pF where
 op:ByteArray
 x:ByteArray
 y:ByteArray
 cond:ByteArray
 to:Nat
 head:Bool
def em:ByteArray:=⟨#[]⟩
def ry:ByteArray:=⟨#[116,101,115,116]⟩
def bK:ByteArray:=⟨#[42]⟩
def bT:ByteArray:=⟨#[61]⟩
def kX:ByteArray:=⟨#[33,61]⟩
def rcB(l:List ByteArray):Bool:=match l with
 |[a]=>aX a bK
 |[a,b,c]=>aK a&&(aK c||aX c cD)&&(aX b bT||aX b kX)
 |_=>false
def My(l:List ByteArray):pF:=match l with
 |[a,b,c]=>⟨ry,a,c,b,0,false⟩
 |_=>⟨ry,em,em,bK,0,false⟩
structure zY where
 k:ByteArray
 a:ByteArray
 b:ByteArray
def qA:ByteArray:=⟨#[101,109,112]⟩
def EM:ByteArray:=⟨#[108,115]⟩
def LT:ByteArray:=⟨#[45,62]⟩
def uF:ByteArray:=⟨#[40]⟩
def WW:ByteArray:=⟨#[44]⟩
def sU:ByteArray:=⟨#[41]⟩
theorem NW:qA.toList=[101,109,112]:=ByteArray.toList_eq _
theorem XV:EM.toList=[108,115]:=ByteArray.toList_eq _
def yB(l:List ByteArray):Bool:=match l with
 |[a]=>aX a qA
 |[a,b,c]=>gQ a&&gQ c&&(aX b bT||aX b kX||aX b LT)
 |[a,b,c,d,e,f]=>aX a EM&&aX b uF&&aX d WW&&aX f sU&&(gQ c&&gQ e)
 |_=>false
def raE(l:List ByteArray):Bool:=match l with|[_]=>true|_=>false
def raA(l:List ByteArray):zY:=match l with
 |[a,b,c]=>⟨b,a,c⟩
 |[_,_,c,_,e,_]=>⟨EM,c,e⟩
 |_=>⟨em,em,em⟩
def pce(l:List ByteArray):List zY:=if raE l then [] else [raA l]
def SU:List ByteArray->List ByteArray->Option (List zY)
 |cur,[]=>if yB cur then some (pce cur) else none
 |cur,x::r=>if aX x bK then (if yB cur then (SU [] r).map (pce cur++·) else none) else SU (cur++[x]) r
