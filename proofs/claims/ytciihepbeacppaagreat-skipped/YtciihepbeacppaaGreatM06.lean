import Derived.Test.YtciihepbeacppaaGreatM05
set_option maxRecDepth 100000
set_option maxHeartbeats 0
namespace Go.Proofs.YtciihepbeacppaaGreat
open Tryz Go.RowKit List World Below
set_option linter.unusedVariables false
section
variable {w:World} {y:rL} {T V:CF} {s:SS}
theorem aE{w:World}{v:Value}{l:List Pr}(h:w.ownsRow 0 182 3 v l.length (af l)){i:Nat}(hi:i<l.length):∃g cap,v=.slice (some ⟨g,0,none⟩) l.length cap/\cap<=9223372036854775807/\l.length<=cap:=by
 obtain⟨ao,cap,hv,hm,hn,hc⟩:=dQ h;obtain⟨g,s8,_⟩:=hc (by intro e;rw[e]at hi;simp at hi);exact⟨g,cap,by rw[hv,s8],by unfold maxLen at hm;omega,hn⟩
theorem aB{w:World}{l:List Pr}{g cap:Nat}(h:w.ownsRow 0 182 3 (.slice (some ⟨g,0,none⟩) l.length cap) l.length (af l)){i:Nat}(hi:i<l.length):
  w.cell? ⟨g,i*3,none⟩=some (.int .i64 (l.getD i ay).k)/\w.cell? ⟨g,i*3+1,none⟩=some (.int .i64 (l.getD i ay).l)/\w.cell? ⟨g,i*3+2,none⟩=some (.int .i64 (l.getD i ay).r):=by
 rw[jZ hi];have hg:=QK hi;exact⟨(h.cellAt _ (by omega)).trans hg.1,(h.cellAt _ (by omega)).trans hg.2.1,(h.cellAt _ (by omega)).trans hg.2.2⟩
theorem Sw.vcell(h:Sw w y T V s){g cap:Nat}(hv:y.vov=.slice (some ⟨g,0,none⟩) V.ow.length cap){i:Nat}(hi:i<V.ow.length):
  w.cell? ⟨y.v,6,none⟩=some (.slice (some ⟨g,0,none⟩) V.ow.length cap)/\w.cell? ⟨g,i*3,none⟩=some (.int .i64 (V.ow.getD i ay).k)/\w.cell? ⟨g,i*3+1,none⟩=some (.int .i64 (V.ow.getD i ay).l)/\w.cell? ⟨g,i*3+2,none⟩=some (.int .i64 (V.ow.getD i ay).r):=by
 have ho:=h.fv.ow;rw[hv]at ho;exact⟨by rw[h.fv.c6,hv],aB ho hi⟩
theorem Sw.tcell(h:Sw w y T V s){g cap:Nat}(hv:y.tov=.slice (some ⟨g,0,none⟩) T.ow.length cap){i:Nat}(hi:i<T.ow.length):
  w.cell? ⟨y.t,6,none⟩=some (.slice (some ⟨g,0,none⟩) T.ow.length cap)/\w.cell? ⟨g,i*3,none⟩=some (.int .i64 (T.ow.getD i ay).k)/\w.cell? ⟨g,i*3+1,none⟩=some (.int .i64 (T.ow.getD i ay).l)/\w.cell? ⟨g,i*3+2,none⟩=some (.int .i64 (T.ow.getD i ay).r):=by
 have ho:=h.ft.ow;rw[hv]at ho;exact⟨by rw[h.ft.c6,hv],aB ho hi⟩
theorem Sw.ocell(h:Sw w y T V s){O n cap:Nat}(hv:y.ov=.slice (some ⟨O,0,none⟩) n cap){i:Nat}(hi:i<s.ot.length):
  w.cell? ⟨O,i,none⟩=some (.int .i64 (fU (s.ot.getD i none)))/\w.frozen? ⟨O,i,none⟩=false:=by
 obtain⟨O',c',e',_,_,h1,h2⟩:=h.own (by intro e;rw[e]at hi;simp at hi);rw[hv]at e';have eL:O=O':=by injection e' with e1 _ _;injection e1 with e1;injection e1
 subst eL;exact⟨h1 i hi,h2 i⟩
theorem Sw.pcell(h:Sw w y T V s){L n cap:Nat}(hv:y.pv=.slice (some ⟨L,0,none⟩) n cap){i:Nat}(hi:i<s.pl.length):
  w.cell? ⟨L,i,none⟩=some (.bool (s.pl.getD i false))/\w.frozen? ⟨L,i,none⟩=false:=by
 obtain⟨O',c',e',_,_,h1,h2⟩:=h.plc (by intro e;rw[e]at hi;simp at hi);rw[hv]at e';have eL:L=O':=by injection e' with e1 _ _;injection e1 with e1;injection e1
 subst eL;exact⟨h1 i hi,h2 i⟩
end
def RW(V T:CF)(m:Nat)(s2:SS)(k vr count:Nat):Bool × SS:=if (T.ow.getD k ay).k=4 then wk V T m s2 k vr count else (false,s2)
theorem Wp {V T:CF} {m:Nat} {s:SS} {k at_ count i:Nat} (h0:¬ wrap64 (s.st-1)<0) (h1:cD V.ow at_=some i) (h2:s.ot.getD i none=none) (h3:¬ ((T.ow.getD k ay).k≠4/\(V.ow.getD i ay).k=4))
  {r:Bool × SS} (hr:r=Fo (zC (wk V T m) V T) T { s with st:=wrap64 (s.st-1),ot:=s.ot.set i (some k),un:=s.un-1 } k (V.ow.getD i ay).r count) :
  wk V T (m+1) s k at_ count=if r.1=true then (true,r.2) else if (RW V T m r.2 k (V.ow.getD i ay).r count).1=true then (true,(RW V T m r.2 k (V.ow.getD i ay).r count).2) else (false,{ (RW V T m r.2 k (V.ow.getD i ay).r count).2 with ot:=(RW V T m r.2 k (V.ow.getD i ay).r count).2.ot.set i none,un:=(RW V T m r.2 k (V.ow.getD i ay).r count).2.un+1 }):=by
 simp only[wk];rw[if_neg h0,h1];dsimp only;rw[if_neg (by rw[h2];simp),if_neg h3,<-hr];obtain⟨b,s2⟩:=r;cases b with
 |true=>rfl
 |false =>
  dsimp only;rw[show(if (T.ow.getD k ay).k=4 then wk V T m s2 k (V.ow.getD i ay).r count else (false,s2))=RW V T m s2 k (V.ow.getD i ay).r count from rfl];obtain⟨b3,s3⟩:=RW V T m s2 k (V.ow.getD i ay).r count;cases b3 <;> rfl
theorem LT{y:rL}{T V:CF}(hT:Rm T)(hVl:V.ow.length<=1000000){m:Nat}(hW:WkC y T V m (wk V T m))(hP:PlC y T V m (zC (wk V T m) V T)):WkC y T V (m+1) (wk V T (m+1)):=by
 intro w s k at_ count h hw hm hk hc;obtain⟨gJ,hkp⟩:=GN hk;have hkT:k<T.ow.length:=by rw[<-hw.lp];exact gJ
 obtain⟨tg,tcap,pT,htm,XJ⟩:=aE h.ft.ow hkT;have hq8:=h.cs;have arr:=h.frz 54;have dy:=h.setSt (wrap64 (s.st-1));have hc8:=dy.cs;have AB:=dy.cv;have cH:=ab dy;have KR:=dy.c1;have FJ:=dy.co;obtain⟨KJ,ZW,_,_⟩:=dy.tcell pT hkT;obtain⟨w1,zn⟩:∃w1,w1=w.setCell ⟨y.q,54,none⟩ (.int .i64 (wrap64 (s.st-1))):=⟨_,rfl⟩;have B7:Hid (ar y.fp w y.fp w1):=ab (by rw[zn];exact(ar.refl y.fp w).setCell (zq0 (Sw.memQ y)) _);have HB:=ab (cO at_ dy.fv);rw[<-zn]at cH hc8 AB KR FJ KJ ZW HB;have YE:=ab zn;obtain⟨tk0,aaD⟩:∃tk0,tk0=(T.ow.getD k ay).k:=⟨_,rfl⟩;rw[<-aaD]at ZW;have x9:=ab aaD;have HS:=ab h;have Eq:=ab hw;have HK:=ab hk;have HC:=ab hc;have HM:=ab hm;have WG:=ab hP;have HWC:=ab hW;have HTO:=ab pT;clear h hw hm hk hc hP hW hkp dy aaD pT zn;by_cases sj:wrap64 (s.st-1)<0
 .have hn':decide (wrap64 (s.st-1)<0)=true:=by simpa using sj
  have HE:Hid (wk V T (m+1) s k at_ count=(false,{ s with st:=wrap64 (s.st-1) })):=ab (by simp only[wk];rw[if_pos sj]);rw[uh YE]at hc8 cH B7;clear sj AB KR FJ KJ ZW HB;go_enter func207,ntmps207;go_wp2_with fail
  go_ret;rw[uh HE];exact⟨rfl,uh cH,uh B7⟩
 .have hn':decide (wrap64 (s.st-1)<0)=false:=by simpa using sj
  cases nV:cD V.ow at_ with
  |none =>
   have HE:Hid (wk V T (m+1) s k at_ count=(false,{ s with st:=wrap64 (s.st-1) })):=ab (by simp only[wk];rw[if_neg sj,nV]);rw[nV]at HB;rw[uh YE]at hc8 cH B7 AB HB;clear sj KR FJ KJ ZW nV;go_enter func207,ntmps207;go_wp2_with fail
   refine(uh HB).mono ?_;rintro e w2 ⟨rfl,rfl⟩;rw[show fU none=(-1:Int) from rfl];go_wp2_with fail
   go_ret;rw[uh HE];exact⟨rfl,uh cH,uh B7⟩
  |some i =>
   obtain⟨hiV,um⟩:=CJ nV;have KX:i<s.ot.length:=(by rw[(uh Eq).lo];exact hiV);obtain⟨vg,vcap,Ge,UO,PO⟩:=aE (uh cH).fv.ow hiV;obtain⟨O,ocap,gw,agp,ago,_,_⟩:=(uh cH).own (by intro e;have e2:s.ot=[]:=e;rw[e2]at KX;simp at KX);have Dq:y.ov=.slice (some ⟨O,0,none⟩) s.ot.length ocap:=gw;have aph:ocap<=9223372036854775807:=(by unfold maxLen at ago;omega);have api:s.ot.length<=ocap:=agp;obtain⟨ho1,aap⟩:=(uh cH).ocell Dq (i:=i) KX;rw[Dq]at FJ;have UG:w1.cell? ⟨O,i,none⟩=some (.int .i64 (fU (s.ot.getD i none))):=ho1;obtain⟨oi,hoi⟩:∃oi,oi=s.ot.getD i none:=⟨_,rfl⟩;rw[<-hoi]at UG;have agq:=ou oi;obtain⟨hV6,hVk,_,hVr⟩:=(uh cH).vcell Ge hiV;obtain⟨vk,hvk⟩:∃vk,vk=(V.ow.getD i ay).k:=⟨_,rfl⟩;obtain⟨vr,PP⟩:∃vr,vr=(V.ow.getD i ay).r:=⟨_,rfl⟩;rw[<-hvk]at hVk;rw[<-PP]at hVr;rw[nV]at HB;have mQ:=ab nV;have HOI:=ab hoi;have HVK:=ab hvk;have HVR:=ab PP;have LZ:=ab Dq;have HVO:=ab Ge;clear gw Dq ho1 hoi hvk PP nV Ge ago agp um;cases hos:oi.isSome with
   |true =>
    have HE:Hid (wk V T (m+1) s k at_ count=(false,{ s with st:=wrap64 (s.st-1) })):=ab (by
     simp only[wk];rw[if_neg sj,uh mQ];dsimp only;rw[if_pos (by rw[<-uh HOI];intro e;rw[e]at hos;cases hos)])
    rw[hos]at agq;rw[uh YE]at hc8 cH B7 AB HB FJ UG KR KJ ZW;clear sj hV6 hVk hVr aap;go_enter func207,ntmps207;go_wp2_with fail
    refine(uh HB).mono ?_;rintro e w2 ⟨rfl,rfl⟩;rw[show fU (some i)=(i:Int) from rfl];go_wp2_with fail
    go_ret;rw[uh HE];exact⟨rfl,uh cH,uh B7⟩
   |false =>
    have hoN:oi=none:=(by cases oi with|none=>rfl|some _=>cases hos);rw[hos]at agq;by_cases hkk:tk0≠4/\vk=4
    .have HE:Hid (wk V T (m+1) s k at_ count=(false,{ s with st:=wrap64 (s.st-1) })):=ab (by
      simp only[wk];rw[if_neg sj,uh mQ];dsimp only;rw[if_neg (by rw[<-uh HOI,hoN];simp),<-uh x9,<-uh HVK,if_pos hkk])
     have ht4:((tk0:Int)==4)=false:=(by rw[beq_eq_false_iff_ne];omega);have IJ:((vk:Int)==4)=true:=(by rw[beq_iff_eq];omega);rw[uh YE]at hc8 cH B7 AB HB FJ UG KR KJ ZW hV6 hVk;clear sj hVr aap hkk hoN;go_enter func207,ntmps207;go_wp2_with fail
     refine(uh HB).mono ?_;rintro e w2 ⟨rfl,rfl⟩;rw[show fU (some i)=(i:Int) from rfl];go_wp2_with fail
     go_ret;rw[uh HE];exact⟨rfl,uh cH,uh B7⟩
    .have lQ:(sX s).Perm (i::sX { s with st:=wrap64 (s.st-1),ot:=s.ot.set i (some k),un:=s.un-1 }):=CX KX (by rw[<-uh HOI];exact hoN) rfl;have ju:=lQ.length_eq;rw[length_cons]at ju;have asl:1<=s.un:=(by have:=(uh Eq).un;omega);have ami:s.un<=1000000:=by
      have h1:=(uh Eq).un;have h2:(sX s).length<=s.ot.length:=by
       unfold sX;have:=length_filter_le (λi=>(s.ot.getD i none).isNone) (range s.ot.length);simpa using this
      have h3:=(uh Eq).lo;omega
     have afF:((s.un-1:Nat):Int)=(s.un:Int)-1:=(by omega);have gS:=(uh cH).setO (i:=i) (o:=some k) (uh LZ);rw[show fU (some k)=(k:Int) from rfl]at gS;have ak9:=gS.cu;have alo:=gS.frz 52;have gi:=gS.setUn (s.un-1);rw[afF]at gi;have ala:=gi.cv;obtain⟨akV,_,_,afr⟩:=gi.vcell (uh HVO) hiV;rw[<-uh HVR]at afr;have uZ:Hid (ar y.fp w y.fp ((w1.setCell ⟨O,i,none⟩ (.int .i64 (k:Int))).setCell ⟨y.q,52,none⟩ (.int .i64 ((s.un:Int)-1)))):=ab (((uh B7).setCell (zq0 (Sw.memO (uh LZ))) _).setCell (zq0 (Sw.memQ y)) _);have UQ:Wf V T { s with st:=wrap64 (s.st-1),ot:=s.ot.set i (some k),un:=s.un-1 }:=by
      refine⟨by simpa using (uh Eq).lo,(uh Eq).lp,(uh Eq).lb,?_⟩;have h4:=(uh Eq).un;show s.un-1=_;omega
     have Di:({ s with st:=wrap64 (s.st-1),ot:=s.ot.set i (some k),un:=s.un-1 }:SS).un<m:=by
      have:=uh HM;show s.un-1<m;omega
     have S5:=ab (TR (at_:=vr) hT (uh WG) (BC hT (Eh hT m)) gi UQ Di (uh HK) (uh HC));have adL:=fun {b:Bool} {s':SS} (hr:Fo (zC (wk V T m) V T) T { s with st:=wrap64 (s.st-1),ot:=s.ot.set i (some k),un:=s.un-1 } k vr count=(b,s'))=>NX hT (BC hT (Eh hT m)) UQ (uh HK) (uh HC) hr
     obtain⟨r,hr⟩:∃r,r=Fo (zC (wk V T m) V T) T { s with st:=wrap64 (s.st-1),ot:=s.ot.set i (some k),un:=s.un-1 } k vr count:=⟨_,rfl⟩;have HE:=ab (Wp (m:=m) (count:=count) sj (uh mQ) (by rw[<-uh HOI];exact hoN) (by rw[<-uh x9,<-uh HVK];exact hkk) (r:=r) (by rw[<-uh HVR];exact hr));rw[<-uh HVR]at HE;rw[<-hr]at S5;have bm:r.1=false->r.2={ s with st:=r.2.st,ot:=s.ot.set i (some k),un:=s.un-1 }:=λhb=>(adL (b:=r.1) (s':=r.2) hr.symm).1 hb;have mq:=ab bm;have Tk:=ab UQ;have Ha:=ab Di;clear adL hr bm UQ Di gS gi lQ ju;have ht4:((tk0:Int)==4)=decide (tk0=4):=(by rw[Bool.eq_iff_iff,beq_iff_eq,decide_eq_true_eq];omega);have aga:tk0=4\/(vk:Int)≠4:=(by omega);rw[uh YE]at hc8 uZ AB HB FJ UG KR KJ ZW hV6 hVk aap ak9 alo ala akV afr S5;have HKK:=ab aga;have lr:decide ((i:Int)<0)=false:=(by simp);clear sj hkk aga hVr hoN;cases SC:decide (tk0=4) with
     |true =>
      rw[SC]at ht4;go_enter func207,ntmps207;go_wp2_with fail
      refine(uh HB).mono ?_;rintro e w2 ⟨rfl,rfl⟩;rw[show fU (some i)=(i:Int) from rfl];go_wp2_with fail
      refine(uh S5).mono ?_;rintro e w4 ⟨rfl,fD,ZV⟩;obtain⟨b4,s4⟩:=r;cases b4 with
      |true =>
       have mE:=ab fD;have HT4:=ab ((uh uZ).trans ZV);clear fD ZV;go_wp2_with fail
       go_ret;rw[uh HE];exact⟨rfl,uh mE,uh HT4⟩
      |false =>
       have vZ:=uh mq rfl;dsimp only at fD vZ;have aro:=fD.cv;obtain⟨arb,_,_,akY⟩:=fD.vcell (uh HVO) hiV;rw[<-uh HVR]at akY;have aaJ:Wf V T s4:=(by rw[vZ];exact⟨(uh Tk).lo,(uh Tk).lp,(uh Tk).lb,(uh Tk).un⟩);have agV:s4.un=s.un-1:=(by rw[vZ]);have agA:s4.ot=s.ot.set i (some k):=(by rw[vZ]);have PN:uP s4=uP s:=(by rw[vZ];rfl);have HWK:=ab (uh HWC w4 s4 k vr count fD aaJ (by have:=uh Ha;have e:({ s with st:=wrap64 (s.st-1),ot:=s.ot.set i (some k),un:=s.un-1 }:SS).un=s.un-1:=rfl;omega) (by rw[PN];exact uh HK) (by rw[PN];exact uh HC));have aek:=ab (Eh (V:=V) hT m s4 k vr count aaJ (by rw[PN];exact uh HK) (by rw[PN];exact uh HC) _ _ rfl);have HT4:=ab ((uh uZ).trans ZV);have HQ:Hid (RW V T m s4 k vr count=wk V T m s4 k vr count):=ab (by unfold RW;rw[<-uh x9,if_pos (by simpa using SC)]);have HUN:=ab agV;have HOT:=ab agA;clear fD ZV vZ aaJ agV agA PN;go_wp2_with fail
       refine(uh HWK).mono ?_;rintro e w5 ⟨rfl,gg,KI⟩;obtain⟨q,hq⟩:∃q,q=wk V T m s4 k vr count:=⟨_,rfl⟩;rw[<-hq]at gg aek HQ ⊢;obtain⟨b5,s5⟩:=q;cases b5 with
       |true =>
        have tB:=ab gg;have L6:=ab ((uh HT4).trans KI);have HQ5:=ab hq;clear gg KI hq;go_wp2_with fail
        go_ret;rw[uh HE];dsimp only;rw[uh HQ];exact⟨rfl,uh tB,uh L6⟩
       |false =>
        have qN:=(uh aek).1 rfl;dsimp only at gg qN;have L6:=ab ((uh HT4).trans KI);clear KI hq;have aaE:s5.un=s.un-1:=(by rw[qN];exact uh HUN);have PE:s5.ot=s.ot.set i (some k):=(by rw[qN];exact uh HOT);have FQ:s5.ot.length=s.ot.length:=(by rw[PE];simp);have Z8:=gg.co;rw[uh LZ]at Z8;obtain⟨ho5,alM⟩:=gg.ocell (uh LZ) (i:=i) (by rw[FQ];exact KX);have Du:=gg.setO (i:=i) (o:=none) (by rw[FQ];exact uh LZ);rw[show fU none=(-1:Int) from rfl]at Du;have Z9:=Du.cu;have hu6:(({ s5 with ot:=s5.ot.set i none }:SS).un:Int)=(s.un:Int)-1:=by
         have:({ s5 with ot:=s5.ot.set i none }:SS).un=s5.un:=rfl;omega
        rw[hu6]at Z9;have alp:=Du.frz 52;have zm:=Du.setUn (s5.un+1);rw[show((s5.un+1:Nat):Int)=(s.un:Int) by omega]at zm;have WK:=ab zm;have HT7:Hid (ar y.fp w y.fp ((w5.setCell ⟨O,i,none⟩ (.int .i64 (-1))).setCell ⟨y.q,52,none⟩ (.int .i64 (s.un:Int)))):=ab (((uh L6).setCell (zq0 (Sw.memO (uh LZ))) _).setCell (zq0 (Sw.memQ y)) _);clear gg qN aaE PE FQ Du zm hu6;go_wp2_with fail
        go_ret;rw[uh HE];dsimp only;rw[uh HQ];exact⟨rfl,uh WK,uh HT7⟩
     |false =>
      rw[SC]at ht4;have IJ:((vk:Int)==4)=false:=by
       rw[beq_eq_false_iff_ne];rcases uh HKK with h|h
       .rw[h]at SC;simp at SC
       .exact h
      go_enter func207,ntmps207;go_wp2_with fail
      refine(uh HB).mono ?_;rintro e w2 ⟨rfl,rfl⟩;rw[show fU (some i)=(i:Int) from rfl];go_wp2_with fail
      refine(uh S5).mono ?_;rintro e w5 ⟨rfl,gg,ZV⟩;obtain⟨b4,s5⟩:=r;have L6:=ab ((uh uZ).trans ZV);clear ZV;cases b4 with
      |true =>
       have mE:=ab gg;clear gg;go_wp2_with fail
       go_ret;rw[uh HE];exact⟨rfl,uh mE,uh L6⟩
      |false =>
       have qN:=uh mq rfl;dsimp only at gg qN;have HQ:Hid (RW V T m s5 k vr count=(false,s5)):=ab (by unfold RW;rw[<-uh x9,if_neg (by simpa using SC)]);have aaE:s5.un=s.un-1:=(by rw[qN]);have PE:s5.ot=s.ot.set i (some k):=(by rw[qN]);have FQ:s5.ot.length=s.ot.length:=(by rw[PE];simp);have Z8:=gg.co;rw[uh LZ]at Z8;obtain⟨ho5,alM⟩:=gg.ocell (uh LZ) (i:=i) (by rw[FQ];exact KX);have Du:=gg.setO (i:=i) (o:=none) (by rw[FQ];exact uh LZ);rw[show fU none=(-1:Int) from rfl]at Du;have Z9:=Du.cu;have hu6:(({ s5 with ot:=s5.ot.set i none }:SS).un:Int)=(s.un:Int)-1:=by
        have:({ s5 with ot:=s5.ot.set i none }:SS).un=s5.un:=rfl;omega
       rw[hu6]at Z9;have alp:=Du.frz 52;have zm:=Du.setUn (s5.un+1);rw[show((s5.un+1:Nat):Int)=(s.un:Int) by omega]at zm;have WK:=ab zm;have HT7:Hid (ar y.fp w y.fp ((w5.setCell ⟨O,i,none⟩ (.int .i64 (-1))).setCell ⟨y.q,52,none⟩ (.int .i64 (s.un:Int)))):=ab (((uh L6).setCell (zq0 (Sw.memO (uh LZ))) _).setCell (zq0 (Sw.memQ y)) _);clear gg qN aaE PE FQ Du zm hu6;go_wp2_with fail
       go_ret;rw[uh HE];dsimp only;rw[uh HQ];exact⟨rfl,uh WK,uh HT7⟩
def Ma(V:CF)(s:SS)(p:Pr):Bool:=p.l != p.r&&(match s.b p.l,s.b p.r with|some a,some b=>aV V a b|_,_=>true)
theorem Tt{V T:CF}{s:SS}(h:∀j,(hj:j<T.ap.length)->Ma V s T.ap[j]=true):L9 V T s=true:=by
 show T.ap.all (Ma V s)=true;rw[all_eq_true];intro p hp;obtain⟨j,hj,rfl⟩:=mem_iff_getElem.1 hp;exact h j hj
theorem M3{V T:CF}{s:SS}{j:Nat}(hj:j<T.ap.length)(h:Ma V s T.ap[j]=false):L9 V T s=false:=by
 show T.ap.all (Ma V s)=false;rw[all_eq_false];exact⟨_,getElem_mem hj,by rw[h];simp⟩
def RmA(T:CF):Prop:=∀p∈T.ap,p.l<24/\p.r<24
theorem Sw.alloc{w:World}{y:rL}{T V:CF}{s:SS}(h:Sw w y T V s)(o:Obj):Sw (w.alloc o) y T V s:=h.of_eq (λ_ hk=>heap_alloc _ _ _ hk)
theorem Sw.drewN{w:World}{y:rL}{T V:CF}{s:SS}(h:Sw w y T V s)(n:Nat):Sw (w.drewN n) y T V s:=h.of_eq (λ_ _=>by simp)
theorem Gq(w:World)(a b c:Value)(T:TypeId):(w.alloc (.cells #[a,b,c] T)).cell? ⟨w.heap.size,0,none⟩=some a/\(w.alloc (.cells #[a,b,c] T)).cell? ⟨w.heap.size,1,none⟩=some b/\(w.alloc (.cells #[a,b,c] T)).cell? ⟨w.heap.size,2,none⟩=some c:=by
 have h:=λj=>cell_of_row (w.alloc (.cells #[a,b,c] T)) w.heap.size j #[a,b,c] T (0,0) (heap_alloc_new w _);exact⟨h 0,h 1,h 2⟩
theorem DN(o:Option Nat):(fU o==(-1:Int))=o.isNone:=by
 cases o with
 |none=>rfl
 |some n=>simp[fU]
theorem Ke{y:rL}{T V:CF}(hA:RmA T){w:World}{s:SS}(h:Sw w y T V s):
  Calls prog 205 #[.pointer (some ⟨y.q,0,none⟩)] w λe w'=>e=.returned (.bool (L9 V T s))/\Below w.heap.size w w':=by
 obtain⟨ao,cap,ko,hm,Mq,hc⟩:=dQ h.ft.ap;have h5:=h.ft.c5;rw[ko]at h5;have hq1:=h.c1;have HC:=ab hc;have HS:=ab h;clear hc ko h;unfold maxLen at hm;go_enter func205,ntmps205;go_wp2_with fail
 go_loopw [15] (λi wr=>∃k:Nat,k<=T.ap.length/\i=.int .i64 k/\Hid (∀j,(hj:j<T.ap.length)->j<k->Ma V s T.ap[j]=true)/\Below w.heap.size w wr) (λi _=>T.ap.length-(intOf i).toNat)
 case atStart=>exact⟨0,zq5 _,rfl,λ_ _ h=>absurd h (by omega),Below.refl _ _⟩
 case round =>
  obtain⟨k,hk,rfl,d9,cK⟩:=hrel;by_cases au:k<T.ap.length
  .obtain⟨g,s8,ax⟩:=uh HC (by intro h;rw[h]at au;simp at au);subst s8;obtain⟨EI,tp,pU⟩:=ax k au;have c0:=(cK.cell (block_lt_of_cell? w _ EI)).trans EI;have c1:=(cK.cell (block_lt_of_cell? w _ tp)).trans tp;have c2:=(cK.cell (block_lt_of_cell? w _ pU)).trans pU;clear ax EI tp pU;obtain⟨vU,FY⟩:=hA _ (getElem_mem au);obtain⟨p,hp⟩:∃p,p=T.ap[k]:=⟨_,rfl⟩;rw[<-hp]at c0 c1 c2 vU FY;have HP:=ab hp;have HSr:=ab ((uh HS).below cK);have hZ:=(uh HSr).alloc (.cells #[Value.int .i64 p.k,.int .i64 p.l,.int .i64 p.r] 182);have UM:=hZ.cb vU;have hqr:=hZ.cb FY;have hqv:=hZ.cv;have n0:(wr.alloc (.cells #[Value.int .i64 p.k,.int .i64 p.l,.int .i64 p.r] 182)).cell? ⟨wr.heap.size,1,none⟩=some (.int .i64 p.l):=(Gq wr _ _ _ _).2.1;have n1:(wr.alloc (.cells #[Value.int .i64 p.k,.int .i64 p.l,.int .i64 p.r] 182)).cell? ⟨wr.heap.size,2,none⟩=some (.int .i64 p.r):=(Gq wr _ _ _ _).2.2;have Yo:=ab hZ.fv;obtain⟨ba,Ez⟩:∃ba,ba=s.b p.l:=⟨_,rfl⟩;obtain⟨bb,Ay⟩:∃bb,bb=s.b p.r:=⟨_,rfl⟩;rw[<-Ez]at UM;rw[<-Ay]at hqr;have HBA:=ab Ez;have MF:=ab Ay;have HB:=ab cK;have R5:=ab (cK.alloc cK.size (.cells #[Value.int .i64 p.k,.int .i64 p.l,.int .i64 p.r] 182));clear Ez Ay hp cK hZ;by_cases tI:p.l=p.r
   .have he:((p.l:Int)==(p.r:Int))=true:=(by rw[bf];simpa using tI);have HE:Hid (L9 V T s=false):=ab (M3 au (by rw[<-uh HP];unfold Ma;rw[tI];simp));clear tI;go_wp2_with fail
    go_ret;exact⟨by rw[uh HE];rfl,uh R5⟩
   .have he:((p.l:Int)==(p.r:Int))=false:=(by rw[bf];simpa using tI);have HLR:=ab tI;clear tI;have HRo:Hid (∀n,Ma V s p=true->(∃k_1:Nat,k_1<=T.ap.length/\Value.int IntKind.i64 ((k:Int)+1)=Value.int IntKind.i64 k_1/\Hid (∀(j:Nat) (hj:j<T.ap.length),j<k_1->Ma V s T.ap[j]=true)/\Below w.heap.size w ((wr.alloc (Obj.cells #[Value.int IntKind.i64 p.k,Value.int IntKind.i64 p.l,Value.int IntKind.i64 p.r] 182)).drewN n))/\T.ap.length-(intOf (Value.int IntKind.i64 ((k:Int)+1))).toNat<T.ap.length-(intOf (Value.int IntKind.i64 (k:Int))).toNat):=ab (λn h =>
     ⟨⟨k+1,by omega,by go_num,ab (λj hj IE=>by
      by_cases e:j=k
      .subst e;rw[<-uh HP];exact h
      .exact d9.out j hj (by omega)),⟨(uh R5).os,(uh R5).tape,(uh R5).output,by simpa using (uh R5).size,λk hk=>by simpa using (uh R5).block k hk⟩⟩,by simp[intOf];omega⟩)
    have hna:=DN ba;have Px:=DN bb;cases hia:ba.isNone with
    |true =>
     rw[hia]at hna;go_wp2_with fail
     go_quiet (fail)
     go_wp2_with fail
     go_quiet (fail)
     go_wp2_with fail
     refine uh HRo _ ?_;unfold Ma;rw[<-uh HBA,<-uh MF];cases ba with
     |none=>simpa using uh HLR
     |some _=>cases hia
    |false =>
     rw[hia]at hna;cases hib:bb.isNone with
     |true =>
      rw[hib]at Px;go_wp2_with fail
      go_quiet (fail)
      go_wp2_with fail
      go_quiet (fail)
      go_wp2_with fail
      refine uh HRo _ ?_;unfold Ma;rw[<-uh HBA,<-uh MF];cases bb with
      |none=>cases ba <;> simpa using uh HLR
      |some _=>cases hib
     |false =>
      rw[hib]at Px;cases ba with
      |none=>cases hia
      |some a =>
       cases bb with
       |none=>cases hib
       |some b =>
        rw[show fU (some a)=(a:Int) from rfl]at UM hna;rw[show fU (some b)=(b:Int) from rfl]at hqr Px;have HAp:Hid (Ma V s p=aV V a b):=ab (by
         unfold Ma;rw[<-uh HBA,<-uh MF];have:(p.l != p.r)=true:=(by rw[bne_iff_ne];exact uh HLR);rw[this];rfl)
        go_wp2_with fail
        go_quiet (fail)
        go_wp2_with fail
        go_quiet (fail)
        go_wp2_with fail
        refine(l6 a b ((uh Yo).drewN _)).mono ?_;rintro e w3 ⟨rfl,dx⟩;have tA:Hid (Below w.heap.size w w3):=ab (by
         have hz:=uh R5;have hs:=dx.size;have gS:=hz.size;refine⟨dx.os.trans hz.os,dx.tape.trans hz.tape,dx.output.trans hz.output,?_,λk hk=>?_⟩
         .simp only[heap_drewN]at hs;omega
         .refine(dx.block k (by simp only[heap_drewN];omega)).trans ?_;rw[heap_drewN];exact hz.block k hk)
        clear dx;cases yi:aV V a b with
        |true =>
         go_wp2_with fail
         go_roundw
         case rel =>
          refine⟨k+1,by omega,by go_num,ab (λj hj IE=>?_),uh tA⟩;by_cases e:j=k
          .subst e;rw[<-uh HP,uh HAp];exact yi
          .exact d9.out j hj (by omega)
         case measure=>simp[intOf];omega
        |false =>
         have HE:Hid (L9 V T s=false):=ab (M3 au (by rw[<-uh HP,uh HAp];exact yi));go_wp2_with fail
         go_ret;exact⟨by rw[uh HE];rfl,uh tA⟩
  .have hd:decide ((k:Int)<(T.ap.length:Int))=false:=(by simp;omega);have HE:Hid (L9 V T s=true):=ab (Tt (λj hj=>d9.out j hj (by omega)));go_wp2_with fail
   go_ret;exact⟨by rw[uh HE];rfl,cK⟩
theorem Gz{n k:Nat}(h:k<n):(range n).drop k=k::(range n).drop (k+1):=by
 have hl:k<(range n).length:=by simpa using h
 rw[drop_eq_getElem_cons hl];simp
theorem abd(o:Option Nat):decide (fU o<(0:Int))=o.isNone:=by
 cases o with
 |none=>rfl
 |some n=>exact decide_eq_false (by show ¬ ((n:Int)<0);omega)
theorem Fe{y:rL}{T V:CF}(hT:Rm T){w:World}{s:SS}(h:Sw w y T V s)(zj:s.pl.length=T.ow.length):
  Calls prog 206 #[.pointer (some ⟨y.q,0,none⟩)] w λe w'=>e=.returned (.int .i64 (fU (Y3 T s)))/\∃n,w'=w.drewN n:=by
 have HS:=ab h;clear h;have Z6:∃ao cap,y.pv=.slice ao s.pl.length cap/\cap<=9223372036854775807/\s.pl.length<=cap:=by
  rcases(uh HS).pl.2 with⟨h1,h0⟩|⟨O,cap,cur,hv,_,_,Mq,hm,_⟩
  .exact⟨none,0,by rw[h1,h0],by omega,by omega⟩
  .exact⟨_,cap,hv,by unfold maxLen at hm;omega,Mq⟩
 obtain⟨ao,pcap,ew,Cs,hpn⟩:=Z6;go_enter func206,ntmps206;go_wp2_with fail
 go_loopw [3,4] (λo i wr=>∃(k:Nat) (op:Option Nat),k<=s.pl.length/\o=.int .i64 (fU op)/\i=.int .i64 k/\Hid (Sm T s ((range s.pl.length).drop k) op=Y3 T s)/\∃n,wr=w.drewN n) (λ_ i _=>s.pl.length-(intOf i).toNat)
 case atStart=>exact⟨0,none,zq5 _,rfl,rfl,ab rfl,0,rfl⟩
 case round =>
  obtain⟨k,op,hk,rfl,rfl,pS,n,rfl⟩:=hrel;have Ut:=uh HS;have Xr:=Ut.cp;rw[ew]at Xr;have x8:=ab ew;by_cases au:k<s.pl.length
  .obtain⟨L,lcap,hL,-,-,-,-⟩:=Ut.plc (by intro e;rw[e]at au;simp at au);obtain⟨SG,-⟩:=Ut.pcell hL au;have hkT:k<T.ow.length:=(by rw[<-zj];exact au);obtain⟨tg,tcap,pT,htm,XJ⟩:=aE Ut.ft.ow hkT;obtain⟨KJ,-,Sz,-⟩:=Ut.tcell pT hkT;have IB:=Ut.c1;obtain⟨left,m8⟩:∃left,left=(T.ow.getD k ay).l:=⟨_,rfl⟩;have vU:left<24:=(by rw[m8];exact(hT.at k).1);rw[<-m8]at Sz;have KQ:=Ut.cb vU;obtain⟨bl,cK⟩:∃bl,bl=s.b left:=⟨_,rfl⟩;rw[<-cK]at KQ;rw[hL]at ew;have s8:ao=some ⟨L,0,none⟩/\pcap=lcap:=(by injection ew with e1 _ e2;exact⟨e1.symm,e2.symm⟩);rw[s8.1,s8.2]at Xr;have ar2:lcap<=9223372036854775807:=(by omega);have ar3:s.pl.length<=lcap:=(by omega);obtain⟨pb,hpb⟩:∃pb,pb=s.pl.getD k false:=⟨_,rfl⟩;rw[<-hpb]at SG;have aP:Sm T s ((range s.pl.length).drop k) op=if pb=true then Sm T s ((range s.pl.length).drop (k+1)) op else if bl.isSome=true then some k else Sm T s ((range s.pl.length).drop (k+1)) (if op.isSome=true then op else some k):=by
    rw[Gz au];simp only[Sm];rw[<-hpb,<-m8,<-cK]
   rw[uh pS]at aP;have dh:=ab aP;have HLE:=ab m8;have GZ:=ab cK;have WF:=ab hpb;have HTO:=ab pT;have HL:=ab hL;have kq:=ou bl;have xS:=abd op;clear aP m8 cK hpb pT hL ew Ut s8 pS;cases pb with
   |true =>
    go_wp2_with fail
    go_roundw
    case rel=>exact⟨k+1,op,by omega,rfl,by go_num,ab ((uh dh).symm),n,rfl⟩
    case measure=>simp[intOf];omega
   |false =>
    cases O4:bl.isSome with
    |true =>
     rw[O4]at kq;go_wp2_with fail
     go_quiet (fail)
     go_wp2_with fail
     go_ret;refine⟨?_,n+_,drewN_drewN _ _ _⟩;rw[uh dh,O4];rfl
    |false =>
     rw[O4]at kq;cases pq:op.isNone with
     |true =>
      rw[pq]at xS;go_wp2_with fail
      go_quiet (fail)
      go_wp2_with fail
      go_roundw
      case rel =>
       refine⟨k+1,some k,by omega,rfl,by go_num,ab ?_,_,rfl⟩;have:=uh dh;rw[O4]at this;simp only[Bool.false_eq_true,if_false]at this;rw[this];cases op with
       |none=>rfl
       |some _=>cases pq
      case measure=>simp[intOf];omega
     |false =>
      rw[pq]at xS;go_wp2_with fail
      go_quiet (fail)
      go_wp2_with fail
      go_roundw
      case rel =>
       refine⟨k+1,op,by omega,rfl,by go_num,ab ?_,_,rfl⟩;have:=uh dh;rw[O4]at this;simp only[Bool.false_eq_true,if_false]at this;rw[this];cases op with
       |none=>cases pq
       |some _=>rfl
      case measure=>simp[intOf];omega
  .have hd:decide ((k:Int)<(s.pl.length:Int))=false:=(by simp;omega);have HE:Hid (Y3 T s=op):=ab (by
    rw[<-uh pS,drop_of_length_le (by simp;omega)];rfl)
   clear Ut ew pS;go_wp2_with fail
   go_ret;exact⟨by rw[uh HE];rfl,n,rfl⟩
theorem QH{W:SS->Nat->Nat->Nat->Bool × SS}{k left count:Nat}{l:List Pr}{i:Nat}(hi:i<l.length){s:SS}{r:Bool × SS}(hr:r=W { s with bd:=s.bd.set left (some (l.getD i ay).l) } k (l.getD i ay).l count):
  Gx W k left count (l.drop i) s=if r.1=true then (true,r.2) else Gx W k left count (l.drop (i+1)) r.2:=by
 rw[drop_eq_getElem_cons hi];have e:l[i]=l.getD i ay:=by simp[hi]
 rw[e];simp only[Gx];rw[<-hr];obtain⟨b,s'⟩:=r;cases b <;> rfl
theorem wN{y:rL}{T V:CF}(hT:Rm T)(hA:RmA T)(Sz:T.ow.length<=1000000)(hVl:V.ow.length<=1000000){m:Nat}(hW:WkC y T V m (wk V T m)):PlC y T V m (zC (wk V T m) V T):=by
 intro w s count h hw hm hc;have dT:count<=T.ow.length:=by omega
 have IB:=h.c1;have hcu:=h.cu;have KJ:=h.ft.c6;have Z6:∃ao cap,y.tov=.slice ao T.ow.length cap/\cap<=9223372036854775807/\T.ow.length<=cap:=by
  obtain⟨ao,cap,hv,hm,hn,_⟩:=dQ h.ft.ow;exact⟨ao,cap,hv,by unfold maxLen at hm;omega,hn⟩
 obtain⟨tao,tcap,pT,htm,XJ⟩:=Z6;rw[pT]at KJ;have ami:s.un<=1000000:=by
  have h1:=hw.un;have h2:(sX s).length<=s.ot.length:=by
   unfold sX;have:=length_filter_le (λi=>(s.ot.getD i none).isNone) (range s.ot.length);simpa using this
  have h3:=hw.lo;omega
 have HS:=ab h;have Eq:=ab hw;have HC:=ab hc;have HM:=ab hm;have HWC:=ab hW;have HTO:=ab pT;clear h hw hc hm hW pT;by_cases h0:T.ow.length=count
 .have hz:((T.ow.length:Int)-(count:Int)==0)=true:=by rw[beq_iff_eq];omega
  have HE:Hid (zC (wk V T m) V T s count=(decide (s.un=0)&&L9 V T s,s)):=ab (by unfold zC;rw[if_pos h0]);have HA:=ab (Ke hA (uh HS));clear h0;by_cases Gb:s.un=0
  .have hu:((s.un:Int)==0)=true:=(by rw[beq_iff_eq];omega);have HU:=ab Gb;clear Gb;go_enter func177,ntmps177;go_wp2_with fail
   refine(uh HA).mono ?_;rintro e w1 ⟨rfl,bz⟩;have f8:=ab bz;clear bz;go_wp2_with fail
   go_ret;rw[uh HE];exact⟨by rw[uh HU];simp,(uh HS).below (uh f8),ar.ofBelow (uh f8)⟩
  .have hu:((s.un:Int)==0)=false:=(by rw[beq_eq_false_iff_ne];omega);have HU:Hid (decide (s.un=0)=false):=ab (by simpa using Gb);clear Gb;go_enter func177,ntmps177;go_wp2_with fail
   go_ret;rw[uh HE];exact⟨by rw[uh HU];rfl,uh HS,ar.refl _ _⟩
 .have hz:((T.ow.length:Int)-(count:Int)==0)=false:=by rw[beq_eq_false_iff_ne];omega
  by_cases h1:s.un<T.ow.length-count
  .have hgt:decide ((s.un:Int)<(T.ow.length:Int)-(count:Int))=true:=(by rw[decide_eq_true_eq];omega);have HE:Hid (zC (wk V T m) V T s count=(false,s)):=ab (by unfold zC;rw[if_neg h0,if_pos h1]);clear h0 h1;go_enter func177,ntmps177;go_wp2_with fail
   go_ret;rw[uh HE];exact⟨rfl,uh HS,ar.refl _ _⟩
  .have hgt:decide ((s.un:Int)<(T.ow.length:Int)-(count:Int))=false:=(by rw[decide_eq_false_iff_not];omega);have HCh:=ab (Fe hT (uh HS) (uh Eq).lp);cases pS:Y3 T s with
   |none =>
    have HE:Hid (zC (wk V T m) V T s count=(false,s)):=ab (by unfold zC;rw[if_neg h0,if_neg h1,pS]);rw[pS]at HCh;clear h0 h1 pS;go_enter func177,ntmps177;go_wp2_with fail
    refine(uh HCh).mono ?_;rintro e w1 ⟨rfl,n,rfl⟩;rw[show fU none=(-1:Int) from rfl];go_wp2_with fail
    go_ret;rw[uh HE];exact⟨rfl,(uh HS).drewN n,(ar.refl _ _).drewN n⟩
   |some k =>
    have hk:=CL pS;have hkT:k<T.ow.length:=(by rw[<-(uh Eq).lp];exact(GN hk).1);obtain⟨tg,tcap2,PL,-,-⟩:=aE (uh HS).ft.ow hkT;have htt:tao=some ⟨tg,0,none⟩:=by
     have:=(uh HTO).symm.trans PL;injection this
    subst htt;obtain⟨-,-,akT,-⟩:=(uh HS).tcell (uh HTO) hkT;obtain⟨left,m8⟩:∃left,left=(T.ow.getD k ay).l:=⟨_,rfl⟩;have vU:left<24:=(by rw[m8];exact(hT.at k).1);rw[<-m8]at akT;have KQ:=(uh HS).cb vU;obtain⟨bl,cK⟩:∃bl,bl=s.b left:=⟨_,rfl⟩;rw[<-cK]at KQ;have hk0:decide ((k:Int)<0)=false:=(by simp);rw[pS]at HCh;have HK:=ab hk;cases bl with
    |some a =>
     have HE:Hid (zC (wk V T m) V T s count=wk V T m s k a count):=ab (by
      unfold zC;rw[if_neg h0,if_neg h1,pS];dsimp only;rw[<-m8,<-cK])
     rw[show fU (some a)=(a:Int) from rfl]at KQ;have hna:((a:Int) != -1)=true:=ou (some a);clear h0 h1 pS m8 cK hk PL;go_enter func177,ntmps177;go_wp2_with fail
     refine(uh HCh).mono ?_;rintro e w1 ⟨rfl,n,rfl⟩;rw[show fU (some k)=(k:Int) from rfl];go_wp2_with fail
     refine(uh HWC _ s k a count ((uh HS).drewN n) (uh Eq) (uh HM) (uh HK) (uh HC)).mono ?_;rintro e w2 ⟨rfl,bY,hT2⟩;have dg:=ab bY;have Hb:=ab (((ar.refl y.fp w).drewN n).trans hT2);clear bY hT2;go_wp2_with fail
     go_ret;rw[uh HE];exact⟨rfl,uh dg,uh Hb⟩
    |none =>
     have HE:Hid (zC (wk V T m) V T s count=Gx (wk V T m) k left count V.ow s):=ab (by
      unfold zC;rw[if_neg h0,if_neg h1,pS];dsimp only;rw[<-m8,<-cK])
     rw[show fU none=(-1:Int) from rfl]at KQ;have GZ:=ab cK;clear h0 h1 pS m8 cK hk PL;have Mi:=(uh HS).cv;go_enter func177,ntmps177;go_wp2_with fail
     refine(uh HCh).mono ?_;rintro e w1 ⟨rfl,n,rfl⟩;rw[show fU (some k)=(k:Int) from rfl];have qO:s.bd.set left none=s.bd:=by
      have:=j7 s.bd left none;rwa [show s.bd.getD left none=none from (uh GZ).symm]at this
     have HSf:=ab qO;clear qO;go_wp2_with fail
     go_loopw [9] (λi wr=>∃(j:Nat) (o:Option Nat) (st:Int),j<=V.ow.length/\i=.int .i64 j/\Hid (Sw wr y T V { s with bd:=s.bd.set left o,st:=st })/\Hid (Gx (wk V T m) k left count (V.ow.drop j) { s with bd:=s.bd.set left o,st:=st }=Gx (wk V T m) k left count V.ow s)/\Hid (ar y.fp w y.fp wr)) (λi _=>V.ow.length-(intOf i).toNat)
     case atStart=>exact⟨0,none,s.st,zq5 _,rfl,ab (by rw[uh HSf];exact(uh HS).drewN n),ab (by rw[uh HSf];rfl),ab ((ar.refl _ _).drewN n)⟩
     case round =>
      obtain⟨j,o,st,hj,rfl,KH,hpj,hTj⟩:=hrel;have arp:=(uh KH).cv;have hV6:=(uh KH).fv.c6;obtain⟨vao,vcap,Ge,ag0,PO,-⟩:=dQ (uh KH).fv.ow;have UO:vcap<=9223372036854775807:=(by unfold maxLen at ag0;omega);rw[Ge]at hV6;have HVO:=ab Ge;clear Ge ag0;by_cases au:j<V.ow.length
      .have hd:decide ((j:Int)<(V.ow.length:Int))=true:=(by simp;omega);obtain⟨vg,vcap2,XK,-,-⟩:=aE (uh KH).fv.ow au;have htt:vao=some ⟨vg,0,none⟩:=by
        have:=(uh HVO).symm.trans XK;injection this
       subst htt;clear XK;obtain⟨-,-,akW,-⟩:=(uh KH).vcell (uh HVO) au;obtain⟨vl,Gc⟩:∃vl,vl=(V.ow.getD j ay).l:=⟨_,rfl⟩;rw[<-Gc]at akW;have hfz:=(uh KH).frz (26+left);have Z7:=(uh KH).cb vU;obtain⟨u0,Gb⟩:∃u0,u0=fU (({ s with bd:=s.bd.set left o,st:=st }:SS).b left):=⟨_,rfl⟩;rw[<-Gb]at Z7;clear Gb;have dy:=(uh KH).setB vU (some vl);rw[show fU (some vl)=(vl:Int) from rfl]at dy;simp only[set_set]at dy;have AB:=dy.cv;obtain⟨ara,-,akX,-⟩:=dy.vcell (uh HVO) au;rw[<-Gc]at akX;have cH:=ab dy;have HVL:=ab Gc;clear dy Gc;have aaI:Wf V T { s with bd:=s.bd.set left (some vl),st:=st }:=⟨(uh Eq).lo,(uh Eq).lp,by simpa using (uh Eq).lb,(uh Eq).un⟩;obtain⟨r,hr⟩:∃r,r=wk V T m { s with bd:=s.bd.set left (some vl),st:=st } k vl count:=⟨_,rfl⟩;have mq:=ab (Eh (V:=V) hT m { s with bd:=s.bd.set left (some vl),st:=st } k vl count aaI (uh HK) (uh HC) _ _ hr.symm);have HWk:=ab (λw' (hs:Sw w' y T V { s with bd:=s.bd.set left (some vl),st:=st })=>uh HWC w' _ k vl count hs aaI (uh HM) (uh HK) (uh HC));rw[<-hr]at HWk;have HPl:Hid (Gx (wk V T m) k left count V.ow s=if r.1=true then (true,r.2) else Gx (wk V T m) k left count (V.ow.drop (j+1)) r.2):=ab (by
        rw[<-uh hpj];refine QH au ?_;rw[hr,<-uh HVL];simp only[set_set])
       have HTs:Hid (ar y.fp w y.fp (wr.setCell ⟨y.q,26+left,none⟩ (.int .i64 (vl:Int)))):=ab ((uh hTj).setCell (zq0 (Sw.memQ y)) _);clear aaI hr KH hpj hTj;go_wp2_with fail
       go_region
       go_wp2_with fail
       refine(uh HWk (wr.setCell ⟨y.q,26+left,none⟩ (.int .i64 (vl:Int))).drew ((uh cH).of_eq (λ_ _=>rfl))).mono ?_;rintro e w5 ⟨rfl,gg,KI⟩;have L6:Hid (ar y.fp w y.fp w5):=ab ((uh HTs).trans ⟨KI.os,KI.tape,KI.output,KI.size,KI.block,KI.foot⟩);obtain⟨b5,s5⟩:=r;cases b5 with
       |true =>
        have tB:=ab gg;clear gg KI;go_wp2_with fail
        go_ret;rw[uh HE,uh HPl];exact⟨rfl,uh tB,uh L6⟩
       |false =>
        have qN:=(uh mq).1 rfl;dsimp only at gg qN;have tB:=ab gg;have aef:=ab qN;clear gg KI qN;go_wp2_with fail
        go_roundw
        case rel =>
         refine⟨j+1,some vl,s5.st,by omega,by go_num,ab ?_,ab ?_,L6⟩
         .rw[<-uh aef];exact uh tB
         .rw[<-uh aef,uh HPl];rfl
        case measure=>simp[intOf];omega
      .have hd:decide ((j:Int)<(V.ow.length:Int))=false:=(by simp;omega);have hfz:=(uh KH).frz (26+left);have Z7:=(uh KH).cb vU;obtain⟨u0,Gb⟩:∃u0,u0=fU (({ s with bd:=s.bd.set left o,st:=st }:SS).b left):=⟨_,rfl⟩;rw[<-Gb]at Z7;clear Gb;have dy:=(uh KH).setB vU none;rw[show fU none=(-1:Int) from rfl]at dy;simp only[set_set]at dy;have cH:=ab dy;have HTs:Hid (ar y.fp w y.fp (wr.setCell ⟨y.q,26+left,none⟩ (.int .i64 (-1)))):=ab ((uh hTj).setCell (zq0 (Sw.memQ y)) _);have HPl:Hid (Gx (wk V T m) k left count V.ow s=(false,{ s with bd:=s.bd.set left none,st:=st })):=ab (by
        rw[<-uh hpj,drop_of_length_le (by omega)];simp only[Gx,set_set])
       clear dy KH hpj hTj;go_wp2_with fail
       go_ret;rw[uh HE,uh HPl];exact⟨rfl,uh cH,uh HTs⟩
def aX(a b:ByteArray):Bool:=a.toList==b.toList
def cC:ByteArray:=⟨#[110,105,108]⟩
def gP(u:ByteArray):Bool:=aX u cC||aK u||k8 u
def Fu:List ByteArray->ByteArray->Nat
 |[],_=>0
 |x::r,k=>if aX x k then 0 else Fu r k+1
def amI(l:List ByteArray)(c:ByteArray):Int:=if Fu l c<l.length then Fu l c else -1
def ee:ByteArray:=⟨#[123]⟩
def gB:ByteArray:=⟨#[125]⟩
structure pE where
 op:ByteArray
 x:ByteArray
 y:ByteArray
 cond:ByteArray
 to:Nat
 head:Bool
def em:ByteArray:=⟨#[]⟩
def rx:ByteArray:=⟨#[116,101,115,116]⟩
def bJ:ByteArray:=⟨#[42]⟩
def bS:ByteArray:=⟨#[61]⟩
def kU:ByteArray:=⟨#[33,61]⟩
def rcB(l:List ByteArray):Bool:=match l with
 |[a]=>aX a bJ
 |[a,b,c]=>aK a&&(aK c||aX c cC)&&(aX b bS||aX b kU)
 |_=>false
def Mw(l:List ByteArray):pE:=match l with
 |[a,b,c]=>⟨rx,a,c,b,0,false⟩
 |_=>⟨rx,em,em,bJ,0,false⟩
structure zV where
 k:ByteArray
 a:ByteArray
 b:ByteArray
def qA:ByteArray:=⟨#[101,109,112]⟩
def EK:ByteArray:=⟨#[108,115]⟩
def LQ:ByteArray:=⟨#[45,62]⟩
def uC:ByteArray:=⟨#[40]⟩
def WT:ByteArray:=⟨#[44]⟩
def sS:ByteArray:=⟨#[41]⟩
theorem NU:qA.toList=[101,109,112]:=ByteArray.toList_eq _
theorem XT:EK.toList=[108,115]:=ByteArray.toList_eq _
def yy(l:List ByteArray):Bool:=match l with
 |[a]=>aX a qA
 |[a,b,c]=>gP a&&gP c&&(aX b bS||aX b kU||aX b LQ)
 |[a,b,c,d,e,f]=>aX a EK&&aX b uC&&aX d WT&&aX f sS&&(gP c&&gP e)
 |_=>false
def raE(l:List ByteArray):Bool:=match l with|[_]=>true|_=>false
def raA(l:List ByteArray):zV:=match l with
 |[a,b,c]=>⟨b,a,c⟩
 |[_,_,c,_,e,_]=>⟨EK,c,e⟩
 |_=>⟨em,em,em⟩
def pce(l:List ByteArray):List zV:=if raE l then [] else [raA l]
def SR:List ByteArray->List ByteArray->Option (List zV)
 |cur,[]=>if yy cur then some (pce cur) else none
 |cur,x::r=>if aX x bJ then (if yy cur then (SR [] r).map (pce cur++·) else none) else SR (cur++[x]) r
