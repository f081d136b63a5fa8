import Derived.Test.YtciihepbeacppaaGreatM05
set_option maxRecDepth 100000
set_option maxHeartbeats 0
namespace Go.Proofs.YtciihepbeacppaaGreat
open Tryz Go.RowKit List World Below
set_option linter.unusedVariables false
section
variable {w:World} {y:rD} {T V:CF} {s:SS}
theorem aE{w:World}{v:Value}{l:List Pr}(h:w.ownsRow 0 182 3 v l.length (af l)){i:Nat}(hi:i<l.length):∃g cap,v=.slice (some ⟨g,0,none⟩) l.length cap/\cap<=9223372036854775807/\l.length<=cap:=by
 obtain⟨ao,cap,hv,hm,hn,hc⟩:=dH h;obtain⟨g,sN,_⟩:=hc (by intro e;rw[e]at hi;simp at hi);exact⟨g,cap,by rw[hv,sN],by unfold maxLen at hm;omega,hn⟩
theorem aD{w:World}{l:List Pr}{g cap:Nat}(h:w.ownsRow 0 182 3 (.slice (some ⟨g,0,none⟩) l.length cap) l.length (af l)){i:Nat}(hi:i<l.length):
  w.cell? ⟨g,i*3,none⟩=some (.int .i64 (l.getD i ax).k)/\w.cell? ⟨g,i*3+1,none⟩=some (.int .i64 (l.getD i ax).l)/\w.cell? ⟨g,i*3+2,none⟩=some (.int .i64 (l.getD i ax).r):=by
 rw[jQ hi];have hg:=Qs hi;exact⟨(h.cellAt _ (by omega)).trans hg.1,(h.cellAt _ (by omega)).trans hg.2.1,(h.cellAt _ (by omega)).trans hg.2.2⟩
theorem Sw.vcell(h:Sw w y T V s){g cap:Nat}(hv:y.vov=.slice (some ⟨g,0,none⟩) V.ow.length cap){i:Nat}(hi:i<V.ow.length):
  w.cell? ⟨y.v,6,none⟩=some (.slice (some ⟨g,0,none⟩) V.ow.length cap)/\w.cell? ⟨g,i*3,none⟩=some (.int .i64 (V.ow.getD i ax).k)/\w.cell? ⟨g,i*3+1,none⟩=some (.int .i64 (V.ow.getD i ax).l)/\w.cell? ⟨g,i*3+2,none⟩=some (.int .i64 (V.ow.getD i ax).r):=by
 have ho:=h.fv.ow;rw[hv]at ho;exact⟨by rw[h.fv.c6,hv],aD ho hi⟩
theorem Sw.tcell(h:Sw w y T V s){g cap:Nat}(hv:y.tov=.slice (some ⟨g,0,none⟩) T.ow.length cap){i:Nat}(hi:i<T.ow.length):
  w.cell? ⟨y.t,6,none⟩=some (.slice (some ⟨g,0,none⟩) T.ow.length cap)/\w.cell? ⟨g,i*3,none⟩=some (.int .i64 (T.ow.getD i ax).k)/\w.cell? ⟨g,i*3+1,none⟩=some (.int .i64 (T.ow.getD i ax).l)/\w.cell? ⟨g,i*3+2,none⟩=some (.int .i64 (T.ow.getD i ax).r):=by
 have ho:=h.ft.ow;rw[hv]at ho;exact⟨by rw[h.ft.c6,hv],aD ho hi⟩
theorem Sw.ocell(h:Sw w y T V s){O n cap:Nat}(hv:y.ov=.slice (some ⟨O,0,none⟩) n cap){i:Nat}(hi:i<s.ot.length):
  w.cell? ⟨O,i,none⟩=some (.int .i64 (fL (s.ot.getD i none)))/\w.frozen? ⟨O,i,none⟩=false:=by
 obtain⟨O',c',e',_,_,h1,h2⟩:=h.own (by intro e;rw[e]at hi;simp at hi);rw[hv]at e';have eL:O=O':=by injection e' with e1 _ _;injection e1 with e1;injection e1
 subst eL;exact⟨h1 i hi,h2 i⟩
theorem Sw.pcell(h:Sw w y T V s){L n cap:Nat}(hv:y.pv=.slice (some ⟨L,0,none⟩) n cap){i:Nat}(hi:i<s.pl.length):
  w.cell? ⟨L,i,none⟩=some (.bool (s.pl.getD i false))/\w.frozen? ⟨L,i,none⟩=false:=by
 obtain⟨O',c',e',_,_,h1,h2⟩:=h.plc (by intro e;rw[e]at hi;simp at hi);rw[hv]at e';have eL:L=O':=by injection e' with e1 _ _;injection e1 with e1;injection e1
 subst eL;exact⟨h1 i hi,h2 i⟩
end
def Rq(V T:CF)(m:Nat)(s2:SS)(k vr count:Nat):Bool × SS:=if (T.ow.getD k ax).k=4 then wk V T m s2 k vr count else (false,s2)
theorem V1 {V T:CF} {m:Nat} {s:SS} {k at_ count i:Nat} (h0:¬ wrap64 (s.st-1)<0) (h1:cU V.ow at_=some i) (h2:s.ot.getD i none=none) (h3:¬ ((T.ow.getD k ax).k≠4/\(V.ow.getD i ax).k=4))
  {r:Bool × SS} (hr:r=E3 (y9 (wk V T m) V T) T { s with st:=wrap64 (s.st-1),ot:=s.ot.set i (some k),un:=s.un-1 } k (V.ow.getD i ax).r count) :
  wk V T (m+1) s k at_ count=if r.1=true then (true,r.2) else if (Rq V T m r.2 k (V.ow.getD i ax).r count).1=true then (true,(Rq V T m r.2 k (V.ow.getD i ax).r count).2) else (false,{ (Rq V T m r.2 k (V.ow.getD i ax).r count).2 with ot:=(Rq V T m r.2 k (V.ow.getD i ax).r count).2.ot.set i none,un:=(Rq V T m r.2 k (V.ow.getD i ax).r count).2.un+1 }):=by
 simp only[wk];rw[if_neg h0,h1];dsimp only;rw[if_neg (by rw[h2];simp),if_neg h3,<-hr];obtain⟨b,s2⟩:=r;cases b with
 |true=>rfl
 |false =>
  dsimp only;rw[show(if (T.ow.getD k ax).k=4 then wk V T m s2 k (V.ow.getD i ax).r count else (false,s2))=Rq V T m s2 k (V.ow.getD i ax).r count from rfl];obtain⟨b3,s3⟩:=Rq V T m s2 k (V.ow.getD i ax).r count;cases b3 <;> rfl
theorem LE{y:rD}{T V:CF}(hT:Rm T)(hVl:V.ow.length<=1000000){m:Nat}(hW:WkC y T V m (wk V T m))(hP:PlC y T V m (y9 (wk V T m) V T)):WkC y T V (m+1) (wk V T (m+1)):=by
 intro w s k at_ count h hw hm hk hc;obtain⟨j5,hkp⟩:=GA hk;have hkT:k<T.ow.length:=by rw[<-hw.lp];exact j5
 obtain⟨tg,tcap,pM,htm,Xx⟩:=aE h.ft.ow hkT;have hq8:=h.cs;have arv:=h.frz 54;have dy:=h.setSt (wrap64 (s.st-1));have hc8:=dy.cs;have Fu:=dy.cv;have cD:=ab dy;have KB:=dy.c1;have Ft:=dy.co;obtain⟨Ku,ZM,_,_⟩:=dy.tcell pM hkT;obtain⟨w1,tZ⟩:∃w1,w1=w.setCell ⟨y.q,54,none⟩ (.int .i64 (wrap64 (s.st-1))):=⟨_,rfl⟩;have By:Hid (au y.fp w y.fp w1):=ab (by rw[tZ];exact(au.refl y.fp w).setCell (zq0 (Sw.memQ y)) _);have HB:=ab (cI at_ dy.fv);rw[<-tZ]at cD hc8 Fu KB Ft Ku ZM HB;have Ys:=ab tZ;obtain⟨tk0,aaD⟩:∃tk0,tk0=(T.ow.getD k ax).k:=⟨_,rfl⟩;rw[<-aaD]at ZM;have xK:=ab aaD;have HS:=ab h;have D5:=ab hw;have HK:=ab hk;have HC:=ab hc;have HM:=ab hm;have Wj:=ab hP;have HWC:=ab hW;have HTO:=ab pM;clear h hw hm hk hc hP hW hkp dy aaD pM tZ;by_cases rY:wrap64 (s.st-1)<0
 .have hn':decide (wrap64 (s.st-1)<0)=true:=by simpa using rY
  have HE:Hid (wk V T (m+1) s k at_ count=(false,{ s with st:=wrap64 (s.st-1) })):=ab (by simp only[wk];rw[if_pos rY]);rw[uh Ys]at hc8 cD By;clear rY Fu KB Ft Ku ZM HB;go_enter func207,ntmps207;go_wp2_with fail
  go_ret;rw[uh HE];exact⟨rfl,uh cD,uh By⟩
 .have hn':decide (wrap64 (s.st-1)<0)=false:=by simpa using rY
  cases pJ:cU V.ow at_ with
  |none =>
   have HE:Hid (wk V T (m+1) s k at_ count=(false,{ s with st:=wrap64 (s.st-1) })):=ab (by simp only[wk];rw[if_neg rY,pJ]);rw[pJ]at HB;rw[uh Ys]at hc8 cD By Fu HB;clear rY KB Ft Ku ZM pJ;go_enter func207,ntmps207;go_wp2_with fail
   refine(uh HB).mono ?_;rintro e w2 ⟨rfl,rfl⟩;rw[show fL none=(-1:Int) from rfl];go_wp2_with fail
   go_ret;rw[uh HE];exact⟨rfl,uh cD,uh By⟩
  |some i =>
   obtain⟨hiV,xx⟩:=kZ pJ;have Xj:i<s.ot.length:=(by rw[(uh D5).lo];exact hiV);obtain⟨vg,vcap,FP,Uo,Ps⟩:=aE (uh cD).fv.ow hiV;obtain⟨O,ocap,gj,agp,ago,_,_⟩:=(uh cD).own (by intro e;have e2:s.ot=[]:=e;rw[e2]at Xj;simp at Xj);have C2:y.ov=.slice (some ⟨O,0,none⟩) s.ot.length ocap:=gj;have apl:ocap<=9223372036854775807:=(by unfold maxLen at ago;omega);have apm:s.ot.length<=ocap:=agp;obtain⟨ho1,aaq⟩:=(uh cD).ocell C2 (i:=i) Xj;rw[C2]at Ft;have Uh:w1.cell? ⟨O,i,none⟩=some (.int .i64 (fL (s.ot.getD i none))):=ho1;obtain⟨oi,hoi⟩:∃oi,oi=s.ot.getD i none:=⟨_,rfl⟩;rw[<-hoi]at Uh;have agq:=oh oi;obtain⟨hV6,hVk,_,hVr⟩:=(uh cD).vcell FP hiV;obtain⟨vk,hvk⟩:∃vk,vk=(V.ow.getD i ax).k:=⟨_,rfl⟩;obtain⟨vr,Pt⟩:∃vr,vr=(V.ow.getD i ax).r:=⟨_,rfl⟩;rw[<-hvk]at hVk;rw[<-Pt]at hVr;rw[pJ]at HB;have mL:=ab pJ;have HOI:=ab hoi;have HVK:=ab hvk;have HVR:=ab Pt;have LM:=ab C2;have HVO:=ab FP;clear gj C2 ho1 hoi hvk Pt pJ FP ago agp xx;cases hos:oi.isSome with
   |true =>
    have HE:Hid (wk V T (m+1) s k at_ count=(false,{ s with st:=wrap64 (s.st-1) })):=ab (by
     simp only[wk];rw[if_neg rY,uh mL];dsimp only;rw[if_pos (by rw[<-uh HOI];intro e;rw[e]at hos;cases hos)])
    rw[hos]at agq;rw[uh Ys]at hc8 cD By Fu HB Ft Uh KB Ku ZM;clear rY hV6 hVk hVr aaq;go_enter func207,ntmps207;go_wp2_with fail
    refine(uh HB).mono ?_;rintro e w2 ⟨rfl,rfl⟩;rw[show fL (some i)=(i:Int) from rfl];go_wp2_with fail
    go_ret;rw[uh HE];exact⟨rfl,uh cD,uh By⟩
   |false =>
    have hoN:oi=none:=(by cases oi with|none=>rfl|some _=>cases hos);rw[hos]at agq;by_cases hkk:tk0≠4/\vk=4
    .have HE:Hid (wk V T (m+1) s k at_ count=(false,{ s with st:=wrap64 (s.st-1) })):=ab (by
      simp only[wk];rw[if_neg rY,uh mL];dsimp only;rw[if_neg (by rw[<-uh HOI,hoN];simp),<-uh xK,<-uh HVK,if_pos hkk])
     have ht4:((tk0:Int)==4)=false:=(by rw[beq_eq_false_iff_ne];omega);have Ip:((vk:Int)==4)=true:=(by rw[beq_iff_eq];omega);rw[uh Ys]at hc8 cD By Fu HB Ft Uh KB Ku ZM hV6 hVk;clear rY hVr aaq hkk hoN;go_enter func207,ntmps207;go_wp2_with fail
     refine(uh HB).mono ?_;rintro e w2 ⟨rfl,rfl⟩;rw[show fL (some i)=(i:Int) from rfl];go_wp2_with fail
     go_ret;rw[uh HE];exact⟨rfl,uh cD,uh By⟩
    .have iX:(qa s).Perm (i::qa { s with st:=wrap64 (s.st-1),ot:=s.ot.set i (some k),un:=s.un-1 }):=CB Xj (by rw[<-uh HOI];exact hoN) rfl;have kT:=iX.length_eq;rw[length_cons]at kT;have asq:1<=s.un:=(by have:=(uh D5).un;omega);have ami:s.un<=1000000:=by
      have h1:=(uh D5).un;have h2:(qa s).length<=s.ot.length:=by
       unfold qa;have:=length_filter_le (λi=>(s.ot.getD i none).isNone) (range s.ot.length);simpa using this
      have h3:=(uh D5).lo;omega
     have afD:((s.un-1:Nat):Int)=(s.un:Int)-1:=by omega
     -- the worlds behind the stores
     have gQ:=(uh cD).setO (i:=i) (o:=some k) (uh LM);rw[show fL (some k)=(k:Int) from rfl]at gQ;have ak5:=gQ.cu;have aln:=gQ.frz 52;have f8:=gQ.setUn (s.un-1);rw[afD]at f8;have ak6:=f8.cv;obtain⟨akP,_,_,afp⟩:=f8.vcell (uh HVO) hiV;rw[<-uh HVR]at afp;have uE:Hid (au y.fp w y.fp ((w1.setCell ⟨O,i,none⟩ (.int .i64 (k:Int))).setCell ⟨y.q,52,none⟩ (.int .i64 ((s.un:Int)-1)))):=ab (((uh By).setCell (zq0 (Sw.memO (uh LM))) _).setCell (zq0 (Sw.memQ y)) _);have Uq:Wf V T { s with st:=wrap64 (s.st-1),ot:=s.ot.set i (some k),un:=s.un-1 }:=by
      refine⟨by simpa using (uh D5).lo,(uh D5).lp,(uh D5).lb,?_⟩;have h4:=(uh D5).un;show s.un-1=_;omega
     have CU:({ s with st:=wrap64 (s.st-1),ot:=s.ot.set i (some k),un:=s.un-1 }:SS).un<m:=by
      have:=uh HM;show s.un-1<m;omega
     have Si:=ab (Tj (at_:=vr) hT (uh Wj) (so hT (wY hT m)) f8 Uq CU (uh HK) (uh HC));have adO:=fun {b:Bool} {s':SS} (hr:E3 (y9 (wk V T m) V T) T { s with st:=wrap64 (s.st-1),ot:=s.ot.set i (some k),un:=s.un-1 } k vr count=(b,s'))=>NF hT (so hT (wY hT m)) Uq (uh HK) (uh HC) hr
     obtain⟨r,hr⟩:∃r,r=E3 (y9 (wk V T m) V T) T { s with st:=wrap64 (s.st-1),ot:=s.ot.set i (some k),un:=s.un-1 } k vr count:=⟨_,rfl⟩;have HE:=ab (V1 (m:=m) (count:=count) rY (uh mL) (by rw[<-uh HOI];exact hoN) (by rw[<-uh xK,<-uh HVK];exact hkk) (r:=r) (by rw[<-uh HVR];exact hr));rw[<-uh HVR]at HE;rw[<-hr]at Si;have bD:r.1=false->r.2={ s with st:=r.2.st,ot:=s.ot.set i (some k),un:=s.un-1 }:=λhb=>(adO (b:=r.1) (s':=r.2) hr.symm).1 hb;have kO:=ab bD;have SA:=ab Uq;have GO:=ab CU;clear adO hr bD Uq CU gQ f8 iX kT;have ht4:((tk0:Int)==4)=decide (tk0=4):=(by rw[Bool.eq_iff_iff,beq_iff_eq,decide_eq_true_eq];omega);have af9:tk0=4\/(vk:Int)≠4:=(by omega);rw[uh Ys]at hc8 uE Fu HB Ft Uh KB Ku ZM hV6 hVk aaq ak5 aln ak6 akP afp Si;have HKK:=ab af9;have k9:decide ((i:Int)<0)=false:=(by simp);clear rY hkk af9 hVr hoN;cases RO:decide (tk0=4) with
     |true =>
      rw[RO]at ht4;go_enter func207,ntmps207;go_wp2_with fail
      refine(uh HB).mono ?_;rintro e w2 ⟨rfl,rfl⟩;rw[show fL (some i)=(i:Int) from rfl];go_wp2_with fail
      refine(uh Si).mono ?_;rintro e w4 ⟨rfl,fh,ZL⟩;obtain⟨b4,s4⟩:=r;cases b4 with
      |true =>
       have mA:=ab fh;have HT4:=ab ((uh uE).trans ZL);clear fh ZL;go_wp2_with fail
       go_ret;rw[uh HE];exact⟨rfl,uh mA,uh HT4⟩
      |false =>
       have vD:=uh kO rfl;dsimp only at fh vD;have arq:=fh.cv;obtain⟨arc,_,_,akS⟩:=fh.vcell (uh HVO) hiV;rw[<-uh HVR]at akS;have aaL:Wf V T s4:=(by rw[vD];exact⟨(uh SA).lo,(uh SA).lp,(uh SA).lb,(uh SA).un⟩);have agV:s4.un=s.un-1:=(by rw[vD]);have agA:s4.ot=s.ot.set i (some k):=(by rw[vD]);have Pp:uP s4=uP s:=(by rw[vD];rfl);have HWK:=ab (uh HWC w4 s4 k vr count fh aaL (by have:=uh GO;have e:({ s with st:=wrap64 (s.st-1),ot:=s.ot.set i (some k),un:=s.un-1 }:SS).un=s.un-1:=rfl;omega) (by rw[Pp];exact uh HK) (by rw[Pp];exact uh HC));have aem:=ab (wY (V:=V) hT m s4 k vr count aaL (by rw[Pp];exact uh HK) (by rw[Pp];exact uh HC) _ _ rfl);have HT4:=ab ((uh uE).trans ZL);have HQ:Hid (Rq V T m s4 k vr count=wk V T m s4 k vr count):=ab (by unfold Rq;rw[<-uh xK,if_pos (by simpa using RO)]);have HUN:=ab agV;have HOT:=ab agA;clear fh ZL vD aaL agV agA Pp;go_wp2_with fail
       refine(uh HWK).mono ?_;rintro e w5 ⟨rfl,fX,Kt⟩;obtain⟨q,hq⟩:∃q,q=wk V T m s4 k vr count:=⟨_,rfl⟩;rw[<-hq]at fX aem HQ ⊢;obtain⟨b5,s5⟩:=q;cases b5 with
       |true =>
        have s9:=ab fX;have LP:=ab ((uh HT4).trans Kt);have HQ5:=ab hq;clear fX Kt hq;go_wp2_with fail
        go_ret;rw[uh HE];dsimp only;rw[uh HQ];exact⟨rfl,uh s9,uh LP⟩
       |false =>
        have qC:=(uh aem).1 rfl;dsimp only at fX qC;have LP:=ab ((uh HT4).trans Kt);clear Kt hq;have aaE:s5.un=s.un-1:=(by rw[qC];exact uh HUN);have Ph:s5.ot=s.ot.set i (some k):=(by rw[qC];exact uh HOT);have FB:s5.ot.length=s.ot.length:=(by rw[Ph];simp);have ZZ:=fX.co;rw[uh LM]at ZZ;obtain⟨ho5,alQ⟩:=fX.ocell (uh LM) (i:=i) (by rw[FB];exact Xj);have C6:=fX.setO (i:=i) (o:=none) (by rw[FB];exact uh LM);rw[show fL none=(-1:Int) from rfl]at C6;have Z0:=C6.cu;have hu6:(({ s5 with ot:=s5.ot.set i none }:SS).un:Int)=(s.un:Int)-1:=by
         have:({ s5 with ot:=s5.ot.set i none }:SS).un=s5.un:=rfl;omega
        rw[hu6]at Z0;have alo:=C6.frz 52;have yP:=C6.setUn (s5.un+1);rw[show((s5.un+1:Nat):Int)=(s.un:Int) by omega]at yP;have Wn:=ab yP;have HT7:Hid (au y.fp w y.fp ((w5.setCell ⟨O,i,none⟩ (.int .i64 (-1))).setCell ⟨y.q,52,none⟩ (.int .i64 (s.un:Int)))):=ab (((uh LP).setCell (zq0 (Sw.memO (uh LM))) _).setCell (zq0 (Sw.memQ y)) _);clear fX qC aaE Ph FB C6 yP hu6;go_wp2_with fail
        go_ret;rw[uh HE];dsimp only;rw[uh HQ];exact⟨rfl,uh Wn,uh HT7⟩
     |false =>
      rw[RO]at ht4;have Ip:((vk:Int)==4)=false:=by
       rw[beq_eq_false_iff_ne];rcases uh HKK with h|h
       .rw[h]at RO;simp at RO
       .exact h
      go_enter func207,ntmps207;go_wp2_with fail
      refine(uh HB).mono ?_;rintro e w2 ⟨rfl,rfl⟩;rw[show fL (some i)=(i:Int) from rfl];go_wp2_with fail
      refine(uh Si).mono ?_;rintro e w5 ⟨rfl,fX,ZL⟩;obtain⟨b4,s5⟩:=r;have LP:=ab ((uh uE).trans ZL);clear ZL;cases b4 with
      |true =>
       have mA:=ab fX;clear fX;go_wp2_with fail
       go_ret;rw[uh HE];exact⟨rfl,uh mA,uh LP⟩
      |false =>
       have qC:=uh kO rfl;dsimp only at fX qC;have HQ:Hid (Rq V T m s5 k vr count=(false,s5)):=ab (by unfold Rq;rw[<-uh xK,if_neg (by simpa using RO)]);have aaE:s5.un=s.un-1:=(by rw[qC]);have Ph:s5.ot=s.ot.set i (some k):=(by rw[qC]);have FB:s5.ot.length=s.ot.length:=(by rw[Ph];simp);have ZZ:=fX.co;rw[uh LM]at ZZ;obtain⟨ho5,alQ⟩:=fX.ocell (uh LM) (i:=i) (by rw[FB];exact Xj);have C6:=fX.setO (i:=i) (o:=none) (by rw[FB];exact uh LM);rw[show fL none=(-1:Int) from rfl]at C6;have Z0:=C6.cu;have hu6:(({ s5 with ot:=s5.ot.set i none }:SS).un:Int)=(s.un:Int)-1:=by
        have:({ s5 with ot:=s5.ot.set i none }:SS).un=s5.un:=rfl;omega
       rw[hu6]at Z0;have alo:=C6.frz 52;have yP:=C6.setUn (s5.un+1);rw[show((s5.un+1:Nat):Int)=(s.un:Int) by omega]at yP;have Wn:=ab yP;have HT7:Hid (au y.fp w y.fp ((w5.setCell ⟨O,i,none⟩ (.int .i64 (-1))).setCell ⟨y.q,52,none⟩ (.int .i64 (s.un:Int)))):=ab (((uh LP).setCell (zq0 (Sw.memO (uh LM))) _).setCell (zq0 (Sw.memQ y)) _);clear fX qC aaE Ph FB C6 yP hu6;go_wp2_with fail
       go_ret;rw[uh HE];dsimp only;rw[uh HQ];exact⟨rfl,uh Wn,uh HT7⟩
def LU(V:CF)(s:SS)(p:Pr):Bool:=p.l != p.r&&(match s.b p.l,s.b p.r with|some a,some b=>bj V a b|_,_=>true)
theorem SM{V T:CF}{s:SS}(h:∀j,(hj:j<T.ap.length)->LU V s T.ap[j]=true):LT V T s=true:=by
 show T.ap.all (LU V s)=true;rw[all_eq_true];intro p hp;obtain⟨j,hj,rfl⟩:=mem_iff_getElem.1 hp;exact h j hj
theorem MO{V T:CF}{s:SS}{j:Nat}(hj:j<T.ap.length)(h:LU V s T.ap[j]=false):LT V T s=false:=by
 show T.ap.all (LU V s)=false;rw[all_eq_false];exact⟨_,getElem_mem hj,by rw[h];simp⟩
def RmA(T:CF):Prop:=∀p∈T.ap,p.l<24/\p.r<24
theorem Sw.alloc{w:World}{y:rD}{T V:CF}{s:SS}(h:Sw w y T V s)(o:Obj):Sw (w.alloc o) y T V s:=h.of_eq (λ_ hk=>heap_alloc _ _ _ hk)
theorem Sw.drewN{w:World}{y:rD}{T V:CF}{s:SS}(h:Sw w y T V s)(n:Nat):Sw (w.drewN n) y T V s:=h.of_eq (λ_ _=>by simp)
theorem Ga(w:World)(a b c:Value)(T:TypeId):(w.alloc (.cells #[a,b,c] T)).cell? ⟨w.heap.size,0,none⟩=some a/\(w.alloc (.cells #[a,b,c] T)).cell? ⟨w.heap.size,1,none⟩=some b/\(w.alloc (.cells #[a,b,c] T)).cell? ⟨w.heap.size,2,none⟩=some c:=by
 have h:=λj=>cell_of_row (w.alloc (.cells #[a,b,c] T)) w.heap.size j #[a,b,c] T (0,0) (heap_alloc_new w _);exact⟨h 0,h 1,h 2⟩
theorem Dp(o:Option Nat):(fL o==(-1:Int))=o.isNone:=by
 cases o with
 |none=>rfl
 |some n=>simp[fL]
theorem JV{y:rD}{T V:CF}(hA:RmA T){w:World}{s:SS}(h:Sw w y T V s):
  Calls prog 205 #[.pointer (some ⟨y.q,0,none⟩)] w λe w'=>e=.returned (.bool (LT V T s))/\Below w.heap.size w w':=by
 obtain⟨ao,cap,l5,hm,Md,hc⟩:=dH h.ft.ap;have h5:=h.ft.c5;rw[l5]at h5;have RT:=h.c1;have HC:=ab hc;have HS:=ab h;clear hc l5 h;unfold maxLen at hm;go_enter func205,ntmps205;go_wp2_with fail
 go_loopw [15] (λi wr=>∃k:Nat,k<=T.ap.length/\i=.int .i64 k/\Hid (∀j,(hj:j<T.ap.length)->j<k->LU V s T.ap[j]=true)/\Below w.heap.size w wr) (λi _=>T.ap.length-(intOf i).toNat)
 case atStart=>exact⟨0,zq5 _,rfl,λ_ _ h=>absurd h (by omega),Below.refl _ _⟩
 case round =>
  obtain⟨k,hk,rfl,fP,cH⟩:=hrel;by_cases ar:k<T.ap.length
  .obtain⟨g,sN,ay⟩:=uh HC (by intro h;rw[h]at ar;simp at ar);subst sN;obtain⟨Eo,vF,r9⟩:=ay k ar;have c0:=(cH.cell (block_lt_of_cell? w _ Eo)).trans Eo;have c1:=(cH.cell (block_lt_of_cell? w _ vF)).trans vF;have c2:=(cH.cell (block_lt_of_cell? w _ r9)).trans r9;clear ay Eo vF r9;obtain⟨vu,FJ⟩:=hA _ (getElem_mem ar);obtain⟨p,hp⟩:∃p,p=T.ap[k]:=⟨_,rfl⟩;rw[<-hp]at c0 c1 c2 vu FJ;have HP:=ab hp;have HSr:=ab ((uh HS).below cH);have hZ:=(uh HSr).alloc (.cells #[Value.int .i64 p.k,.int .i64 p.l,.int .i64 p.r] 182);have Um:=hZ.cb vu;have hqr:=hZ.cb FJ;have hqv:=hZ.cv;have n0:(wr.alloc (.cells #[Value.int .i64 p.k,.int .i64 p.l,.int .i64 p.r] 182)).cell? ⟨wr.heap.size,1,none⟩=some (.int .i64 p.l):=(Ga wr _ _ _ _).2.1;have n1:(wr.alloc (.cells #[Value.int .i64 p.k,.int .i64 p.l,.int .i64 p.r] 182)).cell? ⟨wr.heap.size,2,none⟩=some (.int .i64 p.r):=(Ga wr _ _ _ _).2.2;have Yc:=ab hZ.fv;obtain⟨ba,Eh⟩:∃ba,ba=s.b p.l:=⟨_,rfl⟩;obtain⟨bb,zX⟩:∃bb,bb=s.b p.r:=⟨_,rfl⟩;rw[<-Eh]at Um;rw[<-zX]at hqr;have HBA:=ab Eh;have Mn:=ab zX;have HB:=ab cH;have Rv:=ab (cH.alloc cH.size (.cells #[Value.int .i64 p.k,.int .i64 p.l,.int .i64 p.r] 182));clear Eh zX hp cH hZ;by_cases tu:p.l=p.r
   .have he:((p.l:Int)==(p.r:Int))=true:=(by rw[bp];simpa using tu);have HE:Hid (LT V T s=false):=ab (MO ar (by rw[<-uh HP];unfold LU;rw[tu];simp));clear tu;go_wp2_with fail
    go_ret;exact⟨by rw[uh HE];rfl,uh Rv⟩
   .have he:((p.l:Int)==(p.r:Int))=false:=(by rw[bp];simpa using tu);have HLR:=ab tu;clear tu;have HRo:Hid (∀n,LU V s p=true->(∃k_1:Nat,k_1<=T.ap.length/\Value.int IntKind.i64 ((k:Int)+1)=Value.int IntKind.i64 k_1/\Hid (∀(j:Nat) (hj:j<T.ap.length),j<k_1->LU V s T.ap[j]=true)/\Below w.heap.size w ((wr.alloc (Obj.cells #[Value.int IntKind.i64 p.k,Value.int IntKind.i64 p.l,Value.int IntKind.i64 p.r] 182)).drewN n))/\T.ap.length-(intOf (Value.int IntKind.i64 ((k:Int)+1))).toNat<T.ap.length-(intOf (Value.int IntKind.i64 (k:Int))).toNat):=ab (λn h =>
     ⟨⟨k+1,by omega,by go_num,ab (λj hj Ik=>by
      by_cases e:j=k
      .subst e;rw[<-uh HP];exact h
      .exact fP.out j hj (by omega)),⟨(uh Rv).os,(uh Rv).tape,(uh Rv).output,by simpa using (uh Rv).size,λk hk=>by simpa using (uh Rv).block k hk⟩⟩,by simp[intOf];omega⟩)
    have hna:=Dp ba;have O8:=Dp bb;cases hia:ba.isNone with
    |true =>
     rw[hia]at hna;go_wp2_with fail
     go_quiet (fail)
     go_wp2_with fail
     go_quiet (fail)
     go_wp2_with fail
     refine uh HRo _ ?_;unfold LU;rw[<-uh HBA,<-uh Mn];cases ba with
     |none=>simpa using uh HLR
     |some _=>cases hia
    |false =>
     rw[hia]at hna;cases hib:bb.isNone with
     |true =>
      rw[hib]at O8;go_wp2_with fail
      go_quiet (fail)
      go_wp2_with fail
      go_quiet (fail)
      go_wp2_with fail
      refine uh HRo _ ?_;unfold LU;rw[<-uh HBA,<-uh Mn];cases bb with
      |none=>cases ba <;> simpa using uh HLR
      |some _=>cases hib
     |false =>
      rw[hib]at O8;cases ba with
      |none=>cases hia
      |some a =>
       cases bb with
       |none=>cases hib
       |some b =>
        rw[show fL (some a)=(a:Int) from rfl]at Um hna;rw[show fL (some b)=(b:Int) from rfl]at hqr O8;have HAp:Hid (LU V s p=bj V a b):=ab (by
         unfold LU;rw[<-uh HBA,<-uh Mn];have:(p.l != p.r)=true:=(by rw[bne_iff_ne];exact uh HLR);rw[this];rfl)
        go_wp2_with fail
        go_quiet (fail)
        go_wp2_with fail
        go_quiet (fail)
        go_wp2_with fail
        refine(lX a b ((uh Yc).drewN _)).mono ?_;rintro e w3 ⟨rfl,du⟩;have s8:Hid (Below w.heap.size w w3):=ab (by
         have hz:=uh Rv;have hs:=du.size;have gQ:=hz.size;refine⟨du.os.trans hz.os,du.tape.trans hz.tape,du.output.trans hz.output,?_,λk hk=>?_⟩
         .simp only[heap_drewN]at hs;omega
         .refine(du.block k (by simp only[heap_drewN];omega)).trans ?_;rw[heap_drewN];exact hz.block k hk)
        clear du;cases xU:bj V a b with
        |true =>
         go_wp2_with fail
         go_roundw
         case rel =>
          refine⟨k+1,by omega,by go_num,ab (λj hj Ik=>?_),uh s8⟩;by_cases e:j=k
          .subst e;rw[<-uh HP,uh HAp];exact xU
          .exact fP.out j hj (by omega)
         case measure=>simp[intOf];omega
        |false =>
         have HE:Hid (LT V T s=false):=ab (MO ar (by rw[<-uh HP,uh HAp];exact xU));go_wp2_with fail
         go_ret;exact⟨by rw[uh HE];rfl,uh s8⟩
  .have hd:decide ((k:Int)<(T.ap.length:Int))=false:=(by simp;omega);have HE:Hid (LT V T s=true):=ab (SM (λj hj=>fP.out j hj (by omega)));go_wp2_with fail
   go_ret;exact⟨by rw[uh HE];rfl,cH⟩
theorem Gm{n k:Nat}(h:k<n):(range n).drop k=k::(range n).drop (k+1):=by
 have hl:k<(range n).length:=by simpa using h
 rw[drop_eq_getElem_cons hl];simp
theorem abk(o:Option Nat):decide (fL o<(0:Int))=o.isNone:=by
 cases o with
 |none=>rfl
 |some n=>exact decide_eq_false (by show ¬ ((n:Int)<0);omega)
theorem EX{y:rD}{T V:CF}(hT:Rm T){w:World}{s:SS}(h:Sw w y T V s)(yN:s.pl.length=T.ow.length):
  Calls prog 206 #[.pointer (some ⟨y.q,0,none⟩)] w λe w'=>e=.returned (.int .i64 (fL (YS T s)))/\∃n,w'=w.drewN n:=by
 have HS:=ab h;clear h;have ZW:∃ao cap,y.pv=.slice ao s.pl.length cap/\cap<=9223372036854775807/\s.pl.length<=cap:=by
  rcases(uh HS).pl.2 with⟨h1,h0⟩|⟨O,cap,cur,hv,_,_,Md,hm,_⟩
  .exact⟨none,0,by rw[h1,h0],by omega,by omega⟩
  .exact⟨_,cap,hv,by unfold maxLen at hm;omega,Md⟩
 obtain⟨ao,pcap,ei,hpm,hpn⟩:=ZW;go_enter func206,ntmps206;go_wp2_with fail
 go_loopw [3,4] (λo i wr=>∃(k:Nat) (op:Option Nat),k<=s.pl.length/\o=.int .i64 (fL op)/\i=.int .i64 k/\Hid (RG T s ((range s.pl.length).drop k) op=YS T s)/\∃n,wr=w.drewN n) (λ_ i _=>s.pl.length-(intOf i).toNat)
 case atStart=>exact⟨0,none,zq5 _,rfl,rfl,ab rfl,0,rfl⟩
 case round =>
  obtain⟨k,op,hk,rfl,rfl,pK,n,rfl⟩:=hrel;have TV:=uh HS;have Xc:=TV.cp;rw[ei]at Xc;have xJ:=ab ei;by_cases ar:k<s.pl.length
  .obtain⟨L,lcap,hL,-,-,-,-⟩:=TV.plc (by intro e;rw[e]at ar;simp at ar);obtain⟨RS,-⟩:=TV.pcell hL ar;have hkT:k<T.ow.length:=(by rw[<-yN];exact ar);obtain⟨tg,tcap,pM,htm,Xx⟩:=aE TV.ft.ow hkT;obtain⟨Ku,-,OC,-⟩:=TV.tcell pM hkT;have Ii:=TV.c1;obtain⟨left,l6⟩:∃left,left=(T.ow.getD k ax).l:=⟨_,rfl⟩;have vu:left<24:=(by rw[l6];exact(hT.at k).1);rw[<-l6]at OC;have KA:=TV.cb vu;obtain⟨bl,cH⟩:∃bl,bl=s.b left:=⟨_,rfl⟩;rw[<-cH]at KA;rw[hL]at ei;have sN:ao=some ⟨L,0,none⟩/\pcap=lcap:=(by injection ei with e1 _ e2;exact⟨e1.symm,e2.symm⟩);rw[sN.1,sN.2]at Xc;have ar6:lcap<=9223372036854775807:=(by omega);have ar7:s.pl.length<=lcap:=(by omega);obtain⟨pb,hpb⟩:∃pb,pb=s.pl.getD k false:=⟨_,rfl⟩;rw[<-hpb]at RS;have aV:RG T s ((range s.pl.length).drop k) op=if pb=true then RG T s ((range s.pl.length).drop (k+1)) op else if bl.isSome=true then some k else RG T s ((range s.pl.length).drop (k+1)) (if op.isSome=true then op else some k):=by
    rw[Gm ar];simp only[RG];rw[<-hpb,<-l6,<-cH]
   rw[uh pK]at aV;have db:=ab aV;have HLE:=ab l6;have GJ:=ab cH;have Wi:=ab hpb;have HTO:=ab pM;have HL:=ab hL;have j7:=oh bl;have tY:=abk op;clear aV l6 cH hpb pM hL ei TV sN pK;cases pb with
   |true =>
    go_wp2_with fail
    go_roundw
    case rel=>exact⟨k+1,op,by omega,rfl,by go_num,ab ((uh db).symm),n,rfl⟩
    case measure=>simp[intOf];omega
   |false =>
    cases OH:bl.isSome with
    |true =>
     rw[OH]at j7;go_wp2_with fail
     go_quiet (fail)
     go_wp2_with fail
     go_ret;refine⟨?_,n+_,drewN_drewN _ _ _⟩;rw[uh db,OH];rfl
    |false =>
     rw[OH]at j7;cases nU:op.isNone with
     |true =>
      rw[nU]at tY;go_wp2_with fail
      go_quiet (fail)
      go_wp2_with fail
      go_roundw
      case rel =>
       refine⟨k+1,some k,by omega,rfl,by go_num,ab ?_,_,rfl⟩;have:=uh db;rw[OH]at this;simp only[Bool.false_eq_true,if_false]at this;rw[this];cases op with
       |none=>rfl
       |some _=>cases nU
      case measure=>simp[intOf];omega
     |false =>
      rw[nU]at tY;go_wp2_with fail
      go_quiet (fail)
      go_wp2_with fail
      go_roundw
      case rel =>
       refine⟨k+1,op,by omega,rfl,by go_num,ab ?_,_,rfl⟩;have:=uh db;rw[OH]at this;simp only[Bool.false_eq_true,if_false]at this;rw[this];cases op with
       |none=>cases nU
       |some _=>rfl
      case measure=>simp[intOf];omega
  .have hd:decide ((k:Int)<(s.pl.length:Int))=false:=(by simp;omega);have HE:Hid (YS T s=op):=ab (by
    rw[<-uh pK,drop_of_length_le (by simp;omega)];rfl)
   clear TV ei pK;go_wp2_with fail
   go_ret;exact⟨by rw[uh HE];rfl,n,rfl⟩
theorem Qp{W:SS->Nat->Nat->Nat->Bool × SS}{k left count:Nat}{l:List Pr}{i:Nat}(hi:i<l.length){s:SS}{r:Bool × SS}(hr:r=W { s with bd:=s.bd.set left (some (l.getD i ax).l) } k (l.getD i ax).l count):
  Gk W k left count (l.drop i) s=if r.1=true then (true,r.2) else Gk W k left count (l.drop (i+1)) r.2:=by
 rw[drop_eq_getElem_cons hi];have e:l[i]=l.getD i ax:=by simp[hi]
 rw[e];simp only[Gk];rw[<-hr];obtain⟨b,s'⟩:=r;cases b <;> rfl
theorem wf{y:rD}{T V:CF}(hT:Rm T)(hA:RmA T)(OC:T.ow.length<=1000000)(hVl:V.ow.length<=1000000){m:Nat}(hW:WkC y T V m (wk V T m)):PlC y T V m (y9 (wk V T m) V T):=by
 intro w s count h hw hm hc;have dp:count<=T.ow.length:=by omega
 have Ii:=h.c1;have hcu:=h.cu;have Ku:=h.ft.c6;have ZW:∃ao cap,y.tov=.slice ao T.ow.length cap/\cap<=9223372036854775807/\T.ow.length<=cap:=by
  obtain⟨ao,cap,hv,hm,hn,_⟩:=dH h.ft.ow;exact⟨ao,cap,hv,by unfold maxLen at hm;omega,hn⟩
 obtain⟨tao,tcap,pM,htm,Xx⟩:=ZW;rw[pM]at Ku;have ami:s.un<=1000000:=by
  have h1:=hw.un;have h2:(qa s).length<=s.ot.length:=by
   unfold qa;have:=length_filter_le (λi=>(s.ot.getD i none).isNone) (range s.ot.length);simpa using this
  have h3:=hw.lo;omega
 have HS:=ab h;have D5:=ab hw;have HC:=ab hc;have HM:=ab hm;have HWC:=ab hW;have HTO:=ab pM;clear h hw hc hm hW pM;by_cases h0:T.ow.length=count
 .have hz:((T.ow.length:Int)-(count:Int)==0)=true:=by rw[beq_iff_eq];omega
  have HE:Hid (y9 (wk V T m) V T s count=(decide (s.un=0)&&LT V T s,s)):=ab (by unfold y9;rw[if_pos h0]);have HA:=ab (JV hA (uh HS));clear h0;by_cases FN:s.un=0
  .have hu:((s.un:Int)==0)=true:=(by rw[beq_iff_eq];omega);have HU:=ab FN;clear FN;go_enter func177,ntmps177;go_wp2_with fail
   refine(uh HA).mono ?_;rintro e w1 ⟨rfl,bH⟩;have fU:=ab bH;clear bH;go_wp2_with fail
   go_ret;rw[uh HE];exact⟨by rw[uh HU];simp,(uh HS).below (uh fU),au.ofBelow (uh fU)⟩
  .have hu:((s.un:Int)==0)=false:=(by rw[beq_eq_false_iff_ne];omega);have HU:Hid (decide (s.un=0)=false):=ab (by simpa using FN);clear FN;go_enter func177,ntmps177;go_wp2_with fail
   go_ret;rw[uh HE];exact⟨by rw[uh HU];rfl,uh HS,au.refl _ _⟩
 .have hz:((T.ow.length:Int)-(count:Int)==0)=false:=by rw[beq_eq_false_iff_ne];omega
  by_cases h1:s.un<T.ow.length-count
  .have hgt:decide ((s.un:Int)<(T.ow.length:Int)-(count:Int))=true:=(by rw[decide_eq_true_eq];omega);have HE:Hid (y9 (wk V T m) V T s count=(false,s)):=ab (by unfold y9;rw[if_neg h0,if_pos h1]);clear h0 h1;go_enter func177,ntmps177;go_wp2_with fail
   go_ret;rw[uh HE];exact⟨rfl,uh HS,au.refl _ _⟩
  .have hgt:decide ((s.un:Int)<(T.ow.length:Int)-(count:Int))=false:=(by rw[decide_eq_false_iff_not];omega);have HCh:=ab (EX hT (uh HS) (uh D5).lp);cases pK:YS T s with
   |none =>
    have HE:Hid (y9 (wk V T m) V T s count=(false,s)):=ab (by unfold y9;rw[if_neg h0,if_neg h1,pK]);rw[pK]at HCh;clear h0 h1 pK;go_enter func177,ntmps177;go_wp2_with fail
    refine(uh HCh).mono ?_;rintro e w1 ⟨rfl,n,rfl⟩;rw[show fL none=(-1:Int) from rfl];go_wp2_with fail
    go_ret;rw[uh HE];exact⟨rfl,(uh HS).drewN n,(au.refl _ _).drewN n⟩
   |some k =>
    have hk:=Ci pK;have hkT:k<T.ow.length:=(by rw[<-(uh D5).lp];exact(GA hk).1);obtain⟨tg,tcap2,Pm,-,-⟩:=aE (uh HS).ft.ow hkT;have htt:tao=some ⟨tg,0,none⟩:=by
     have:=(uh HTO).symm.trans Pm;injection this
    subst htt;obtain⟨-,-,akO,-⟩:=(uh HS).tcell (uh HTO) hkT;obtain⟨left,l6⟩:∃left,left=(T.ow.getD k ax).l:=⟨_,rfl⟩;have vu:left<24:=(by rw[l6];exact(hT.at k).1);rw[<-l6]at akO;have KA:=(uh HS).cb vu;obtain⟨bl,cH⟩:∃bl,bl=s.b left:=⟨_,rfl⟩;rw[<-cH]at KA;have hk0:decide ((k:Int)<0)=false:=(by simp);rw[pK]at HCh;have HK:=ab hk;cases bl with
    |some a =>
     have HE:Hid (y9 (wk V T m) V T s count=wk V T m s k a count):=ab (by
      unfold y9;rw[if_neg h0,if_neg h1,pK];dsimp only;rw[<-l6,<-cH])
     rw[show fL (some a)=(a:Int) from rfl]at KA;have hna:((a:Int) != -1)=true:=oh (some a);clear h0 h1 pK l6 cH hk Pm;go_enter func177,ntmps177;go_wp2_with fail
     refine(uh HCh).mono ?_;rintro e w1 ⟨rfl,n,rfl⟩;rw[show fL (some k)=(k:Int) from rfl];go_wp2_with fail
     refine(uh HWC _ s k a count ((uh HS).drewN n) (uh D5) (uh HM) (uh HK) (uh HC)).mono ?_;rintro e w2 ⟨rfl,bS,hT2⟩;have cS:=ab bS;have GQ:=ab (((au.refl y.fp w).drewN n).trans hT2);clear bS hT2;go_wp2_with fail
     go_ret;rw[uh HE];exact⟨rfl,uh cS,uh GQ⟩
    |none =>
     have HE:Hid (y9 (wk V T m) V T s count=Gk (wk V T m) k left count V.ow s):=ab (by
      unfold y9;rw[if_neg h0,if_neg h1,pK];dsimp only;rw[<-l6,<-cH])
     rw[show fL none=(-1:Int) from rfl]at KA;have GJ:=ab cH;clear h0 h1 pK l6 cH hk Pm;have Xd:=(uh HS).cv;go_enter func177,ntmps177;go_wp2_with fail
     refine(uh HCh).mono ?_;rintro e w1 ⟨rfl,n,rfl⟩;rw[show fL (some k)=(k:Int) from rfl];have qD:s.bd.set left none=s.bd:=by
      have:=jT s.bd left none;rwa [show s.bd.getD left none=none from (uh GJ).symm]at this
     have HSf:=ab qD;clear qD;go_wp2_with fail
     go_loopw [9] (λi wr=>∃(j:Nat) (o:Option Nat) (st:Int),j<=V.ow.length/\i=.int .i64 j/\Hid (Sw wr y T V { s with bd:=s.bd.set left o,st:=st })/\Hid (Gk (wk V T m) k left count (V.ow.drop j) { s with bd:=s.bd.set left o,st:=st }=Gk (wk V T m) k left count V.ow s)/\Hid (au y.fp w y.fp wr)) (λi _=>V.ow.length-(intOf i).toNat)
     case atStart=>exact⟨0,none,s.st,zq5 _,rfl,ab (by rw[uh HSf];exact(uh HS).drewN n),ab (by rw[uh HSf];rfl),ab ((au.refl _ _).drewN n)⟩
     case round =>
      obtain⟨j,o,st,hj,rfl,Ks,hpj,hTj⟩:=hrel;have arr:=(uh Ks).cv;have hV6:=(uh Ks).fv.c6;obtain⟨vao,vcap,FP,agY,Ps,-⟩:=dH (uh Ks).fv.ow;have Uo:vcap<=9223372036854775807:=(by unfold maxLen at agY;omega);rw[FP]at hV6;have HVO:=ab FP;clear FP agY;by_cases ar:j<V.ow.length
      .have hd:decide ((j:Int)<(V.ow.length:Int))=true:=(by simp;omega);obtain⟨vg,vcap2,Xz,-,-⟩:=aE (uh Ks).fv.ow ar;have htt:vao=some ⟨vg,0,none⟩:=by
        have:=(uh HVO).symm.trans Xz;injection this
       subst htt;clear Xz;obtain⟨-,-,akQ,-⟩:=(uh Ks).vcell (uh HVO) ar;obtain⟨vl,FO⟩:∃vl,vl=(V.ow.getD j ax).l:=⟨_,rfl⟩;rw[<-FO]at akQ;have hfz:=(uh Ks).frz (26+left);have ZX:=(uh Ks).cb vu;obtain⟨u0,FN⟩:∃u0,u0=fL (({ s with bd:=s.bd.set left o,st:=st }:SS).b left):=⟨_,rfl⟩;rw[<-FN]at ZX;clear FN;have dy:=(uh Ks).setB vu (some vl);rw[show fL (some vl)=(vl:Int) from rfl]at dy;simp only[set_set]at dy;have Fu:=dy.cv;obtain⟨arb,-,akR,-⟩:=dy.vcell (uh HVO) ar;rw[<-FO]at akR;have cD:=ab dy;have HVL:=ab FO;clear dy FO;have aaK:Wf V T { s with bd:=s.bd.set left (some vl),st:=st }:=⟨(uh D5).lo,(uh D5).lp,by simpa using (uh D5).lb,(uh D5).un⟩;obtain⟨r,hr⟩:∃r,r=wk V T m { s with bd:=s.bd.set left (some vl),st:=st } k vl count:=⟨_,rfl⟩;have kO:=ab (wY (V:=V) hT m { s with bd:=s.bd.set left (some vl),st:=st } k vl count aaK (uh HK) (uh HC) _ _ hr.symm);have HWk:=ab (λw' (hs:Sw w' y T V { s with bd:=s.bd.set left (some vl),st:=st })=>uh HWC w' _ k vl count hs aaK (uh HM) (uh HK) (uh HC));rw[<-hr]at HWk;have HPl:Hid (Gk (wk V T m) k left count V.ow s=if r.1=true then (true,r.2) else Gk (wk V T m) k left count (V.ow.drop (j+1)) r.2):=ab (by
        rw[<-uh hpj];refine Qp ar ?_;rw[hr,<-uh HVL];simp only[set_set])
       have HTs:Hid (au y.fp w y.fp (wr.setCell ⟨y.q,26+left,none⟩ (.int .i64 (vl:Int)))):=ab ((uh hTj).setCell (zq0 (Sw.memQ y)) _);clear aaK hr Ks hpj hTj;go_wp2_with fail
       go_region
       go_wp2_with fail
       refine(uh HWk (wr.setCell ⟨y.q,26+left,none⟩ (.int .i64 (vl:Int))).drew ((uh cD).of_eq (λ_ _=>rfl))).mono ?_;rintro e w5 ⟨rfl,fX,Kt⟩;have LP:Hid (au y.fp w y.fp w5):=ab ((uh HTs).trans ⟨Kt.os,Kt.tape,Kt.output,Kt.size,Kt.block,Kt.foot⟩);obtain⟨b5,s5⟩:=r;cases b5 with
       |true =>
        have s9:=ab fX;clear fX Kt;go_wp2_with fail
        go_ret;rw[uh HE,uh HPl];exact⟨rfl,uh s9,uh LP⟩
       |false =>
        have qC:=(uh kO).1 rfl;dsimp only at fX qC;have s9:=ab fX;have aeh:=ab qC;clear fX Kt qC;go_wp2_with fail
        go_roundw
        case rel =>
         refine⟨j+1,some vl,s5.st,by omega,by go_num,ab ?_,ab ?_,LP⟩
         .rw[<-uh aeh];exact uh s9
         .rw[<-uh aeh,uh HPl];rfl
        case measure=>simp[intOf];omega
      .have hd:decide ((j:Int)<(V.ow.length:Int))=false:=(by simp;omega);have hfz:=(uh Ks).frz (26+left);have ZX:=(uh Ks).cb vu;obtain⟨u0,FN⟩:∃u0,u0=fL (({ s with bd:=s.bd.set left o,st:=st }:SS).b left):=⟨_,rfl⟩;rw[<-FN]at ZX;clear FN;have dy:=(uh Ks).setB vu none;rw[show fL none=(-1:Int) from rfl]at dy;simp only[set_set]at dy;have cD:=ab dy;have HTs:Hid (au y.fp w y.fp (wr.setCell ⟨y.q,26+left,none⟩ (.int .i64 (-1)))):=ab ((uh hTj).setCell (zq0 (Sw.memQ y)) _);have HPl:Hid (Gk (wk V T m) k left count V.ow s=(false,{ s with bd:=s.bd.set left none,st:=st })):=ab (by
        rw[<-uh hpj,drop_of_length_le (by omega)];simp only[Gk,set_set])
       clear dy Ks hpj hTj;go_wp2_with fail
       go_ret;rw[uh HE,uh HPl];exact⟨rfl,uh cD,uh HTs⟩
def aW(a b:ByteArray):Bool:=a.toList==b.toList
def bZ:ByteArray:=⟨#[110,105,108]⟩
def gf(u:ByteArray):Bool:=aW u bZ||aF u||kW u
def tj:List ByteArray->ByteArray->Nat
 |[],_=>0
 |x::r,k=>if aW x k then 0 else tj r k+1
def amI(l:List ByteArray)(c:ByteArray):Int:=if tj l c<l.length then tj l c else -1
def dR:ByteArray:=⟨#[123]⟩
def fE:ByteArray:=⟨#[125]⟩
structure qj where
 op:ByteArray
 x:ByteArray
 y:ByteArray
 cond:ByteArray
 to:Nat
 head:Bool
def em:ByteArray:=⟨#[]⟩
def sZ:ByteArray:=⟨#[116,101,115,116]⟩
def aQ:ByteArray:=⟨#[42]⟩
def bW:ByteArray:=⟨#[61]⟩
def kJ:ByteArray:=⟨#[33,61]⟩
def rcB(l:List ByteArray):Bool:=match l with
 |[a]=>aW a aQ
 |[a,b,c]=>aF a&&(aF c||aW c bZ)&&(aW b bW||aW b kJ)
 |_=>false
def Mh(l:List ByteArray):qj:=match l with
 |[a,b,c]=>⟨sZ,a,c,b,0,false⟩
 |_=>⟨sZ,em,em,aQ,0,false⟩
structure xL where
 k:ByteArray
 a:ByteArray
 b:ByteArray
def qq:ByteArray:=⟨#[101,109,112]⟩
def Eq:ByteArray:=⟨#[108,115]⟩
def B4:ByteArray:=⟨#[45,62]⟩
def ug:ByteArray:=⟨#[40]⟩
def WF:ByteArray:=⟨#[44]⟩
def sG:ByteArray:=⟨#[41]⟩
theorem NC:qq.toList=[101,109,112]:=ByteArray.toList_eq _
theorem XG:Eq.toList=[108,115]:=ByteArray.toList_eq _
def ss(l:List ByteArray):Bool:=match l with
 |[a]=>aW a qq
 |[a,b,c]=>gf a&&gf c&&(aW b bW||aW b kJ||aW b B4)
 |[a,b,c,d,e,f]=>aW a Eq&&aW b ug&&aW d WF&&aW f sG&&(gf c&&gf e)
 |_=>false
def raE(l:List ByteArray):Bool:=match l with|[_]=>true|_=>false
def raA(l:List ByteArray):xL:=match l with
 |[a,b,c]=>⟨b,a,c⟩
 |[_,_,c,_,e,_]=>⟨Eq,c,e⟩
 |_=>⟨em,em,em⟩
def XL(l:List ByteArray):List xL:=if raE l then [] else [raA l]
def DD:List ByteArray->List ByteArray->Option (List xL)
 |cur,[]=>if ss cur then some (XL cur) else none
 |cur,x::r=>if aW x aQ then (if ss cur then (DD [] r).map (XL cur++·) else none) else DD (cur++[x]) r
theorem Gb(w:World)(b:Nat)(hb:b=w.heap.size)(xs:List Value)(T:TypeId):∀(j:Nat) (u:Value),xs[j]?=some u->(w.alloc (.cells xs.toArray T)).cell? ((⟨b,0,none⟩:Addr).add j)=some u:=by
 intro j u hj;subst hb;rw[show(⟨w.heap.size,0,none⟩:Addr).add j=⟨w.heap.size,j,none⟩ by unfold Addr.add;split <;> simp_all];rw[cell?_alloc_mark];simpa using hj
