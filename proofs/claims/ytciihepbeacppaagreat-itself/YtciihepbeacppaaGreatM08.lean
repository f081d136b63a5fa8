import Derived.Test.YtciihepbeacppaaGreatM07
import Derived.Laws.AppendOwnNone
import Derived.Laws.CopyOwn
set_option maxRecDepth 100000
set_option maxHeartbeats 0
namespace Go.Proofs.YtciihepbeacppaaGreat
open Tryz Go.RowKit List World Below
set_option linter.unusedVariables false
def PlC(y:oO)(T V:CF)(m:Nat)(P:SS->Nat->Bool × SS):Prop :=
 ∀(w:World) (s:SS) (count:Nat),Sw w y T V s->Wf V T s->s.un<m->(uP s).length+count=T.ow.length ->
  Calls prog 177 #[.pointer (some ⟨y.q,0,none⟩),.int .i64 count] w λe w'=>e=.returned (.bool (P s count).1)/\Sw w' y T V (P s count).2/\ar y.fp w y.fp w'
def WkC(y:oO)(T V:CF)(m:Nat)(W:SS->Nat->Nat->Nat->Bool × SS):Prop :=
 ∀(w:World) (s:SS) (k at_ count:Nat),Sw w y T V s->Wf V T s->s.un<m->k∈uP s->(uP s).length+count=T.ow.length ->
  Calls prog 207 #[.pointer (some ⟨y.q,0,none⟩),.int .i64 k,.int .i64 at_,.int .i64 count] w λe w'=>e=.returned (.bool (W s k at_ count).1)/\Sw w' y T V (W s k at_ count).2/\ar y.fp w y.fp w'
theorem Fq{s:SS}{k:Nat}(h:k∈uP s):k<s.pl.length/\s.pl.getD k false=false:=by
 obtain⟨h1,h2⟩:=mem_filter.1 h;exact⟨mem_range.1 h1,by simpa using h2⟩
theorem gS{l:List Pr}{k:Nat}(h:k<l.length):l.getD k au=l[k]:=by simp[h]
theorem mI(o:Option Nat):(dp o != (-1:Int))=o.isSome:=by
 cases o with
 |none=>rfl
 |some n=>simp[dp]
theorem SD{y:oO}{T V:CF}(hT:Rm T){m:Nat}{P:SS->Nat->Bool × SS}(hP:PlC y T V m P)(hPk:XW V T P){w:World}{s:SS}{k at_ count:Nat}(h:Sw w y T V s)(hw:Wf V T s)(hm:s.un<m)(hk:k∈uP s)(hc:(uP s).length+count=T.ow.length):
  Calls prog 246 #[.pointer (some ⟨y.q,0,none⟩),.int .i64 k,.int .i64 at_,.int .i64 count] w λe w'=>e=.returned (.bool (yB P T s k at_ count).1)/\Sw w' y T V (yB P T s k at_ count).2/\ar y.fp w y.fp w':=by
 obtain⟨jf,hkp⟩:=Fq hk;have hkT:k<T.ow.length:=by rw[<-hw.lp];exact jf
 obtain⟨ao,tcap,d7,htm,WM,htc⟩:=cP h.ft.ow;obtain⟨g,qo,aw⟩:=htc (by intro e;rw[e]at hkT;simp at hkT);have hr:=(aw k hkT).2.2;have BI:=h.ft.c6;rw[d7,qo]at BI;have xF:=h.c1;obtain⟨right,hri⟩:∃right,right=(T.ow.getD k au).r:=⟨_,rfl⟩;have EC:right<24:=by rw[hri];exact(hT.at k).2
 rw[<-gS hkT,<-hri]at hr;have Eo:=h.cb EC;obtain⟨bef,Q1⟩:∃bef,bef=s.b right:=⟨_,rfl⟩;rw[<-Q1]at Eo;have TF:s.pl≠[]:=by intro e;rw[e]at jf;simp at jf
 obtain⟨L,lcap,cW,hlc,Wx,hpc,hpf⟩:=h.plc TF;have cN:=hw.lp;have du:count<T.ow.length:=by
  have:=length_pos_of_mem hk;omega
 have hfz:=h.frz (26+right);have HS:=ab h;have HW:=ab hw;have HK:=ab hk;have HC:=ab hc;have VB:=ab hP;have HPK:=ab hPk;have HRI:=ab hri;have nO:=ab Q1;have vP:=ab cW;have HM:=ab hm
 -- behind the two stores
 have bT:=ab (h.setB EC (some at_));have hq7:=(uh bT).cp;rw[cW]at hq7;have alf:(w.setCell ⟨y.q,26+right,none⟩ (.int .i64 (dp (some at_)))).frozen? ⟨L,k,none⟩=false:=by
  obtain⟨L',c',e',_,_,_,h2⟩:=(uh bT).plc TF;rw[cW]at e';cases e'
  exact h2 k
 have ale:(w.setCell ⟨y.q,26+right,none⟩ (.int .i64 (dp (some at_)))).cell? ⟨L,k,none⟩=some (.bool false):=by
  obtain⟨L',c',e',_,_,h2,_⟩:=(uh bT).plc TF;rw[cW]at e';cases e'
  have:=h2 k jf;rw[this];exact congrArg some (congrArg Value.bool hkp)
 have cH:=ab ((uh bT).setP (i:=k) (o:=true) cW);rw[show(dp (some at_))=(at_:Int) from rfl]at hq7 alf ale cH bT;have aq9:lcap<=9223372036854775807:=by unfold maxLen at Wx;omega
 have arH:tcap<=9223372036854775807:=by unfold maxLen at htm;omega
 clear htm Wx;have hs2u:({ s with bd:=s.bd.set right (some at_),pl:=s.pl.set k true }:SS).un<m:=hm;have rL:Wf V T { s with bd:=s.bd.set right (some at_),pl:=s.pl.set k true }:=⟨hw.lo,by simpa using hw.lp,by simpa using hw.lb,hw.un⟩;have xH:=IQ (s:=s) hk (s':={ s with bd:=s.bd.set right (some at_),pl:=s.pl.set k true }) rfl;have lX:=xH.length_eq;rw[length_cons]at lX;have r7:(uP { s with bd:=s.bd.set right (some at_),pl:=s.pl.set k true }).length+(count+1)=T.ow.length:=by omega
 have Vp:=ab (hP _ _ (count+1) (uh cH) rL hs2u r7);have kW:=ab (hPk _ (count+1) rL r7 _ _ rfl)
 -- what end answers
 obtain⟨r,ZP⟩:∃r,r=P { s with bd:=s.bd.set right (some at_),pl:=s.pl.set k true } (count+1):=⟨_,rfl⟩;rw[<-ZP]at Vp kW;have HEn:Hid ((bef=none\/bef=some at_)->yB P T s k at_ count=(if r.1=true then (true,r.2) else (false,{ r.2 with pl:=r.2.pl.set k false,bd:=r.2.bd.set right bef }))):=ab (λhb=>by
  unfold yB;rw[<-hri,<-Q1,if_neg (by rintro⟨a,b⟩;rcases hb with hb|hb;exact a hb;exact b hb),<-ZP];obtain⟨b1,s1⟩:=r;cases b1 <;> rfl)
 have HEf:Hid (¬ (bef=none\/bef=some at_)->yB P T s k at_ count=(false,s)):=ab (λhb=>by
  unfold yB;rw[<-hri,<-Q1,if_pos ⟨λe=>hb (zq0 e),λe=>hb (zq1 e)⟩])
 have adI:Hid (ar y.fp w y.fp ((w.setCell ⟨y.q,26+right,none⟩ (.int .i64 (at_:Int))).setCell ⟨L,k,none⟩ (.bool true))):=ab (((ar.refl y.fp w).setCell (zq0 (Sw.memQ y)) _).setCell (zq0 (Sw.memP cW)) _);clear ZP rL hs2u r7 lX xH;clear h hw hk hc hP hPk hri Q1 cW aw htc hpc hpf hm d7 qo hkp;have main:∀(NA:Hid (bef=none\/bef=some at_)) (x:Int) (hx:w.cell? ⟨y.q,26+right,none⟩=some (.int .i64 x)) (WQ:Hid (x=dp bef)) (vI:(x != (-1:Int))=false\/((x != (-1:Int))=true/\(x != (at_:Int))=false)),Calls prog 246 #[.pointer (some ⟨y.q,0,none⟩),.int .i64 k,.int .i64 at_,.int .i64 count] w λe w'=>e=.returned (.bool (yB P T s k at_ count).1)/\Sw w' y T V (yB P T s k at_ count).2/\ar y.fp w y.fp w':=by
  intro NA x hx WQ vI;have ac2:=ab (uh HEn (uh NA));clear Eo NA;rcases vI with vI|⟨vI,vJ⟩
  all_goals
   go_enter func246,ntmps246;go_wp2_with fail
   rw[show((count:Int)+1)=((count+1:Nat):Int) by omega];refine(uh Vp).mono ?_;rintro e w3 ⟨rfl,bZ,lH⟩;obtain⟨b,s3⟩:=r;cases b with
   |true =>
    have fV:=ab bZ;have qg:=ab lH;clear bZ lH;go_wp2_with fail
    go_ret;rw[uh ac2];exact⟨rfl,uh fV,(uh adI).trans (uh qg)⟩
   |false =>
    have eW:=(uh kW).1 rfl;dsimp only at bZ eW;have TE:s3.pl=s.pl.set k true:=(by rw[eW]);have WH:s3.pl≠[]:=by
     rw[TE];intro e;have:=congrArg List.length e;simp at this;exact TF this
    have hc3:=bZ.cp;rw[uh vP]at hc3;obtain⟨L',lc',e',_,_,aga,agb⟩:=bZ.plc WH;rw[uh vP]at e';have eL:L=L':=(by injection e' with e1 _ _;injection e1 with e1;injection e1);subst eL;have hx3:=aga k (by rw[TE];simpa using jf);have hy3:=agb k;have N2:s3.pl.length=s.pl.length:=(by rw[TE];simp);have kt:=ab (bZ.setP (i:=k) (o:=false) (by rw[N2];exact uh vP));have aqX:=(uh kt).frz (26+right);have rT:=ab ((uh kt).setB EC bef);have FJ:Hid (ar y.fp w y.fp ((w3.setCell ⟨L,k,none⟩ (.bool false)).setCell ⟨y.q,26+right,none⟩ (.int .i64 (dp bef)))):=ab (((uh adI).trans ((lH.setCell (zq0 (Sw.memP (uh vP))) _).setCell (zq0 (Sw.memQ y)) _)));rw[<-uh WQ]at rT FJ;have ae8:∃u,(w3.setCell ⟨L,k,none⟩ (.bool false)).cell? ⟨y.q,26+right,none⟩=some u:=⟨_,(uh kt).cb EC⟩;obtain⟨u4,ae8⟩:=ae8;clear bZ lH aga agb eW TE WH N2;go_wp2_with fail
    go_ret;rw[uh ac2];exact⟨rfl,uh rT,uh FJ⟩
 have HCb:=ab Eo;have HM:=ab main;clear main;cases bef with
 |none=>exact uh HM (ab (zq0 rfl)) (-1) Eo (ab rfl) (zq0 rfl)
 |some b0 =>
  by_cases e:b0=at_
  .refine uh HM (ab (zq1 (by rw[e]))) (b0:Int) Eo (ab rfl) (zq1 ⟨mI (some b0),?_⟩);rw[e];simp
  .have aJ:((b0:Int) != (at_:Int))=true:=(by rw[bne_iff_ne];omega);have jF:((b0:Int) != (-1:Int))=true:=mI (some b0);have aqP:w.cell? ⟨y.q,26+right,none⟩=some (.int .i64 (b0:Int)):=Eo;have aiX:=ab (uh HEf (by rintro(h|h);cases h;exact e (Option.some.inj h)));clear Eo;go_enter func246,ntmps246;go_wp2_with fail
   go_ret;rw[uh aiX];exact⟨rfl,uh HS,ar.refl _ _⟩
section
variable {w:World} {y:oO} {T V:CF} {s:SS}
theorem az{w:World}{v:Value}{l:List Pr}(h:w.ownsRow 0 182 3 v l.length (af l)){i:Nat}(hi:i<l.length):∃g cap,v=.slice (some ⟨g,0,none⟩) l.length cap/\cap<=9223372036854775807/\l.length<=cap:=by
 obtain⟨ao,cap,hv,hm,hn,hc⟩:=cP h;obtain⟨g,qo,_⟩:=hc (by intro e;rw[e]at hi;simp at hi);exact⟨g,cap,by rw[hv,qo],by unfold maxLen at hm;omega,hn⟩
theorem ax{w:World}{l:List Pr}{g cap:Nat}(h:w.ownsRow 0 182 3 (.slice (some ⟨g,0,none⟩) l.length cap) l.length (af l)){i:Nat}(hi:i<l.length):
  w.cell? ⟨g,i*3,none⟩=some (.int .i64 (l.getD i au).k)/\w.cell? ⟨g,i*3+1,none⟩=some (.int .i64 (l.getD i au).l)/\w.cell? ⟨g,i*3+2,none⟩=some (.int .i64 (l.getD i au).r):=by
 rw[gS hi];have hg:=PA hi;exact⟨(h.cellAt _ (by omega)).trans hg.1,(h.cellAt _ (by omega)).trans hg.2.1,(h.cellAt _ (by omega)).trans hg.2.2⟩
theorem Sw.vcell(h:Sw w y T V s){g cap:Nat}(hv:y.vov=.slice (some ⟨g,0,none⟩) V.ow.length cap){i:Nat}(hi:i<V.ow.length):
  w.cell? ⟨y.v,6,none⟩=some (.slice (some ⟨g,0,none⟩) V.ow.length cap)/\w.cell? ⟨g,i*3,none⟩=some (.int .i64 (V.ow.getD i au).k)/\w.cell? ⟨g,i*3+1,none⟩=some (.int .i64 (V.ow.getD i au).l)/\w.cell? ⟨g,i*3+2,none⟩=some (.int .i64 (V.ow.getD i au).r):=by
 have ho:=h.fv.ow;rw[hv]at ho;exact⟨by rw[h.fv.c6,hv],ax ho hi⟩
theorem Sw.tcell(h:Sw w y T V s){g cap:Nat}(hv:y.tov=.slice (some ⟨g,0,none⟩) T.ow.length cap){i:Nat}(hi:i<T.ow.length):
  w.cell? ⟨y.t,6,none⟩=some (.slice (some ⟨g,0,none⟩) T.ow.length cap)/\w.cell? ⟨g,i*3,none⟩=some (.int .i64 (T.ow.getD i au).k)/\w.cell? ⟨g,i*3+1,none⟩=some (.int .i64 (T.ow.getD i au).l)/\w.cell? ⟨g,i*3+2,none⟩=some (.int .i64 (T.ow.getD i au).r):=by
 have ho:=h.ft.ow;rw[hv]at ho;exact⟨by rw[h.ft.c6,hv],ax ho hi⟩
theorem Sw.ocell(h:Sw w y T V s){O n cap:Nat}(hv:y.ov=.slice (some ⟨O,0,none⟩) n cap){i:Nat}(hi:i<s.ot.length):
  w.cell? ⟨O,i,none⟩=some (.int .i64 (dp (s.ot.getD i none)))/\w.frozen? ⟨O,i,none⟩=false:=by
 obtain⟨O',c',e',_,_,h1,h2⟩:=h.own (by intro e;rw[e]at hi;simp at hi);rw[hv]at e';have eL:O=O':=by injection e' with e1 _ _;injection e1 with e1;injection e1
 subst eL;exact⟨h1 i hi,h2 i⟩
theorem Sw.pcell(h:Sw w y T V s){L n cap:Nat}(hv:y.pv=.slice (some ⟨L,0,none⟩) n cap){i:Nat}(hi:i<s.pl.length):
  w.cell? ⟨L,i,none⟩=some (.bool (s.pl.getD i false))/\w.frozen? ⟨L,i,none⟩=false:=by
 obtain⟨O',c',e',_,_,h1,h2⟩:=h.plc (by intro e;rw[e]at hi;simp at hi);rw[hv]at e';have eL:L=O':=by injection e' with e1 _ _;injection e1 with e1;injection e1
 subst eL;exact⟨h1 i hi,h2 i⟩
end
def KA(V T:CF)(m:Nat)(s2:SS)(k vr count:Nat):Bool × SS:=if (T.ow.getD k au).k=4 then wk V T m s2 k vr count else (false,s2)
theorem IV {V T:CF} {m:Nat} {s:SS} {k at_ count i:Nat} (h0:¬ wrap64 (s.st-1)<0) (h1:cR V.ow at_=some i) (h2:s.ot.getD i none=none) (h3:¬ ((T.ow.getD k au).k≠4/\(V.ow.getD i au).k=4))
  {r:Bool × SS} (hr:r=yB (pP (wk V T m) V T) T { s with st:=wrap64 (s.st-1),ot:=s.ot.set i (some k),un:=s.un-1 } k (V.ow.getD i au).r count) :
  wk V T (m+1) s k at_ count=if r.1=true then (true,r.2) else if (KA V T m r.2 k (V.ow.getD i au).r count).1=true then (true,(KA V T m r.2 k (V.ow.getD i au).r count).2) else (false,{ (KA V T m r.2 k (V.ow.getD i au).r count).2 with ot:=(KA V T m r.2 k (V.ow.getD i au).r count).2.ot.set i none,un:=(KA V T m r.2 k (V.ow.getD i au).r count).2.un+1 }):=by
 simp only[wk];rw[if_neg h0,h1];dsimp only;rw[if_neg (by rw[h2];simp),if_neg h3,<-hr];obtain⟨b,s2⟩:=r;cases b with
 |true=>rfl
 |false =>
  dsimp only;rw[show(if (T.ow.getD k au).k=4 then wk V T m s2 k (V.ow.getD i au).r count else (false,s2))=KA V T m s2 k (V.ow.getD i au).r count from rfl];obtain⟨b3,s3⟩:=KA V T m s2 k (V.ow.getD i au).r count;cases b3 <;> rfl
theorem Ky{y:oO}{T V:CF}(hT:Rm T)(Y0:V.ow.length<=1000000){m:Nat}(hW:WkC y T V m (wk V T m))(hP:PlC y T V m (pP (wk V T m) V T)):WkC y T V (m+1) (wk V T (m+1)):=by
 intro w s k at_ count h hw hm hk hc;obtain⟨jf,hkp⟩:=Fq hk;have hkT:k<T.ow.length:=by rw[<-hw.lp];exact jf
 obtain⟨tg,tcap,oy,htm,WM⟩:=az h.ft.ow hkT;have hq8:=h.cs;have aqY:=h.frz 54;have cY:=h.setSt (wrap64 (s.st-1));have hc8:=cY.cs;have Eq:=cY.cv;have bT:=ab cY;have JN:=cY.c1;have Ep:=cY.co;obtain⟨BI,YZ,_,_⟩:=cY.tcell oy hkT;obtain⟨w1,xI⟩:∃w1,w1=w.setCell ⟨y.q,54,none⟩ (.int .i64 (wrap64 (s.st-1))):=⟨_,rfl⟩;have mW:Hid (ar y.fp w y.fp w1):=ab (by rw[xI];exact(ar.refl y.fp w).setCell (zq0 (Sw.memQ y)) _);have HB:=ab (bU at_ cY.fv);rw[<-xI]at bT hc8 Eq JN Ep BI YZ HB;have XP:=ab xI;obtain⟨tk0,ZT⟩:∃tk0,tk0=(T.ow.getD k au).k:=⟨_,rfl⟩;rw[<-ZT]at YZ;have vS:=ab ZT;have HS:=ab h;have C7:=ab hw;have HK:=ab hk;have HC:=ab hc;have HM:=ab hm;have VB:=ab hP;have HWC:=ab hW;have HTO:=ab oy;clear h hw hm hk hc hP hW hkp cY ZT oy xI;by_cases qR:wrap64 (s.st-1)<0
 .have hn':decide (wrap64 (s.st-1)<0)=true:=by simpa using qR
  have HE:Hid (wk V T (m+1) s k at_ count=(false,{ s with st:=wrap64 (s.st-1) })):=ab (by simp only[wk];rw[if_pos qR]);rw[uh XP]at hc8 bT mW;clear qR Eq JN Ep BI YZ HB;go_enter func207,ntmps207;go_wp2_with fail
  go_ret;rw[uh HE];exact⟨rfl,uh bT,uh mW⟩
 .have hn':decide (wrap64 (s.st-1)<0)=false:=by simpa using qR
  cases oh:cR V.ow at_ with
  |none =>
   have HE:Hid (wk V T (m+1) s k at_ count=(false,{ s with st:=wrap64 (s.st-1) })):=ab (by simp only[wk];rw[if_neg qR,oh]);rw[oh]at HB;rw[uh XP]at hc8 bT mW Eq HB;clear qR JN Ep BI YZ oh;go_enter func207,ntmps207;go_wp2_with fail
   refine(uh HB).mono ?_;rintro e w2 ⟨rfl,rfl⟩;rw[show dp none=(-1:Int) from rfl];go_wp2_with fail
   go_ret;rw[uh HE];exact⟨rfl,uh bT,uh mW⟩
  |some i =>
   obtain⟨hiV,xB⟩:=gF oh;have Wv:i<s.ot.length:=(by rw[(uh C7).lo];exact hiV);obtain⟨vg,vcap,EH,TL,OA⟩:=az (uh bT).fv.ow hiV;obtain⟨O,ocap,d7,ZF,ZE,_,_⟩:=(uh bT).own (by intro e;have e2:s.ot=[]:=e;rw[e2]at Wv;simp at Wv);have B9:y.ov=.slice (some ⟨O,0,none⟩) s.ot.length ocap:=d7;have aoO:ocap<=9223372036854775807:=(by unfold maxLen at ZE;omega);have aoP:s.ot.length<=ocap:=ZF;obtain⟨ho1,ZI⟩:=(uh bT).ocell B9 (i:=i) Wv;rw[B9]at Ep;have TC:w1.cell? ⟨O,i,none⟩=some (.int .i64 (dp (s.ot.getD i none))):=ho1;obtain⟨oi,ZJ⟩:∃oi,oi=s.ot.getD i none:=⟨_,rfl⟩;rw[<-ZJ]at TC;have afZ:=mI oi;obtain⟨hV6,hVk,_,hVr⟩:=(uh bT).vcell EH hiV;obtain⟨vk,ZV⟩:∃vk,vk=(V.ow.getD i au).k:=⟨_,rfl⟩;obtain⟨vr,hvr⟩:∃vr,vr=(V.ow.getD i au).r:=⟨_,rfl⟩;rw[<-ZV]at hVk;rw[<-hvr]at hVr;rw[oh]at HB;have kV:=ab oh;have HOI:=ab ZJ;have HVK:=ab ZV;have HVR:=ab hvr;have I4:=ab B9;have HVO:=ab EH;clear d7 B9 ho1 ZJ ZV hvr oh EH ZE ZF xB;cases hos:oi.isSome with
   |true =>
    have HE:Hid (wk V T (m+1) s k at_ count=(false,{ s with st:=wrap64 (s.st-1) })):=ab (by
     simp only[wk];rw[if_neg qR,uh kV];dsimp only;rw[if_pos (by rw[<-uh HOI];intro e;rw[e]at hos;cases hos)])
    rw[hos]at afZ;rw[uh XP]at hc8 bT mW Eq HB Ep TC JN BI YZ;clear qR hV6 hVk hVr ZI;go_enter func207,ntmps207;go_wp2_with fail
    refine(uh HB).mono ?_;rintro e w2 ⟨rfl,rfl⟩;rw[show dp (some i)=(i:Int) from rfl];go_wp2_with fail
    go_ret;rw[uh HE];exact⟨rfl,uh bT,uh mW⟩
   |false =>
    have hoN:oi=none:=(by cases oi with|none=>rfl|some _=>cases hos);rw[hos]at afZ;by_cases hkk:tk0≠4/\vk=4
    .have HE:Hid (wk V T (m+1) s k at_ count=(false,{ s with st:=wrap64 (s.st-1) })):=ab (by
      simp only[wk];rw[if_neg qR,uh kV];dsimp only;rw[if_neg (by rw[<-uh HOI,hoN];simp),<-uh vS,<-uh HVK,if_pos hkk])
     have ht4:((tk0:Int)==4)=false:=(by rw[beq_eq_false_iff_ne];omega);have yZ:((vk:Int)==4)=true:=(by rw[beq_iff_eq];omega);rw[uh XP]at hc8 bT mW Eq HB Ep TC JN BI YZ hV6 hVk;clear qR hVr ZI hkk hoN;go_enter func207,ntmps207;go_wp2_with fail
     refine(uh HB).mono ?_;rintro e w2 ⟨rfl,rfl⟩;rw[show dp (some i)=(i:Int) from rfl];go_wp2_with fail
     go_ret;rw[uh HE];exact⟨rfl,uh bT,uh mW⟩
    .have ir:(qn s).Perm (i::qn { s with st:=wrap64 (s.st-1),ot:=s.ot.set i (some k),un:=s.un-1 }):=By Wv (by rw[<-uh HOI];exact hoN) rfl;have jE:=ir.length_eq;rw[length_cons]at jE;have arK:1<=s.un:=(by have:=(uh C7).un;omega);have alM:s.un<=1000000:=by
      have h1:=(uh C7).un;have h2:(qn s).length<=s.ot.length:=by
       unfold qn;have:=length_filter_le (λi=>(s.ot.getD i none).isNone) (range s.ot.length);simpa using this
      have h3:=(uh C7).lo;omega
     have ae7:((s.un-1:Nat):Int)=(s.un:Int)-1:=by omega
     -- the worlds behind the stores
     have fR:=(uh bT).setO (i:=i) (o:=some k) (uh I4);rw[show dp (some k)=(k:Int) from rfl]at fR;have akx:=fR.cu;have akI:=fR.frz 52;have eW:=fR.setUn (s.un-1);rw[ae7]at eW;have aky:=eW.cv;obtain⟨akl,_,_,aeS⟩:=eW.vcell (uh HVO) hiV;rw[<-uh HVR]at aeS;have qg:Hid (ar y.fp w y.fp ((w1.setCell ⟨O,i,none⟩ (.int .i64 (k:Int))).setCell ⟨y.q,52,none⟩ (.int .i64 ((s.un:Int)-1)))):=ab (((uh mW).setCell (zq0 (Sw.memO (uh I4))) _).setCell (zq0 (Sw.memQ y)) _);have TN:Wf V T { s with st:=wrap64 (s.st-1),ot:=s.ot.set i (some k),un:=s.un-1 }:=by
      refine⟨by simpa using (uh C7).lo,(uh C7).lp,(uh C7).lb,?_⟩;have h4:=(uh C7).un;show s.un-1=_;omega
     have wd:({ s with st:=wrap64 (s.st-1),ot:=s.ot.set i (some k),un:=s.un-1 }:SS).un<m:=by
      have:=uh HM;show s.un-1<m;omega
     have Rt:=ab (SD (at_:=vr) hT (uh VB) (uH hT (yg hT m)) eW TN wd (uh HK) (uh HC));have ac3:=fun {b:Bool} {s':SS} (hr:yB (pP (wk V T m) V T) T { s with st:=wrap64 (s.st-1),ot:=s.ot.set i (some k),un:=s.un-1 } k vr count=(b,s'))=>MA hT (uH hT (yg hT m)) TN (uh HK) (uh HC) hr
     obtain⟨r,hr⟩:∃r,r=yB (pP (wk V T m) V T) T { s with st:=wrap64 (s.st-1),ot:=s.ot.set i (some k),un:=s.un-1 } k vr count:=⟨_,rfl⟩;have HE:=ab (IV (m:=m) (count:=count) qR (uh kV) (by rw[<-uh HOI];exact hoN) (by rw[<-uh vS,<-uh HVK];exact hkk) (r:=r) (by rw[<-uh HVR];exact hr));rw[<-uh HVR]at HE;rw[<-hr]at Rt;have bf:r.1=false->r.2={ s with st:=r.2.st,ot:=s.ot.set i (some k),un:=s.un-1 }:=λhb=>(ac3 (b:=r.1) (s':=r.2) hr.symm).1 hb;have kW:=ab bf;have RL:=ab TN;have FG:=ab wd;clear ac3 hr bf TN wd fR eW ir jE;have ht4:((tk0:Int)==4)=decide (tk0=4):=(by rw[Bool.eq_iff_iff,beq_iff_eq,decide_eq_true_eq];omega);have afI:tk0=4\/(vk:Int)≠4:=(by omega);rw[uh XP]at hc8 qg Eq HB Ep TC JN BI YZ hV6 hVk ZI akx akI aky akl aeS Rt;have HKK:=ab afI;have iL:decide ((i:Int)<0)=false:=(by simp);clear qR hkk afI hVr hoN;cases Q6:decide (tk0=4) with
     |true =>
      rw[Q6]at ht4;go_enter func207,ntmps207;go_wp2_with fail
      refine(uh HB).mono ?_;rintro e w2 ⟨rfl,rfl⟩;rw[show dp (some i)=(i:Int) from rfl];go_wp2_with fail
      refine(uh Rt).mono ?_;rintro e w4 ⟨rfl,er,YY⟩;obtain⟨b4,s4⟩:=r;cases b4 with
      |true =>
       have kt:=ab er;have HT4:=ab ((uh qg).trans YY);clear er YY;go_wp2_with fail
       go_ret;rw[uh HE];exact⟨rfl,uh kt,uh HT4⟩
      |false =>
       have uo:=uh kW rfl;dsimp only at er uo;have aqT:=er.cv;obtain⟨aqE,_,_,ako⟩:=er.vcell (uh HVO) hiV;rw[<-uh HVR]at ako;have Z0:Wf V T s4:=(by rw[uo];exact⟨(uh RL).lo,(uh RL).lp,(uh RL).lb,(uh RL).un⟩);have agv:s4.un=s.un-1:=(by rw[uo]);have af8:s4.ot=s.ot.set i (some k):=(by rw[uo]);have Oz:uP s4=uP s:=(by rw[uo];rfl);have HWK:=ab (uh HWC w4 s4 k vr count er Z0 (by have:=uh FG;have e:({ s with st:=wrap64 (s.st-1),ot:=s.ot.set i (some k),un:=s.un-1 }:SS).un=s.un-1:=rfl;omega) (by rw[Oz];exact uh HK) (by rw[Oz];exact uh HC));have adK:=ab (yg (V:=V) hT m s4 k vr count Z0 (by rw[Oz];exact uh HK) (by rw[Oz];exact uh HC) _ _ rfl);have HT4:=ab ((uh qg).trans YY);have HQ:Hid (KA V T m s4 k vr count=wk V T m s4 k vr count):=ab (by unfold KA;rw[<-uh vS,if_pos (by simpa using Q6)]);have HUN:=ab agv;have HOT:=ab af8;clear er YY uo Z0 agv af8 Oz;go_wp2_with fail
       refine(uh HWK).mono ?_;rintro e w5 ⟨rfl,eT,JG⟩;obtain⟨q,hq⟩:∃q,q=wk V T m s4 k vr count:=⟨_,rfl⟩;rw[<-hq]at eT adK HQ ⊢;obtain⟨b5,s5⟩:=q;cases b5 with
       |true =>
        have rT:=ab eT;have FJ:=ab ((uh HT4).trans JG);have HQ5:=ab hq;clear eT JG hq;go_wp2_with fail
        go_ret;rw[uh HE];dsimp only;rw[uh HQ];exact⟨rfl,uh rT,uh FJ⟩
       |false =>
        have pD:=(uh adK).1 rfl;dsimp only at eT pD;have FJ:=ab ((uh HT4).trans JG);clear JG hq;have ZU:s5.un=s.un-1:=(by rw[pD];exact uh HUN);have Oj:s5.ot=s.ot.set i (some k):=(by rw[pD];exact uh HOT);have Ev:s5.ot.length=s.ot.length:=(by rw[Oj];simp);have Zf:=eT.co;rw[uh I4]at Zf;obtain⟨ho5,alb⟩:=eT.ocell (uh I4) (i:=i) (by rw[Ev];exact Wv);have Cc:=eT.setO (i:=i) (o:=none) (by rw[Ev];exact uh I4);rw[show dp none=(-1:Int) from rfl]at Cc;have Zg:=Cc.cu;have hu6:(({ s5 with ot:=s5.ot.set i none }:SS).un:Int)=(s.un:Int)-1:=by
         have:({ s5 with ot:=s5.ot.set i none }:SS).un=s5.un:=rfl;omega
        rw[hu6]at Zg;have akJ:=Cc.frz 52;have xG:=Cc.setUn (s5.un+1);rw[show((s5.un+1:Nat):Int)=(s.un:Int) by omega]at xG;have VG:=ab xG;have HT7:Hid (ar y.fp w y.fp ((w5.setCell ⟨O,i,none⟩ (.int .i64 (-1))).setCell ⟨y.q,52,none⟩ (.int .i64 (s.un:Int)))):=ab (((uh FJ).setCell (zq0 (Sw.memO (uh I4))) _).setCell (zq0 (Sw.memQ y)) _);clear eT pD ZU Oj Ev Cc xG hu6;go_wp2_with fail
        go_ret;rw[uh HE];dsimp only;rw[uh HQ];exact⟨rfl,uh VG,uh HT7⟩
     |false =>
      rw[Q6]at ht4;have yZ:((vk:Int)==4)=false:=by
       rw[beq_eq_false_iff_ne];rcases uh HKK with h|h
       .rw[h]at Q6;simp at Q6
       .exact h
      go_enter func207,ntmps207;go_wp2_with fail
      refine(uh HB).mono ?_;rintro e w2 ⟨rfl,rfl⟩;rw[show dp (some i)=(i:Int) from rfl];go_wp2_with fail
      refine(uh Rt).mono ?_;rintro e w5 ⟨rfl,eT,YY⟩;obtain⟨b4,s5⟩:=r;have FJ:=ab ((uh qg).trans YY);clear YY;cases b4 with
      |true =>
       have kt:=ab eT;clear eT;go_wp2_with fail
       go_ret;rw[uh HE];exact⟨rfl,uh kt,uh FJ⟩
      |false =>
       have pD:=uh kW rfl;dsimp only at eT pD;have HQ:Hid (KA V T m s5 k vr count=(false,s5)):=ab (by unfold KA;rw[<-uh vS,if_neg (by simpa using Q6)]);have ZU:s5.un=s.un-1:=(by rw[pD]);have Oj:s5.ot=s.ot.set i (some k):=(by rw[pD]);have Ev:s5.ot.length=s.ot.length:=(by rw[Oj];simp);have Zf:=eT.co;rw[uh I4]at Zf;obtain⟨ho5,alb⟩:=eT.ocell (uh I4) (i:=i) (by rw[Ev];exact Wv);have Cc:=eT.setO (i:=i) (o:=none) (by rw[Ev];exact uh I4);rw[show dp none=(-1:Int) from rfl]at Cc;have Zg:=Cc.cu;have hu6:(({ s5 with ot:=s5.ot.set i none }:SS).un:Int)=(s.un:Int)-1:=by
        have:({ s5 with ot:=s5.ot.set i none }:SS).un=s5.un:=rfl;omega
       rw[hu6]at Zg;have akJ:=Cc.frz 52;have xG:=Cc.setUn (s5.un+1);rw[show((s5.un+1:Nat):Int)=(s.un:Int) by omega]at xG;have VG:=ab xG;have HT7:Hid (ar y.fp w y.fp ((w5.setCell ⟨O,i,none⟩ (.int .i64 (-1))).setCell ⟨y.q,52,none⟩ (.int .i64 (s.un:Int)))):=ab (((uh FJ).setCell (zq0 (Sw.memO (uh I4))) _).setCell (zq0 (Sw.memQ y)) _);clear eT pD ZU Oj Ev Cc xG hu6;go_wp2_with fail
       go_ret;rw[uh HE];dsimp only;rw[uh HQ];exact⟨rfl,uh VG,uh HT7⟩
def KK(V:CF)(s:SS)(p:Pr):Bool:=p.l != p.r&&(match s.b p.l,s.b p.r with|some a,some b=>dS V a b|_,_=>true)
theorem RV{V T:CF}{s:SS}(h:∀j,(hj:j<T.ap.length)->KK V s T.ap[j]=true):DI V T s=true:=by
 show T.ap.all (KK V s)=true;rw[all_eq_true];intro p hp;obtain⟨j,hj,rfl⟩:=mem_iff_getElem.1 hp;exact h j hj
theorem LJ{V T:CF}{s:SS}{j:Nat}(hj:j<T.ap.length)(h:KK V s T.ap[j]=false):DI V T s=false:=by
 show T.ap.all (KK V s)=false;rw[all_eq_false];exact⟨_,getElem_mem hj,by rw[h];simp⟩
def VL(T:CF):Prop:=∀p∈T.ap,p.l<24/\p.r<24
theorem Sw.alloc{w:World}{y:oO}{T V:CF}{s:SS}(h:Sw w y T V s)(o:Obj):Sw (w.alloc o) y T V s:=h.of_eq (λ_ hk=>heap_alloc _ _ _ hk)
theorem Sw.drewN{w:World}{y:oO}{T V:CF}{s:SS}(h:Sw w y T V s)(n:Nat):Sw (w.drewN n) y T V s:=h.of_eq (λ_ _=>by simp)
theorem ES(w:World)(a b c:Value)(T:TypeId):(w.alloc (.cells #[a,b,c] T)).cell? ⟨w.heap.size,0,none⟩=some a/\(w.alloc (.cells #[a,b,c] T)).cell? ⟨w.heap.size,1,none⟩=some b/\(w.alloc (.cells #[a,b,c] T)).cell? ⟨w.heap.size,2,none⟩=some c:=by
 have h:=λj=>cell_of_row (w.alloc (.cells #[a,b,c] T)) w.heap.size j #[a,b,c] T (0,0) (heap_alloc_new w _);exact⟨h 0,h 1,h 2⟩
theorem Cv(o:Option Nat):(dp o==(-1:Int))=o.isNone:=by
 cases o with
 |none=>rfl
 |some n=>simp[dp]
theorem Jf{y:oO}{T V:CF}(hA:VL T){w:World}{s:SS}(h:Sw w y T V s):
  Calls prog 205 #[.pointer (some ⟨y.q,0,none⟩)] w λe w'=>e=.returned (.bool (DI V T s))/\Below w.heap.size w w':=by
 obtain⟨ao,cap,jO,hm,KX,hc⟩:=cP h.ft.ap;have h5:=h.ft.c5;rw[jO]at h5;have xF:=h.c1;have HC:=ab hc;have HS:=ab h;clear hc jO h;unfold maxLen at hm;go_enter func205,ntmps205;go_wp2_with fail
 go_loopw [15] (λi wr=>∃k:Nat,k<=T.ap.length/\i=.int .i64 k/\Hid (∀j,(hj:j<T.ap.length)->j<k->KK V s T.ap[j]=true)/\Below w.heap.size w wr) (λi _=>T.ap.length-(intOf i).toNat)
 case atStart=>exact⟨0,zq5 _,rfl,λ_ _ h=>absurd h (by omega),Below.refl _ _⟩
 case round =>
  obtain⟨k,hk,rfl,dh,bS⟩:=hrel;by_cases aq:k<T.ap.length
  .obtain⟨g,qo,aw⟩:=uh HC (by intro h;rw[h]at aq;simp at aq);subst qo;obtain⟨Dp,vI,vJ⟩:=aw k aq;have c0:=(bS.cell (block_lt_of_cell? w _ Dp)).trans Dp;have c1:=(bS.cell (block_lt_of_cell? w _ vI)).trans vI;have c2:=(bS.cell (block_lt_of_cell? w _ vJ)).trans vJ;clear aw Dp vI vJ;obtain⟨uf,EC⟩:=hA _ (getElem_mem aq);obtain⟨p,hp⟩:∃p,p=T.ap[k]:=⟨_,rfl⟩;rw[<-hp]at c0 c1 c2 uf EC;have HP:=ab hp;have HSr:=ab ((uh HS).below bS);have hZ:=(uh HSr).alloc (.cells #[Value.int .i64 p.k,.int .i64 p.l,.int .i64 p.r] 182);have TH:=hZ.cb uf;have hqr:=hZ.cb EC;have hqv:=hZ.cv;have n0:(wr.alloc (.cells #[Value.int .i64 p.k,.int .i64 p.l,.int .i64 p.r] 182)).cell? ⟨wr.heap.size,1,none⟩=some (.int .i64 p.l):=(ES wr _ _ _ _).2.1;have n1:(wr.alloc (.cells #[Value.int .i64 p.k,.int .i64 p.l,.int .i64 p.r] 182)).cell? ⟨wr.heap.size,2,none⟩=some (.int .i64 p.r):=(ES wr _ _ _ _).2.2;have Xx:=ab hZ.fv;obtain⟨ba,Di⟩:∃ba,ba=s.b p.l:=⟨_,rfl⟩;obtain⟨bb,yN⟩:∃bb,bb=s.b p.r:=⟨_,rfl⟩;rw[<-Di]at TH;rw[<-yN]at hqr;have HBA:=ab Di;have Le:=ab yN;have HB:=ab bS;have QI:=ab (bS.alloc bS.size (.cells #[Value.int .i64 p.k,.int .i64 p.l,.int .i64 p.r] 182));clear Di yN hp bS hZ;by_cases r9:p.l=p.r
   .have he:((p.l:Int)==(p.r:Int))=true:=(by rw[bi];simpa using r9);have HE:Hid (DI V T s=false):=ab (LJ aq (by rw[<-uh HP];unfold KK;rw[r9];simp));clear r9;go_wp2_with fail
    go_ret;exact⟨by rw[uh HE];rfl,uh QI⟩
   .have he:((p.l:Int)==(p.r:Int))=false:=(by rw[bi];simpa using r9);have HLR:=ab r9;clear r9;have HRo:Hid (∀n,KK V s p=true->(∃k_1:Nat,k_1<=T.ap.length/\Value.int IntKind.i64 ((k:Int)+1)=Value.int IntKind.i64 k_1/\Hid (∀(j:Nat) (hj:j<T.ap.length),j<k_1->KK V s T.ap[j]=true)/\Below w.heap.size w ((wr.alloc (Obj.cells #[Value.int IntKind.i64 p.k,Value.int IntKind.i64 p.l,Value.int IntKind.i64 p.r] 182)).drewN n))/\T.ap.length-(intOf (Value.int IntKind.i64 ((k:Int)+1))).toNat<T.ap.length-(intOf (Value.int IntKind.i64 (k:Int))).toNat):=ab (λn h =>
     ⟨⟨k+1,by omega,by go_num,ab (λj hj GM=>by
      by_cases e:j=k
      .subst e;rw[<-uh HP];exact h
      .exact dh.out j hj (by omega)),⟨(uh QI).os,(uh QI).tape,(uh QI).output,by simpa using (uh QI).size,λk hk=>by simpa using (uh QI).block k hk⟩⟩,by simp[intOf];omega⟩)
    have hna:=Cv ba;have Oa:=Cv bb;cases hia:ba.isNone with
    |true =>
     rw[hia]at hna;go_wp2_with fail
     go_quiet (fail)
     go_wp2_with fail
     go_quiet (fail)
     go_wp2_with fail
     refine uh HRo _ ?_;unfold KK;rw[<-uh HBA,<-uh Le];cases ba with
     |none=>simpa using uh HLR
     |some _=>cases hia
    |false =>
     rw[hia]at hna;cases hib:bb.isNone with
     |true =>
      rw[hib]at Oa;go_wp2_with fail
      go_quiet (fail)
      go_wp2_with fail
      go_quiet (fail)
      go_wp2_with fail
      refine uh HRo _ ?_;unfold KK;rw[<-uh HBA,<-uh Le];cases bb with
      |none=>cases ba <;> simpa using uh HLR
      |some _=>cases hib
     |false =>
      rw[hib]at Oa;cases ba with
      |none=>cases hia
      |some a =>
       cases bb with
       |none=>cases hib
       |some b =>
        rw[show dp (some a)=(a:Int) from rfl]at TH hna;rw[show dp (some b)=(b:Int) from rfl]at hqr Oa;have HAp:Hid (KK V s p=dS V a b):=ab (by
         unfold KK;rw[<-uh HBA,<-uh Le];have:(p.l != p.r)=true:=(by rw[bne_iff_ne];exact uh HLR);rw[this];rfl)
        go_wp2_with fail
        go_quiet (fail)
        go_wp2_with fail
        go_quiet (fail)
        go_wp2_with fail
        refine(kF a b ((uh Xx).drewN _)).mono ?_;rintro e w3 ⟨rfl,cB⟩;have oL:Hid (Below w.heap.size w w3):=ab (by
         have hz:=uh QI;have hs:=cB.size;have fR:=hz.size;refine⟨cB.os.trans hz.os,cB.tape.trans hz.tape,cB.output.trans hz.output,?_,λk hk=>?_⟩
         .simp only[heap_drewN]at hs;omega
         .refine(cB.block k (by simp only[heap_drewN];omega)).trans ?_;rw[heap_drewN];exact hz.block k hk)
        clear cB;cases vZ:dS V a b with
        |true =>
         go_wp2_with fail
         go_roundw
         case rel =>
          refine⟨k+1,by omega,by go_num,ab (λj hj GM=>?_),uh oL⟩;by_cases e:j=k
          .subst e;rw[<-uh HP,uh HAp];exact vZ
          .exact dh.out j hj (by omega)
         case measure=>simp[intOf];omega
        |false =>
         have HE:Hid (DI V T s=false):=ab (LJ aq (by rw[<-uh HP,uh HAp];exact vZ));go_wp2_with fail
         go_ret;exact⟨by rw[uh HE];rfl,uh oL⟩
  .have hd:decide ((k:Int)<(T.ap.length:Int))=false:=(by simp;omega);have HE:Hid (DI V T s=true):=ab (RV (λj hj=>dh.out j hj (by omega)));go_wp2_with fail
   go_ret;exact⟨by rw[uh HE];rfl,bS⟩
theorem E5{n k:Nat}(h:k<n):(range n).drop k=k::(range n).drop (k+1):=by
 have hl:k<(range n).length:=by simpa using h
 rw[drop_eq_getElem_cons hl];simp
theorem aaF(o:Option Nat):decide (dp o<(0:Int))=o.isNone:=by
 cases o with
 |none=>rfl
 |some n=>exact decide_eq_false (by show ¬ ((n:Int)<0);omega)
theorem DV{y:oO}{T V:CF}(hT:Rm T){w:World}{s:SS}(h:Sw w y T V s)(BY:s.pl.length=T.ow.length):
  Calls prog 206 #[.pointer (some ⟨y.q,0,none⟩)] w λe w'=>e=.returned (.int .i64 (dp (VW T s)))/\∃n,w'=w.drewN n:=by
 have HS:=ab h;clear h;have Zd:∃ao cap,y.pv=.slice ao s.pl.length cap/\cap<=9223372036854775807/\s.pl.length<=cap:=by
  rcases(uh HS).pl.2 with⟨h1,h0⟩|⟨O,cap,cur,hv,_,_,KX,hm,_⟩
  .exact⟨none,0,by rw[h1,h0],by omega,by omega⟩
  .exact⟨_,cap,hv,by unfold maxLen at hm;omega,KX⟩
 obtain⟨ao,pcap,cW,WG,hpn⟩:=Zd;go_enter func206,ntmps206;go_wp2_with fail
 go_loopw [3,4] (λo i wr=>∃(k:Nat) (op:Option Nat),k<=s.pl.length/\o=.int .i64 (dp op)/\i=.int .i64 k/\Hid (KM T s ((range s.pl.length).drop k) op=VW T s)/\∃n,wr=w.drewN n) (λ_ i _=>s.pl.length-(intOf i).toNat)
 case atStart=>exact⟨0,none,zq5 _,rfl,rfl,ab rfl,0,rfl⟩
 case round =>
  obtain⟨k,op,hk,rfl,rfl,r8,n,rfl⟩:=hrel;have JF:=uh HS;have Tq:=JF.cp;rw[cW]at Tq;have vP:=ab cW;by_cases aq:k<s.pl.length
  .obtain⟨L,lcap,hL,-,-,-,-⟩:=JF.plc (by intro e;rw[e]at aq;simp at aq);obtain⟨Rb,-⟩:=JF.pcell hL aq;have hkT:k<T.ow.length:=(by rw[<-BY];exact aq);obtain⟨tg,tcap,oy,htm,WM⟩:=az JF.ft.ow hkT;obtain⟨BI,-,pw,-⟩:=JF.tcell oy hkT;have Q4:=JF.c1;obtain⟨left,lX⟩:∃left,left=(T.ow.getD k au).l:=⟨_,rfl⟩;have uf:left<24:=(by rw[lX];exact(hT.at k).1);rw[<-lX]at pw;have Eo:=JF.cb uf;obtain⟨bl,bS⟩:∃bl,bl=s.b left:=⟨_,rfl⟩;rw[<-bS]at Eo;rw[hL]at cW;have qo:ao=some ⟨L,0,none⟩/\pcap=lcap:=(by injection cW with e1 _ e2;exact⟨e1.symm,e2.symm⟩);rw[qo.1,qo.2]at Tq;have aru:lcap<=9223372036854775807:=(by omega);have arv:s.pl.length<=lcap:=(by omega);obtain⟨pb,hpb⟩:∃pb,pb=s.pl.getD k false:=⟨_,rfl⟩;rw[<-hpb]at Rb;have aE:KM T s ((range s.pl.length).drop k) op=if pb=true then KM T s ((range s.pl.length).drop (k+1)) op else if bl.isSome=true then some k else KM T s ((range s.pl.length).drop (k+1)) (if op.isSome=true then op else some k):=by
    rw[E5 aq];simp only[KM];rw[<-hpb,<-lX,<-bS]
   rw[uh r8]at aE;have cK:=ab aE;have C2:=ab lX;have FA:=ab bS;have VA:=ab hpb;have HTO:=ab oy;have HL:=ab hL;have jF:=mI bl;have qQ:=aaF op;clear aE lX bS hpb oy hL cW JF qo r8;cases pb with
   |true =>
    go_wp2_with fail
    go_roundw
    case rel=>exact⟨k+1,op,by omega,rfl,by go_num,ab ((uh cK).symm),n,rfl⟩
    case measure=>simp[intOf];omega
   |false =>
    cases ND:bl.isSome with
    |true =>
     rw[ND]at jF;go_wp2_with fail
     go_quiet (fail)
     go_wp2_with fail
     go_ret;refine⟨?_,n+_,drewN_drewN _ _ _⟩;rw[uh cK,ND];rfl
    |false =>
     rw[ND]at jF;cases mC:op.isNone with
     |true =>
      rw[mC]at qQ;go_wp2_with fail
      go_quiet (fail)
      go_wp2_with fail
      go_roundw
      case rel =>
       refine⟨k+1,some k,by omega,rfl,by go_num,ab ?_,_,rfl⟩;have:=uh cK;rw[ND]at this;simp only[Bool.false_eq_true,if_false]at this;rw[this];cases op with
       |none=>rfl
       |some _=>cases mC
      case measure=>simp[intOf];omega
     |false =>
      rw[mC]at qQ;go_wp2_with fail
      go_quiet (fail)
      go_wp2_with fail
      go_roundw
      case rel =>
       refine⟨k+1,op,by omega,rfl,by go_num,ab ?_,_,rfl⟩;have:=uh cK;rw[ND]at this;simp only[Bool.false_eq_true,if_false]at this;rw[this];cases op with
       |none=>cases mC
       |some _=>rfl
      case measure=>simp[intOf];omega
  .have hd:decide ((k:Int)<(s.pl.length:Int))=false:=(by simp;omega);have HE:Hid (VW T s=op):=ab (by
    rw[<-uh r8,drop_of_length_le (by simp;omega)];rfl)
   clear JF cW r8;go_wp2_with fail
   go_ret;exact⟨by rw[uh HE];rfl,n,rfl⟩
theorem Px{W:SS->Nat->Nat->Nat->Bool × SS}{k left count:Nat}{l:List Pr}{i:Nat}(hi:i<l.length){s:SS}{r:Bool × SS}(hr:r=W { s with bd:=s.bd.set left (some (l.getD i au).l) } k (l.getD i au).l count):
  CA W k left count (l.drop i) s=if r.1=true then (true,r.2) else CA W k left count (l.drop (i+1)) r.2:=by
 rw[drop_eq_getElem_cons hi];have e:l[i]=l.getD i au:=by simp[hi]
 rw[e];simp only[CA];rw[<-hr];obtain⟨b,s'⟩:=r;cases b <;> rfl
theorem uI{y:oO}{T V:CF}(hT:Rm T)(hA:VL T)(pw:T.ow.length<=1000000)(Y0:V.ow.length<=1000000){m:Nat}(hW:WkC y T V m (wk V T m)):PlC y T V m (pP (wk V T m) V T):=by
 intro w s count h hw hm hc;have du:count<=T.ow.length:=by omega
 have Q4:=h.c1;have hcu:=h.cu;have BI:=h.ft.c6;have Zd:∃ao cap,y.tov=.slice ao T.ow.length cap/\cap<=9223372036854775807/\T.ow.length<=cap:=by
  obtain⟨ao,cap,hv,hm,hn,_⟩:=cP h.ft.ow;exact⟨ao,cap,hv,by unfold maxLen at hm;omega,hn⟩
 obtain⟨tao,tcap,oy,htm,WM⟩:=Zd;rw[oy]at BI;have alM:s.un<=1000000:=by
  have h1:=hw.un;have h2:(qn s).length<=s.ot.length:=by
   unfold qn;have:=length_filter_le (λi=>(s.ot.getD i none).isNone) (range s.ot.length);simpa using this
  have h3:=hw.lo;omega
 have HS:=ab h;have C7:=ab hw;have HC:=ab hc;have HM:=ab hm;have HWC:=ab hW;have HTO:=ab oy;clear h hw hc hm hW oy;by_cases h0:T.ow.length=count
 .have hz:((T.ow.length:Int)-(count:Int)==0)=true:=by rw[beq_iff_eq];omega
  have HE:Hid (pP (wk V T m) V T s count=(decide (s.un=0)&&DI V T s,s)):=ab (by unfold pP;rw[if_pos h0]);have HA:=ab (Jf hA (uh HS));clear h0;by_cases EG:s.un=0
  .have hu:((s.un:Int)==0)=true:=(by rw[beq_iff_eq];omega);have HU:=ab EG;clear EG;go_enter func177,ntmps177;go_wp2_with fail
   refine(uh HA).mono ?_;rintro e w1 ⟨rfl,a7⟩;have dm:=ab a7;clear a7;go_wp2_with fail
   go_ret;rw[uh HE];exact⟨by rw[uh HU];simp,(uh HS).below (uh dm),ar.ofBelow (uh dm)⟩
  .have hu:((s.un:Int)==0)=false:=(by rw[beq_eq_false_iff_ne];omega);have HU:Hid (decide (s.un=0)=false):=ab (by simpa using EG);clear EG;go_enter func177,ntmps177;go_wp2_with fail
   go_ret;rw[uh HE];exact⟨by rw[uh HU];rfl,uh HS,ar.refl _ _⟩
 .have hz:((T.ow.length:Int)-(count:Int)==0)=false:=by rw[beq_eq_false_iff_ne];omega
  by_cases h1:s.un<T.ow.length-count
  .have hgt:decide ((s.un:Int)<(T.ow.length:Int)-(count:Int))=true:=(by rw[decide_eq_true_eq];omega);have HE:Hid (pP (wk V T m) V T s count=(false,s)):=ab (by unfold pP;rw[if_neg h0,if_pos h1]);clear h0 h1;go_enter func177,ntmps177;go_wp2_with fail
   go_ret;rw[uh HE];exact⟨rfl,uh HS,ar.refl _ _⟩
  .have hgt:decide ((s.un:Int)<(T.ow.length:Int)-(count:Int))=false:=(by rw[decide_eq_false_iff_not];omega);have HCh:=ab (DV hT (uh HS) (uh C7).lp);cases r8:VW T s with
   |none =>
    have HE:Hid (pP (wk V T m) V T s count=(false,s)):=ab (by unfold pP;rw[if_neg h0,if_neg h1,r8]);rw[r8]at HCh;clear h0 h1 r8;go_enter func177,ntmps177;go_wp2_with fail
    refine(uh HCh).mono ?_;rintro e w1 ⟨rfl,n,rfl⟩;rw[show dp none=(-1:Int) from rfl];go_wp2_with fail
    go_ret;rw[uh HE];exact⟨rfl,(uh HS).drewN n,(ar.refl _ _).drewN n⟩
   |some k =>
    have hk:=Ba r8;have hkT:k<T.ow.length:=(by rw[<-(uh C7).lp];exact(Fq hk).1);obtain⟨tg,tcap2,Ox,-,-⟩:=az (uh HS).ft.ow hkT;have htt:tao=some ⟨tg,0,none⟩:=by
     have:=(uh HTO).symm.trans Ox;injection this
    subst htt;obtain⟨-,-,akk,-⟩:=(uh HS).tcell (uh HTO) hkT;obtain⟨left,lX⟩:∃left,left=(T.ow.getD k au).l:=⟨_,rfl⟩;have uf:left<24:=(by rw[lX];exact(hT.at k).1);rw[<-lX]at akk;have Eo:=(uh HS).cb uf;obtain⟨bl,bS⟩:∃bl,bl=s.b left:=⟨_,rfl⟩;rw[<-bS]at Eo;have hk0:decide ((k:Int)<0)=false:=(by simp);rw[r8]at HCh;have HK:=ab hk;cases bl with
    |some a =>
     have HE:Hid (pP (wk V T m) V T s count=wk V T m s k a count):=ab (by
      unfold pP;rw[if_neg h0,if_neg h1,r8];dsimp only;rw[<-lX,<-bS])
     rw[show dp (some a)=(a:Int) from rfl]at Eo;have hna:((a:Int) != -1)=true:=mI (some a);clear h0 h1 r8 lX bS hk Ox;go_enter func177,ntmps177;go_wp2_with fail
     refine(uh HCh).mono ?_;rintro e w1 ⟨rfl,n,rfl⟩;rw[show dp (some k)=(k:Int) from rfl];go_wp2_with fail
     refine(uh HWC _ s k a count ((uh HS).drewN n) (uh C7) (uh HM) (uh HK) (uh HC)).mono ?_;rintro e w2 ⟨rfl,bE,Tl⟩;have cH:=ab bE;have ku:=ab (((ar.refl y.fp w).drewN n).trans Tl);clear bE Tl;go_wp2_with fail
     go_ret;rw[uh HE];exact⟨rfl,uh cH,uh ku⟩
    |none =>
     have HE:Hid (pP (wk V T m) V T s count=CA (wk V T m) k left count V.ow s):=ab (by
      unfold pP;rw[if_neg h0,if_neg h1,r8];dsimp only;rw[<-lX,<-bS])
     rw[show dp none=(-1:Int) from rfl]at Eo;have FA:=ab bS;clear h0 h1 r8 lX bS hk Ox;have NE:=(uh HS).cv;go_enter func177,ntmps177;go_wp2_with fail
     refine(uh HCh).mono ?_;rintro e w1 ⟨rfl,n,rfl⟩;rw[show dp (some k)=(k:Int) from rfl];have Ce:s.bd.set left none=s.bd:=by
      have:=j9 s.bd left none;rwa [show s.bd.getD left none=none from (uh FA).symm]at this
     have HSf:=ab Ce;clear Ce;go_wp2_with fail
     go_loopw [9] (λi wr=>∃(j:Nat) (o:Option Nat) (st:Int),j<=V.ow.length/\i=.int .i64 j/\Hid (Sw wr y T V { s with bd:=s.bd.set left o,st:=st })/\Hid (CA (wk V T m) k left count (V.ow.drop j) { s with bd:=s.bd.set left o,st:=st }=CA (wk V T m) k left count V.ow s)/\Hid (ar y.fp w y.fp wr)) (λi _=>V.ow.length-(intOf i).toNat)
     case atStart=>exact⟨0,none,s.st,zq5 _,rfl,ab (by rw[uh HSf];exact(uh HS).drewN n),ab (by rw[uh HSf];rfl),ab ((ar.refl _ _).drewN n)⟩
     case round =>
      obtain⟨j,o,st,hj,rfl,JE,hpj,hTj⟩:=hrel;have aqU:=(uh JE).cv;have hV6:=(uh JE).fv.c6;obtain⟨vao,vcap,EH,agz,OA,-⟩:=cP (uh JE).fv.ow;have TL:vcap<=9223372036854775807:=(by unfold maxLen at agz;omega);rw[EH]at hV6;have HVO:=ab EH;clear EH agz;by_cases aq:j<V.ow.length
      .have hd:decide ((j:Int)<(V.ow.length:Int))=true:=(by simp;omega);obtain⟨vg,vcap2,WP,-,-⟩:=az (uh JE).fv.ow aq;have htt:vao=some ⟨vg,0,none⟩:=by
        have:=(uh HVO).symm.trans WP;injection this
       subst htt;clear WP;obtain⟨-,-,akm,-⟩:=(uh JE).vcell (uh HVO) aq;obtain⟨vl,qp⟩:∃vl,vl=(V.ow.getD j au).l:=⟨_,rfl⟩;rw[<-qp]at akm;have hfz:=(uh JE).frz (26+left);have Ze:=(uh JE).cb uf;obtain⟨u0,EG⟩:∃u0,u0=dp (({ s with bd:=s.bd.set left o,st:=st }:SS).b left):=⟨_,rfl⟩;rw[<-EG]at Ze;clear EG;have cY:=(uh JE).setB uf (some vl);rw[show dp (some vl)=(vl:Int) from rfl]at cY;simp only[set_set]at cY;have Eq:=cY.cv;obtain⟨aqD,-,akn,-⟩:=cY.vcell (uh HVO) aq;rw[<-qp]at akn;have bT:=ab cY;have HVL:=ab qp;clear cY qp;have ZZ:Wf V T { s with bd:=s.bd.set left (some vl),st:=st }:=⟨(uh C7).lo,(uh C7).lp,by simpa using (uh C7).lb,(uh C7).un⟩;obtain⟨r,hr⟩:∃r,r=wk V T m { s with bd:=s.bd.set left (some vl),st:=st } k vl count:=⟨_,rfl⟩;have kW:=ab (yg (V:=V) hT m { s with bd:=s.bd.set left (some vl),st:=st } k vl count ZZ (uh HK) (uh HC) _ _ hr.symm);have HWk:=ab (λw' (hs:Sw w' y T V { s with bd:=s.bd.set left (some vl),st:=st })=>uh HWC w' _ k vl count hs ZZ (uh HM) (uh HK) (uh HC));rw[<-hr]at HWk;have HPl:Hid (CA (wk V T m) k left count V.ow s=if r.1=true then (true,r.2) else CA (wk V T m) k left count (V.ow.drop (j+1)) r.2):=ab (by
        rw[<-uh hpj];refine Px aq ?_;rw[hr,<-uh HVL];simp only[set_set])
       have HTs:Hid (ar y.fp w y.fp (wr.setCell ⟨y.q,26+left,none⟩ (.int .i64 (vl:Int)))):=ab ((uh hTj).setCell (zq0 (Sw.memQ y)) _);clear ZZ hr JE hpj hTj;go_wp2_with fail
       go_region
       go_wp2_with fail
       refine(uh HWk (wr.setCell ⟨y.q,26+left,none⟩ (.int .i64 (vl:Int))).drew ((uh bT).of_eq (λ_ _=>rfl))).mono ?_;rintro e w5 ⟨rfl,eT,JG⟩;have FJ:Hid (ar y.fp w y.fp w5):=ab ((uh HTs).trans ⟨JG.os,JG.tape,JG.output,JG.size,JG.block,JG.foot⟩);obtain⟨b5,s5⟩:=r;cases b5 with
       |true =>
        have rT:=ab eT;clear eT JG;go_wp2_with fail
        go_ret;rw[uh HE,uh HPl];exact⟨rfl,uh rT,uh FJ⟩
       |false =>
        have pD:=(uh kW).1 rfl;dsimp only at eT pD;have rT:=ab eT;have adF:=ab pD;clear eT JG pD;go_wp2_with fail
        go_roundw
        case rel =>
         refine⟨j+1,some vl,s5.st,by omega,by go_num,ab ?_,ab ?_,FJ⟩
         .rw[<-uh adF];exact uh rT
         .rw[<-uh adF,uh HPl];rfl
        case measure=>simp[intOf];omega
      .have hd:decide ((j:Int)<(V.ow.length:Int))=false:=(by simp;omega);have hfz:=(uh JE).frz (26+left);have Ze:=(uh JE).cb uf;obtain⟨u0,EG⟩:∃u0,u0=dp (({ s with bd:=s.bd.set left o,st:=st }:SS).b left):=⟨_,rfl⟩;rw[<-EG]at Ze;clear EG;have cY:=(uh JE).setB uf none;rw[show dp none=(-1:Int) from rfl]at cY;simp only[set_set]at cY;have bT:=ab cY;have HTs:Hid (ar y.fp w y.fp (wr.setCell ⟨y.q,26+left,none⟩ (.int .i64 (-1)))):=ab ((uh hTj).setCell (zq0 (Sw.memQ y)) _);have HPl:Hid (CA (wk V T m) k left count V.ow s=(false,{ s with bd:=s.bd.set left none,st:=st })):=ab (by
        rw[<-uh hpj,drop_of_length_le (by omega)];simp only[CA,set_set])
       clear cY JE hpj hTj;go_wp2_with fail
       go_ret;rw[uh HE,uh HPl];exact⟨rfl,uh bT,uh HTs⟩
def C8(w:World)(v:Value)(sz n:Nat)(xs:List Value):Prop :=
 xs.length=n*sz/\n<=40000/\((v=.slice none 0 0/\n=0)\/∃g off cap,v=.slice (some ⟨g,off,none⟩) n cap/\n<=cap/\cap<=maxLen/\∀j u,xs[j]?=some u->w.cell? ⟨g,off+j,none⟩=some u)
theorem C8.below{w w':World}{v:Value}{sz n:Nat}{xs:List Value}(h:C8 w v sz n xs)(hb:Below w.heap.size w w'):C8 w' v sz n xs:=by
 obtain⟨h1,h2,h3⟩:=h;refine⟨h1,h2,?_⟩;rcases h3 with h3|⟨g,off,cap,hv,hn,hm,hc⟩
 .exact zq0 h3
 .exact zq1 ⟨g,off,cap,hv,hn,hm,λj u hj=>by rw[hb.cell (block_lt_of_cell? w _ (hc j u hj))];exact hc j u hj⟩
theorem C8.of_own{w:World}{B:Nat}{e:TypeId}{v:Value}{sz n:Nat}{xs:List Value}(h:w.ownsRow B e sz v n xs)(hn:n<=40000):C8 w v sz n xs:=by
 have uc:=λg hg=>h.cells (g:=g) hg;refine⟨h.1,hn,?_⟩;rcases h.2 with⟨rfl,h0⟩|⟨g,cap,cur,rfl,_,_,hn,hm,_,_⟩
 .exact zq0 ⟨rfl,h0⟩
 .refine zq1 ⟨g,0,cap,rfl,hn,hm,λj u hj=>?_⟩;have:=uc g rfl j u hj;rw[show(⟨g,0,none⟩:Addr).add j=⟨g,0+j,none⟩ by unfold Addr.add;split <;> simp_all]at this;exact this
def Z4(l:List Int):List Value:=l.map (Value.int .i64)
def Yn(ns:List ByteArray)(vs:List Int)(n:ByteArray):Option Int:=if bO n fy=true then some 0 else if Eb ns n<ns.length then some (vs.getD (Eb ns n) 0) else none
def adX(l:List Bool):List Value:=l.map Value.bool
def clP(ad:List Int)(fr:List Bool)(a:Int):Nat->Bool:=λk=>fr.getD k false&&ad.getD k 0==a
def KO(ad:List Int)(fr:List Bool)(a:Int):Nat:=((range ad.length).find? (clP ad fr a)).getD ad.length
def HpA(w:World)(X:Nat)(ad nx:List Int):Prop :=
 ∃av xv,w.cell? ⟨X,2,none⟩=some av/\w.cell? ⟨X,3,none⟩=some xv/\C8 w av 1 ad.length (Z4 ad)/\C8 w xv 1 nx.length (Z4 nx)
section
variable {P:Program} {w:World}
theorem ja {ops:Array Oper} {rest:List Oper} {o:Oper} {a:Act} {Q:Exit->Act->World->Prop}
  (hg:o.guard=none) (s x:Operand) (t:TypeId) (mC:o.op=Op.call { callee:=Callee.builtin Builtin.append,args:=#[s,x],argTypes:=#[t,t] })
  (base:Nat) (e:TypeId) (i:TypeInfo) (z:Value) (size bytes:Nat) (ht:P.underlying t=some (.slice e)) (hi:P.info? e=some i) (hz:i.zero=some z)
  (iN:i.size=size) (Em:i.bytes=bytes) (J4:z.cells.size=size) (ko:0<size)
  (v:Value) (n:Nat) (xs:List Value) (hs:a.eval s=v) (aN:w.ownsRow base e size v n xs)
  (xv:Value) (m:Nat) (news:List Value) (hx:a.eval x=xv) (hL:C8 w xv size m news) (h1:∀u∈news,u.oneCell'=true)
  (Jy:n+m<=1000000) (hb:bytes<=1000) (jP:base<=w.heap.size)
  (hK:∀v' w',w'.ownsRow base e size v' (n+m) (xs++news)->w.grownBy w' v.ownBlock->wpList P ops Q rest (a.put o.dst v') w') :
  wpList P ops Q (o::rest) a w:=by
 have hbytes:(n+m)*bytes<=140737488355328:=zq3 (Nat.mul_le_mul Jy hb) (by decide);obtain⟨hl,_,(⟨rfl,rfl⟩|⟨g,off,cap,rfl,hn,hm,hc⟩)⟩:=hL
 .have:news=[]:=eq_nil_of_length_eq_zero (by omega);subst this;refine wpList_append_own_none hg s x t mC base e i size ht hi v n xs hs aN hx ?_;exact hK v w (by simpa using aN) ⟨rfl,rfl,rfl,zq4 _,λ_ _ _=>rfl⟩
 .refine wpList_append_own w hg s x t mC base e i z size bytes ht hi hz iN Em J4 ko v n xs hs aN ⟨g,off,none⟩ m cap news hx hl (λj u hj=>?_) h1 (by unfold maxLen;omega) hbytes jP (λv' w' r1 r2 _=>hK v' w' r1 r2);rw[show(⟨g,off,none⟩:Addr).add j=⟨g,off+j,none⟩ by unfold Addr.add;split <;> simp_all];exact hc j u hj
end
theorem infoInt:(prog.info? 3).map (λi=>(i.zero,i.size,i.bytes))=some (some (.int .i64 0),1,8):=by kernel_rfl
def al9(ns:List ByteArray)(vs:List Int)(a:oQ):Bool:=match Yn ns vs a.a,Yn ns vs a.b with|some x,some y=>(x==y) != bO a.k bV|_,_=>false
def oNm(ns:List ByteArray)(vs:List Int)(cur:ByteArray)(a:oQ):ByteArray:=if (Yn ns vs a.b).isSome=false then a.b else if (Yn ns vs a.a).isSome=false then a.a else cur
def oN(ns:List ByteArray)(vs:List Int)(l:List oQ):ByteArray:=l.foldl (oNm ns vs) em
def mst(vs:List Int):Int:=vs.foldl (λm v=>if m<v then v else m) 0
def oth(l:List oQ):Nat->List ByteArray->List Int->Bool
 |0,_,_=>false
 |f+1,ns,vs=>if l.any (al9 ns vs) then false else if bO (oN ns vs l) em then true else
  vs.any (λv=>oth l f (ns++[oN ns vs l]) (vs++[v]))||oth l f (ns++[oN ns vs l]) (vs++[0])||oth l f (ns++[oN ns vs l]) (vs++[mst vs+1])
def abx(ad nx:List Int)(C:List ByteArray->List Int->List Bool->Bool)(a:oQ)(ns:List ByteArray)(vs:List Int):Nat->Int->List Bool->Bool
 |0,_,_=>false
 |m+1,v,fr =>
  if KO ad fr v<ad.length then
   let ok:=match Yn ns vs a.b with
    |none=>C (ns++[a.b]) (vs++[nx.getD (KO ad fr v) 0]) (fr.set (KO ad fr v) false)
    |some e=>(e==nx.getD (KO ad fr v) 0)&&C ns vs (fr.set (KO ad fr v) false)
   ok||(!bO a.k kS&&abx ad nx C a ns vs m (nx.getD (KO ad fr v) 0) (fr.set (KO ad fr v) false))
  else false
structure Rw(w:World)(X:Nat)(ad nx:List Int)(pl pu:List oQ)(ns:List ByteArray)(vs:List Int)(fr:List Bool)(rv pv nv vv fv:Value):Prop where
 hp:HpA w X ad nx
 pl:C8 w rv 3 pl.length (Iq pl)
 pu:C8 w pv 3 pu.length (Iq pu)
 ns:C8 w nv 1 ns.length (ns.map Value.string)
 vs:C8 w vv 1 vs.length (Z4 vs)
 fr:C8 w fv 1 fr.length (adX fr)
def pki(ns:List ByteArray)(vs:List Int):List oQ->Option Nat
 |[]=>none
 |a::r=>if (Yn ns vs a.a).isSome then some 0 else (pki ns vs r).map (·+1)
def Xe(ns:List ByteArray)(vs:List Int)(pl:List oQ)(j:Nat):Nat:=match pki ns vs (pl.drop j) with|some t=>j+t|none=>0
def ra0:oQ:=⟨em,em,em⟩
def Yb(ad nx:List Int)(pu:List oQ):Nat->List oQ->List ByteArray->List Int->List Bool->Bool
 |0,_,ns,vs,fr=>!fr.any id&&oth pu (2*pu.length+1) ns vs
 |f+1,pl,ns,vs,fr =>
  match Yn ns vs (pl.getD (Xe ns vs pl 0) ra0).a with
  |some v=>abx ad nx (Yb ad nx pu f (pl.take (Xe ns vs pl 0)++pl.drop (Xe ns vs pl 0+1))) (pl.getD (Xe ns vs pl 0) ra0) ns vs (fr.count true+1) v fr
  |none=>(range ad.length).any (λk=>fr.getD k false&&abx ad nx (Yb ad nx pu f (pl.take (Xe ns vs pl 0)++pl.drop (Xe ns vs pl 0+1))) (pl.getD (Xe ns vs pl 0) ra0) (ns++[(pl.getD (Xe ns vs pl 0) ra0).a]) (vs++[ad.getD k 0]) (fr.count true+1) (ad.getD k 0) fr)
def Ix(ad nx:List Int):List Nat->Int->Int->Prop
 |[],_,_=>False
 |[k],v,e=>ad.getD k 0=v/\nx.getD k 0=e
 |k::k2::r,v,e=>ad.getD k 0=v/\Ix ad nx (k2::r) (nx.getD k 0) e
theorem aa5{ad nx:List Int}{k:Nat}{r:List Nat}{v e:Int}(h:Ix ad nx (k::r) v e):ad.getD k 0=v:=by
 cases r with
 |nil=>exact h.1
 |cons k2 r=>exact h.1
def tk:List Bool->List Nat->Option (List Bool)
 |fr,[]=>some fr
 |fr,k::r=>if fr.getD k false=true then tk (fr.set k false) r else none
theorem vf(p q:List Nat)(fr:List Bool):tk fr (p++q)=(tk fr p).bind (λf=>tk f q):=by
 induction p generalizing fr with
 |nil=>rfl
 |cons k r ih =>
  simp only[cons_append,tk];split
  .exact ih _
  .rfl
theorem U6(fr:List Bool)(j k:Nat)(r:List Nat):tk fr (j::k::r)=tk fr (k::j::r):=by
 have hg:∀(a b:Nat),(fr.set a false).getD b false=(if a=b then false else fr.getD b false):=by
  intro a b;simp only[getD_eq_getElem?_getD,getElem?_set];by_cases h:a=b
  .subst h;rw[if_pos rfl,if_pos rfl];split <;> rfl
  .rw[if_neg h,if_neg h]
 simp only[tk,hg];by_cases h:j=k
 .subst h;rfl
 .have h2:¬ k=j:=λe=>h e.symm;simp only[if_neg h,if_neg h2,set_comm _ _ h];by_cases a1:fr.getD j false=true
  .by_cases a2:fr.getD k false=true
   .simp only[if_pos a1,if_pos a2]
   .simp only[if_pos a1,if_neg a2]
  .by_cases a2:fr.getD k false=true
   .simp only[if_neg a1,if_pos a2]
   .simp only[if_neg a1,if_neg a2]
theorem IM{p q:List Nat}(h:p.Perm q):∀fr,tk fr p=tk fr q:=by
 induction h with
 |nil=>intro fr;rfl
 |cons k _ ih=>intro fr;simp only[tk];split;exact ih _;rfl
 |swap j k r=>intro fr;exact U6 fr k j r
 |trans _ _ h1 h2=>intro fr;rw[h1,h2]
theorem Gy{fr:List Bool}{k:Nat}(h:fr.getD k false=true):k<fr.length:=by
 rcases Nat.lt_or_ge k fr.length with h1|h1
 .exact h1
 .simp[getD_eq_getElem?_getD,getElem?_eq_none h1]at h
theorem Iy{ad nx:List Int}:∀{p q:List Nat} {v m e:Int},Ix ad nx p v m->Ix ad nx q m e->Ix ad nx (p++q) v e:=by
 intro p;induction p with
 |nil=>intro q v m e h;exact h.elim
 |cons k r ih =>
  intro q v m e hp hq;cases q with
  |nil=>exact hq.elim
  |cons j q =>
   cases r with
   |nil =>
    have h1:ad.getD k 0=v/\nx.getD k 0=m:=hp;show ad.getD k 0=v/\Ix ad nx (j::q) (nx.getD k 0) e;exact⟨h1.1,by rw[h1.2];exact hq⟩
   |cons k2 r =>
    have h1:ad.getD k 0=v/\Ix ad nx (k2::r) (nx.getD k 0) m:=hp;show ad.getD k 0=v/\Ix ad nx (k2::(r++j::q)) (nx.getD k 0) e;exact⟨h1.1,ih h1.2 hq⟩
