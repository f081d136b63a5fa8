import Derived.Test.YtciihepbeacppaaGreatGR
set_option maxRecDepth 100000
set_option maxHeartbeats 0
namespace Go.Proofs.YtciihepbeacppaaGreat
open Tryz Go.RowKit List World Below
set_option linter.unusedVariables false
theorem O4(n:Nat)(l:List Pr):nWh n l<=n:=by
 have h:=length_filter_le (λi=>(l.getD i au).k==4) (range n);rw[length_range]at h;exact h
theorem s7{al:List bC}(ht:gD al){a:bC}(ha:a∈al):(fL (jX al) a).l<24/\(fL (jX al) a).r<24:=by
 have h1:=md ht (ht a ha).1;have h2:=md ht (ht a ha).2;have e1:(fL (jX al) a).l=(jX al).getD (tm a).l 0:=rfl;have e2:(fL (jX al) a).r=(jX al).getD (tm a).r 0:=rfl;omega
theorem L5{al:List bC}(ht:gD al):Rm (aG al):=by
 intro p hp;obtain⟨a,ha,rfl⟩:=mem_map.1 hp;exact s7 ht (mem_filter.1 ha).1
theorem Yc{al:List bC}(ht:gD al):VL (aG al):=by
 intro p hp;obtain⟨a,ha,rfl⟩:=mem_map.1 hp;exact s7 ht (mem_filter.1 ha).1
theorem VT{al:List bC}(ht:gD al)(i:Nat)(hi:i<5):(aG al).cl.getD i 0<24:=by
 rw[rz hi];have:=md ht (i:=i) (by omega);omega
theorem VU(al:List bC):(aG al).ow.length<=al.length:=by
 show(List.map _ _).length<=_;rw[length_map];exact length_filter_le _ _
theorem Jt{al bl:List bC}(h:dT (aG al)=true):Dc al bl=(false,7):=by unfold Dc;rw[if_pos h]
theorem MZ{al bl:List bC}(h:dT (aG al)=false)(h2:rC (aG al) (aG bl) [0,1,2,3,4] (replicate 24 none)=none):Dc al bl=(false,0):=by unfold Dc;rw[if_neg (by rw[h];decide),h2]
theorem M2{al bl:List bC}{an:List (Option Nat)}(h:dT (aG al)=false)(h2:rC (aG al) (aG bl) [0,1,2,3,4] (replicate 24 none)=some an):Dc al bl=((rV (aG al) (aG bl) an ((aG al).ow.length+1) 262144 (aG al).ow).1,0):=by unfold Dc;rw[if_neg (by rw[h];decide),h2]
def UV(A A':Nat):Array Value:=#[Value.pointer (some ⟨A,0,none⟩),Value.pointer (some ⟨A',0,none⟩),Value.int IntKind.i64 0,Value.int IntKind.i64 0,Value.int IntKind.i64 0,Value.int IntKind.i64 0,Value.int IntKind.i64 0,Value.int IntKind.i64 0,Value.int IntKind.i64 0,Value.int IntKind.i64 0,Value.int IntKind.i64 0,Value.int IntKind.i64 0,Value.int IntKind.i64 0,Value.int IntKind.i64 0,Value.int IntKind.i64 0,Value.int IntKind.i64 0,Value.int IntKind.i64 0,Value.int IntKind.i64 0,Value.int IntKind.i64 0,Value.int IntKind.i64 0,Value.int IntKind.i64 0,Value.int IntKind.i64 0,Value.int IntKind.i64 0,Value.int IntKind.i64 0,Value.int IntKind.i64 0,Value.int IntKind.i64 0,Value.int IntKind.i64 0,Value.int IntKind.i64 0,Value.int IntKind.i64 0,Value.int IntKind.i64 0,Value.int IntKind.i64 0,Value.int IntKind.i64 0,Value.int IntKind.i64 0,Value.int IntKind.i64 0,Value.int IntKind.i64 0,Value.int IntKind.i64 0,Value.int IntKind.i64 0,Value.int IntKind.i64 0,Value.int IntKind.i64 0,Value.int IntKind.i64 0,Value.int IntKind.i64 0,Value.int IntKind.i64 0,Value.int IntKind.i64 0,Value.int IntKind.i64 0,Value.int IntKind.i64 0,Value.int IntKind.i64 0,Value.int IntKind.i64 0,Value.int IntKind.i64 0,Value.int IntKind.i64 0,Value.int IntKind.i64 0,Value.pointer none,Value.slice none 0 0,Value.int IntKind.i64 0,Value.slice none 0 0,Value.int IntKind.i64 262144]
theorem ET(w:World)(A A':Nat):Sn (w.alloc (.cells (UV A A') 202)) w.heap.size A A' 262144 (replicate 24 (.int .i64 0)) (replicate 24 (.int .i64 0)++[.pointer none,.slice none 0 0,.int .i64 0,.slice none 0 0,.int .i64 262144]) :=
 ⟨ownsRow_lit (base:=0) (e:=202) (size:=55) w (UV A A') 1 (zq5 _) (by simp[maxLen]) rfl,by simp,_,_,_,_,_,rfl,by simp⟩
theorem Bv {w:World} {B B':Nat} {sv tv:Value} {al bl:List bC} (h:w.ownsRow B 239 5 sv al.length (aW al)) (h':w.ownsRow B' 239 5 tv bl.length (aW bl)) (ht:gD al) (J2:gD bl) (jC:al.length<=300) (bS:bl.length<=300)
  (hb:∀a∈al,a.lk<=2/\a.rk<=2/\a.li<=100/\a.ri<=100) (rF:∀a∈bl,a.lk<=2/\a.rk<=2/\a.li<=100/\a.ri<=100) :
  Calls prog 66 #[sv,tv] w λe w'=>e=.returned (.tuple #[.bool (Dc al bl).1,.int .i64 (Dc al bl).2])/\Below w.heap.size w w':=by
 have I3:=ab (Ph h ht (by omega) hb);have Ah:=ab h';obtain⟨F,hF⟩:∃F,F=aG al:=⟨_,rfl⟩;obtain⟨T,hT⟩:∃T,T=aG bl:=⟨_,rfl⟩;have HF0:=ab hF;have HT0:=ab hT;have HRm:=ab (L5 ht);have adD:=ab (L5 J2);have adB:=ab (Yc J2);have HCl:=ab (VT ht);have acX:=ab (VT J2);have HLo:=ab (VU al);have adj:=ab (VU bl);have HT':=ab J2;have HB':=ab rF;rw[<-hF]at I3 HRm HCl HLo;rw[<-hT]at adD adB acX adj;clear h h' hF hT ht J2 hb rF;go_enter func66,ntmps66;go_wp2_with fail
 refine(uh I3).mono ?_;rintro e w1 ⟨A,fav,fov,rfl,hIF,ir,a7⟩;have HIF:=ab hIF;have HFr:=ab ir;have dm:=ab a7;clear hIF ir a7 I3;go_wp2_with fail
 refine(xe (uh HIF) (uh HRm) (uh HCl 0 (by omega))).mono ?_;rintro e w2 ⟨rfl,aL⟩;have XA:=ab ((uh HIF).of_eq (λk hk=>aL.block k ((uh HIF).lt k hk)));have cg:=ab ((uh dm).trans (aL.mono (uh dm).size));clear aL HIF dm;by_cases jE:dT F=true
 .have HE:Hid (Dc al bl=(false,7)):=ab (Jt (by rw[<-uh HF0];exact jE));go_wp2_with fail
  go_ret2;exact⟨by rw[uh HE];rfl,uh cg⟩
 .have afi:dT F=false:=by simpa using jE
  have Vz:=ab (Ph (UJ (uh Ah) ⟨(uh cg).os,(uh cg).tape,(uh cg).output,(uh cg).size,(uh cg).block⟩) (uh HT') (by omega) (uh HB'));go_wp2_with fail
  refine(uh Vz).mono ?_;rintro e w3 ⟨A',tav,tov,rfl,hIT,afp,cB⟩;rw[<-uh HT0]at hIT;have Lj:=ab ((uh XA).of_eq (λk hk=>cB.block k ((uh XA).lt k hk)));have oL:=ab ((uh cg).trans (cB.mono (uh cg).size));have Lk:=ab hIT;have apr:=ab afp;clear cB hIT afp XA cg Vz;go_wp2_with fail
  have aq:=(uh Lj).lt;have afS:=(uh Lk).lt;have Lm:Hid (∀k∈aD A fav fov,k≠w3.heap.size):=ab (λk hk=>by have:=aq k hk;omega);have Ry:Hid (∀k∈aD A' tav tov,k≠w3.heap.size):=ab (λk hk=>by have:=afS k hk;omega);clear aq afS;refine(Bi (F:=F) (T:=T) (ET w3 A A') ((uh Lj).alloc _) ((uh Lk).alloc _) (uh Lm) (uh Ry) (uh acX)).mono ?_;rintro e w4 ⟨rfl,hsq,aE⟩;have qt:=ab (((ar.refl [w3.heap.size] w3).alloc _).trans aE |>.below (zq4 _) (by simp));have XB:=ab (((uh Lj).alloc (.cells (UV A A') 202)).of_eq (λk hk=>aE.blk k (((uh Lj).alloc _).lt k hk) (uh Lm k hk)));have ai6:=ab (((uh Lk).alloc (.cells (UV A A') 202)).of_eq (λk hk=>aE.blk k (((uh Lk).alloc _).lt k hk) (uh Ry k hk)));have RI:=ab hsq;clear hsq aE Lj Lk;cases jm:rC F T [0,1,2,3,4] (replicate 24 none) with
  |none =>
   have HE:Hid (Dc al bl=(false,0)):=ab (MZ (by rw[<-uh HF0];exact afi) (by rw[<-uh HF0,<-uh HT0];exact jm));rw[jm]at RI;clear RI;go_wp2_with fail
   go_ret2;exact⟨by rw[uh HE];rfl,(uh oL).trans ((uh qt).mono (uh oL).size)⟩
  |some an =>
   have HE:=ab (M2 (by rw[<-uh HF0];exact afi) (by rw[<-uh HF0,<-uh HT0];exact jm):Dc al bl=_);rw[<-uh HF0,<-uh HT0]at HE;have c6:=(uh XB).c6;have Av:Al w4 w3.heap.size A A' an F T fav fov tav tov 262144 F.ow fov:=by
    refine⟨⟨uh RI an jm,uh XB,uh ai6,uh Lm,uh Ry⟩,(uh XB).ow,λk hk=>uh Lm k (by simp[aD,hk]),zq4 _,?_⟩;have h1:=O4 F.ow.length F.ow;have h2:=uh HLo;omega
   have HA:=ab (DH (F:=F) (T:=T) (an:=an) (uh adD) (uh adB) (by have:=uh adj;omega) (F.ow.length+1) w4 w3.heap.size A A' fav fov tav tov 262144 F.ow fov Av (by have:=O4 F.ow.length F.ow;omega));clear Av RI jm;go_wp2_with fail
   refine(uh HA).mono ?_;rintro e w5 ⟨rfl,-,m0⟩;have io:Hid (Below w3.heap.size w3 w5):=ab ⟨m0.os.trans (uh qt).os,m0.tape.trans (uh qt).tape,m0.output.trans (uh qt).output,zq3 (uh qt).size m0.size,λk hk=>(m0.blk k (zq6 hk (uh qt).size) (by omega)).trans ((uh qt).block k hk)⟩;clear m0;go_wp2_with fail
   go_ret2;exact⟨by rw[uh HE];rfl,(uh oL).trans ((uh io).mono (uh oL).size)⟩
def IH(A A':Nat):Array Value:=(#[Value.pointer (some ⟨A,0,none⟩),Value.pointer (some ⟨A',0,none⟩)].toList++(replicate 48 (Value.int .i64 0)++[Value.pointer none,Value.slice none 0 0,Value.int .i64 0,Value.slice none 0 0,Value.int .i64 128])).toArray
theorem Cu(w:World)(A A':Nat):Sn (w.alloc (.cells (IH A A') 202)) w.heap.size A A' 128 (replicate 24 (.int .i64 0)) (replicate 24 (.int .i64 0)++[.pointer none,.slice none 0 0,.int .i64 0,.slice none 0 0,.int .i64 128]) :=
 ⟨ownsRow_lit (base:=0) (e:=202) (size:=55) w (IH A A') 1 (zq5 _) (by simp[maxLen]) rfl,by simp,_,_,_,_,_,rfl,by simp⟩
section
variable {w:World} {D A D' A':Nat} {s t:CF} {av ov av' ov':Value}
theorem vn(h:qh w D A s av ov)(h':qh w D' A' t av' ov')(hT:Td s)(YX:Td t):Calls prog 231 #[.pointer (some ⟨D,0,none⟩),.pointer (some ⟨D',0,none⟩)] w λe w'=>e=.returned (.bool (zZ s t))/\Below w.heap.size w w':=by
 have HHR:Hid (∀m:Nat,Calls prog 252 #[.pointer (some ⟨D,0,none⟩),.pointer (some ⟨D',0,none⟩)] (w.drewN m) λe w'=>e=.returned (.bool (roB s t))/\∃j,w'=w.drewN j):=ab (λm=>(BK (w:=w.drewN m) (h.of_eq (λ_ _=>rfl)) (h'.of_eq (λ_ _=>rfl)) hT.ok YX.ok).mono (λe w' hw=>⟨hw.1,by obtain⟨n,rfl⟩:=hw.2;exact⟨_,drewN_drewN _ _ _⟩⟩));have I1:Hid (∀m:Nat,Calls prog 253 #[.pointer (some ⟨D,0,none⟩),.pointer (some ⟨D',0,none⟩)] (w.drewN m) λe w'=>e=.returned (.bool (Rf s t))/\∃j,w'=w.drewN j):=ab (λm=>(wu (w:=w.drewN m) (h.of_eq (λ_ _=>rfl)) (h'.of_eq (λ_ _=>rfl))).mono (λe w' hw=>⟨hw.1,by obtain⟨n,rfl⟩:=hw.2;exact⟨_,drewN_drewN _ _ _⟩⟩));have GV:zZ s t=(roB s t&&Rf s t&&(match rC s t [0,1,2,3,4] (replicate 24 none) with|none=>false|some an=>(xj s t an 128).1)):=rfl;obtain⟨R,hR⟩:∃R,R=zZ s t:=⟨_,rfl⟩;rw[<-hR];rw[<-hR]at GV;have HW:=ab GV;have H:=ab h;have H':=ab h';have HT:=ab hT;have HT':=ab YX;have f1:=h.fo;have f2:=h'.fo;clear h h' hT YX GV hR;go_enter func231,ntmps231;go_wp2_with fail
 refine(uh HHR 0).mono ?_;rintro e w1 ⟨rfl,n1,rfl⟩;cases TI:roB s t
 .have HE:Hid (R=false):=ab (by rw[uh HW,TI];rfl);clear TI;go_wp2_with fail
  go_ret;exact⟨aB (uh HE).symm,jL _ _⟩
 .go_wp2_with fail
  refine(uh I1 n1).mono ?_;rintro e w2 ⟨rfl,n2,rfl⟩;cases hlk:Rf s t
  .have HE:Hid (R=false):=ab (by rw[uh HW,TI,hlk];rfl);clear TI hlk;go_wp2_with fail
   go_ret;exact⟨aB (uh HE).symm,jL _ _⟩
  .have HE:Hid (R=(match rC s t [0,1,2,3,4] (replicate 24 none) with|none=>false|some an=>(xj s t an 128).1)):=ab (by rw[uh HW,TI,hlk];rfl);clear TI hlk;go_wp2_with fail
   go_region
   obtain⟨W,hW⟩:∃W,W=w.drewN (n2+1):=⟨_,rfl⟩;rw[<-hW];have hbW:Below w.heap.size w W:=(by rw[hW];exact jL w _);have ko:W.heap.size=w.heap.size:=(by rw[hW];rfl);have h1:=(uh H).below hbW;have h1':=(uh H').below hbW;have Lm:Hid (∀k∈aD A av ov,k≠W.heap.size):=ab (λk hk=>by have:=h1.ff.lt k hk;omega);have Ry:Hid (∀k∈aD A' av' ov',k≠W.heap.size):=ab (λk hk=>by have:=h1'.ff.lt k hk;omega);have HDn:Hid (D≠W.heap.size):=ab (by have:=h1.bk.lt;omega);have Lg:=ab hbW;have HI:=ab h1;have vq:=ab h1';rw[show w.heap.size=W.heap.size from ko.symm];clear hW hbW ko h1 h1' f1 f2;go_wp2_with fail
   refine(Bi (F:=s) (T:=t) (Cu W A A') ((uh HI).ff.alloc _) ((uh vq).ff.alloc _) (uh Lm) (uh Ry) (λi _=>(uh HT').ok.get i)).mono ?_;rintro e w4 ⟨rfl,hsq,aE⟩;have mA:Below W.heap.size W w4:=((ar.refl [W.heap.size] W).alloc _).trans aE |>.below (zq4 _) (by simp);have qt:=ab mA;have kZ:qh w4 D A s av ov:=((uh HI).below (ah W (.cells (IH A A') 202))).of_eq (λk hk=>aE.blk k (zq6 ((uh HI).lt k hk) (ah W _).size) (by
    rcases mem_cons.1 hk with rfl|hk
    .exact uh HDn
    .exact uh Lm k hk))
   have qN:dF w4 A' t av' ov':=((uh vq).ff.alloc (.cells (IH A A') 202)).of_eq (λk hk=>aE.blk k (((uh vq).ff.alloc _).lt k hk) (uh Ry k hk));have RI:=ab hsq;have mU:=ab kZ;have Vs:=ab qN;clear hsq aE mA kZ qN HI vq;cases jm:rC s t [0,1,2,3,4] (replicate 24 none) with
   |none =>
    rw[jm]at HE RI;have tz:Hid (R=false):=ab (uh HE);clear RI HE jm;go_wp2_with fail
    go_ret;exact⟨aB (uh tz).symm,(uh Lg).trans ((uh qt).mono (uh Lg).size)⟩
   |some an =>
    rw[jm]at HE;have tz:Hid (R=(xj s t an 128).1):=ab (uh HE);have f0:=(uh mU).fo;have c6:=(uh mU).ff.c6;have QZ:Se w4 W.heap.size A A' an s t av ov av' ov' 128:=⟨uh RI an jm,(uh mU).ff,uh Vs,uh Lm,uh Ry⟩;have gl:=(uh HT).ok.owLen;have aro:=(uh HT').ok.owLen;have C1:=ab (tV QZ (uh mU).ff.ow (λk hk=>uh Lm k (by simp[aD,hk])) (by omega) (by omega) (uh HT').ok.ow (uh HT').ok.ap);obtain⟨oa,oc,d7,-,-⟩:=aj (uh mU).ff.ow;subst d7;clear QZ RI jm HE;go_wp2_with fail
    refine(uh C1).mono ?_;rintro e w5 ⟨rfl,v5,ov5,pv5,-,pD,-⟩;have io:Hid (Below W.heap.size W w5):=ab ⟨pD.os.trans (uh qt).os,pD.tape.trans (uh qt).tape,pD.output.trans (uh qt).output,zq3 (uh qt).size pD.size,λk hk=>(pD.block k (zq6 hk (uh qt).size) (by simp;omega)).trans ((uh qt).block k hk)⟩;clear pD C1;go_wp2_with fail
    go_ret;exact⟨aB (by rw[uh tz];rfl),(uh Lg).trans ((uh io).mono (uh Lg).size)⟩
end
theorem OK(w:World)(f:CF):∃M,M=cS (Du f)/\M.length=24/\(w.alloc (.cells (cS (replicate 24 false)).toArray 240)).there w.heap.size 0 M.toArray.size/\(prog.info? 240).map (·.size)=some M.toArray.size/\M.toArray.all (·.oneCell')=true /\
  Ob ((w.alloc (.cells (cS (replicate 24 false)).toArray 240)).setCells w.heap.size 0 M) 240 24 w.heap.size (cS (Du f))/\Below w.heap.size w ((w.alloc (.cells (cS (replicate 24 false)).toArray 240)).setCells w.heap.size 0 M):=by
 have dJ:(cS (Du f)).length=24:=by simp[cS,Du]
 have hX:=yC w;refine⟨cS (Du f),rfl,dJ,?_,?_,?_,?_,?_⟩
 .intro j hj;rw[size_toArray,dJ]at hj;obtain⟨⟨u,hu⟩,hz⟩:=hX.some (j:=j) hj;rw[Nat.zero_add];exact⟨by rw[hu];rfl,hz⟩
 .rw[size_toArray,dJ];exact infoB24
 .exact all_oneCell_toArray (by
   intro v hv;obtain⟨o,_,rfl⟩:=mem_map.1 hv;rfl)
 .have h5:=Ob.setCells (cS (Du f)) 0 hX;have Ot:=mn (cS (Du f)) [] (cS (replicate 24 false)) [] (by rw[dJ];rfl);simp only[nil_append,append_nil,length_nil]at Ot;rw[Ot]at h5;exact h5
 .have Aw:∀(vs:List Value) (o:Nat) (x:World),Below w.heap.size w x->Below w.heap.size w (x.setCells w.heap.size o vs):=by
   intro vs;induction vs with
   |nil=>intro o x h;exact h
   |cons v r ih=>intro o x h;exact ih (o+1) _ (h.setCell (zq4 _) v)
  exact Aw _ 0 _ (ah w _)
theorem zJ(f:CF){c:Nat}(hc:c<24):(Du f).getD c false=decide (c∈oJ f):=by
 unfold Du;rw[getD_eq_getElem?_getD,getElem?_map,getElem?_range hc];rfl
theorem zK(f:CF):(Du f).length=24:=by simp[Du]
def AL(f:CF)(k:Nat):List Nat:=(range k).filter (λi=>!decide ((owA f i).l∈oJ f))
theorem OQ(f:CF)(k:Nat):AL f (k+1)=AL f k++(if (owA f k).l∈oJ f then [] else [k]):=by
 unfold AL;rw[range_succ,filter_append];congr 1;by_cases h:(owA f k).l∈oJ f <;> simp[h]
theorem TZ(f:CF)(k:Nat):(AL f k).length<=k:=by
 unfold AL;exact zq3 (length_filter_le _ _) (by simp)
section
variable {w:World} {A:Nat} {f:CF} {av ov:Value}
theorem ut(h:dF w A f av ov)(hO:am f):Calls prog 200 #[.pointer (some ⟨A,0,none⟩)] w λe w'=>∃v,e=.returned v/\w'.ownsRow w.heap.size 3 1 v (eY f).length (q8 (eY f))/\Below w.heap.size w w':=by
 obtain⟨i0,iL,eo,ep,eK⟩:=info_parts infoInt;have gl:=hO.owLen;have C6:=ab (mj h hO);have H:=ab h;have HO:=ab hO;clear h hO;go_enter func200,ntmps200;go_wp2_with fail
 refine(uh C6).mono ?_;rintro e w1 ⟨rfl,a7⟩;obtain⟨M,hM,dJ,rZ,bP,t0,Ay,bS⟩:=OK w1 f;rw[<-hM];have sy:=ab rZ;have dc:=ab bP;have DD:=ab t0;obtain⟨X,fS⟩:∃X,X=w1.heap.size:=⟨_,rfl⟩;obtain⟨W2,ey⟩:∃W2,W2=(w1.alloc (.cells (cS (replicate 24 false)).toArray 240)).setCells w1.heap.size 0 M:=⟨_,rfl⟩;rw[<-ey]at Ay bS;rw[<-fS]at Ay;have aL:=a7.trans (bS.mono a7.size);have RE:=ab Ay;have cg:=ab aL;have HXw:Hid (w.heap.size<=X):=ab (by rw[fS];exact a7.size);clear rZ bP t0 Ay bS a7 aL hM C6;simp only[cS,replicate,map_cons,map_nil]at ey;go_upto_region 2 with(refine wpList_store_mid rfl 240 (.tmp 3) (.tmp 7) rfl _ 0 M.toArray rfl rfl (uh sy) (uh dc) (uh DD) ?_);rw[<-ey,<-fS];clear ey fS sy dc DD dJ;have ru:Hid ((W2.alloc (.cells #[] 3)).ownsRow w.heap.size 3 1 (.slice (some ⟨W2.heap.size,0,none⟩) 0 0) (AL f 0).length (q8 (AL f 0))/\Below W2.heap.size W2 (W2.alloc (.cells #[] 3))):=ab ⟨dA (ownsRow_lit (base:=W2.heap.size) (e:=3) (size:=1) W2 #[] 0 (zq4 _) (by simp[maxLen]) rfl) (uh cg).size,ah W2 _⟩;go_wp2_with fail
 go_loopg [4,5] f.ow.length (λgn lv iv wx=>∃(k:Nat),k+gn=f.ow.length/\iv=.int .i64 k/\Hid (wx.ownsRow w.heap.size 3 1 lv (AL f k).length (q8 (AL f k))/\Below W2.heap.size W2 wx/\∀j,lv.ownBlock=some j->W2.heap.size<=j))
 case atStart=>exact⟨0,by omega,rfl,ab ⟨(uh ru).1,(uh ru).2,λj hj=>by simp only[Value.ownBlock,Option.some.injEq]at hj;omega⟩⟩
 case round =>
  clear ru;obtain⟨k,eV,rfl,hI⟩:=hrel;obtain⟨G,hG⟩:∃G,G=gk:=⟨_,rfl⟩;obtain⟨la,lc,dX,-,-⟩:=aj (uh hI).1;subst dX;have hF:=((uh H).below (uh cg)).below (uh hI).2.1;have lI:=(uh RE).of_eq (w':=wr) ((uh hI).2.1.block X (ownsRow.lt (uh RE) X rfl).2);have c6:=hF.c6;obtain⟨oa,oc,d7,-,-⟩:=aj hF.ow;subst d7;by_cases aq:k<f.ow.length
  .have hd:decide ((k:Int)<(f.ow.length:Int))=true:=(by simp;omega);obtain⟨go,gc,kK,-,-⟩:=az hF.ow aq;simp only[Value.slice.injEq,true_and]at kK;obtain⟨rfl,rfl⟩:=kK;obtain⟨-,y1,-⟩:=ax hF.ow aq;have eE:=((uh HO).ow _ (aZ aq)).1;have aE:=OQ f k;have ZG:owA f k=f.ow.getD k au:=rfl;rw[ZG]at aE;obtain⟨p,hp⟩:∃p,p=f.ow.getD k au:=⟨_,rfl⟩;rw[<-hp]at y1 eE aE;have d1:=(ownsRow.cellAt lI p.l (by omega)).trans (eH (by rw[zK];exact eE));rw[zJ f eE]at d1;have i1:(0:Int)<=(k:Int):=(by omega);have i2:(k:Int)<(f.ow.length:Int):=(by omega);have i3:(p.l:Int)<24:=(by omega);have cN:=TZ f k;by_cases hm:p.l∈oJ f
   .rw[show decide (p.l∈oJ f)=true by simpa using hm]at d1;rw[if_pos hm,append_nil]at aE;have HN:Hid (wr.ownsRow w.heap.size 3 1 (.slice la (AL f k).length lc) (AL f (k+1)).length (q8 (AL f (k+1)))/\Below W2.heap.size W2 wr/\∀j,(Value.slice la (AL f k).length lc).ownBlock=some j->W2.heap.size<=j):=ab (by rw[aE];exact uh hI);clear hF lI hp aE ZG hm hI;go_wp2_with fail
    go_roundg (G-1)
    case rel=>exact⟨k+1,by omega,by go_num,HN⟩
    case measure=>omega
   .rw[show decide (p.l∈oJ f)=false by simpa using hm]at d1;rw[if_neg hm]at aE;have HR:=ab (uh hI).1;have CY:=ab (uh hI).2;have cK:=ab aE;have arG:=(uh cg).size;have arA:=(uh hI).2.1.size;obtain⟨L,hL⟩:∃L,L=AL f k:=⟨_,rfl⟩;rw[<-hL]at HR CY cK cN hI ⊢;clear hF lI hp aE ZG hm hI hL;go_wp2_with (at_builtin;refine aH _ rfl (.tmp 29) (.tmp 31) 29 rfl w.heap.size 3 i0 _ 1 8 underlying29 iL eo ep eK rfl (by decide) _ L.length (q8 L) rfl ((uh HR).alloc _) ⟨_,0,none⟩ 1 [.int .i64 (k:Int)] rfl rfl (aP _ _ (by simp) [.int .i64 (k:Int)] _) (by intro u hu;simp only[mem_singleton]at hu;subst hu;rfl) (by omega) (by omega) (by simp;omega) ?_)
    intro g4 cap4 w4 gM dM iJ;have HN:Hid (w4.ownsRow w.heap.size 3 1 (.slice (some ⟨g4,0,none⟩) (L.length+1) cap4) (AL f (k+1)).length (q8 (AL f (k+1)))/\Below W2.heap.size W2 w4/\∀j,(Value.slice (some ⟨g4,0,none⟩) (L.length+1) cap4).ownBlock=some j->W2.heap.size<=j):=ab ⟨by
     rw[uh cK,length_append,length_singleton];show w4.ownsRow _ _ _ _ _ (List.map _ (L++[k]));rw[map_append];exact gM,by
     have hb:=(uh CY).1.alloc (uh CY).1.size (.cells #[.int .i64 (k:Int)] 3);exact hb.grown dM hb.size (λq hq=>(uh CY).2 q hq),λj hj=>by
     have e:j=g4:=(by simpa[Value.ownBlock,eq_comm] using hj);subst e;rcases iJ with q|q
     .exact(uh CY).2 j q.symm
     .omega⟩
    clear gM dM iJ HR CY;go_wp2_with fail
    go_roundg (G-1)
    case rel=>exact⟨k+1,by omega,by go_num,HN⟩
    case measure=>omega
  .have hd:decide ((k:Int)<(f.ow.length:Int))=false:=(by simp;omega);have gB:AL f k=eY f:=(by unfold AL eY;rw[show k=f.ow.length by omega]);rw[gB]at hI ⊢;clear gB hF lI;go_wp2_with fail
   go_ret;exact⟨_,rfl,(uh hI).1,(uh cg).trans ((uh hI).2.1.mono (uh cg).size)⟩
end
section
variable {w:World} {A:Nat} {f:CF} {av ov:Value}
theorem Kz(h:dF w A f av ov)(hO:am f)(ha:f.ap.length<=40000):Calls prog 233 #[.pointer (some ⟨A,0,none⟩)] w λe w'=>∃A',e=.returned (.pointer (some ⟨A',0,none⟩))/\I9 w (Vg f) A' w':=by
 have gl:=hO.owLen;have C6:=ab (mj h hO);have H:=ab h;have HO:=ab hO;clear h hO;go_enter func233,ntmps233;go_wp2_with fail
 refine(uh C6).mono ?_;rintro e w1 ⟨rfl,a7⟩;obtain⟨M,hM,dJ,rZ,bP,t0,Ay,bS⟩:=OK w1 f;rw[<-hM];have sy:=ab rZ;have dc:=ab bP;have DD:=ab t0;obtain⟨X,fS⟩:∃X,X=w1.heap.size:=⟨_,rfl⟩;obtain⟨W2,ey⟩:∃W2,W2=(w1.alloc (.cells (cS (replicate 24 false)).toArray 240)).setCells w1.heap.size 0 M:=⟨_,rfl⟩;rw[<-ey]at Ay bS;rw[<-fS]at Ay;have aL:=a7.trans (bS.mono a7.size);have RE:=ab Ay;have cg:=ab aL;have nA:=(uh H).below aL;have jI:=ab (cE nA (uh HO).c5 ha (zq3 gl (by omega)));have rt:=ab nA;clear rZ bP t0 Ay bS a7 aL hM C6 nA;simp only[cS,replicate,map_cons,map_nil]at ey;go_upto_region 2 with(refine wpList_store_mid rfl 240 (.tmp 3) (.tmp 8) rfl _ 0 M.toArray rfl rfl (uh sy) (uh dc) (uh DD) ?_);rw[<-ey,<-fS];clear ey fS sy dc DD dJ;go_wp2_with fail
 refine(uh jI).mono ?_;rintro e w3 ⟨A3,rfl,Ax⟩;obtain⟨av3,ov3,lV⟩:=Ax.frf
 -- its owners are dropped
 have bQ:=ah w3 (.cells #[] 182);have lj:=ownsRow_lit (base:=w3.heap.size) (e:=182) (size:=3) w3 #[] 0 (zq4 _) (by simp[maxLen]) rfl;have vG:ar ov3.ownBlock.toList w3 (Value.slice (some ⟨w3.heap.size,0,none⟩) 0 0).ownBlock.toList (w3.alloc (.cells #[] 182)):=(ar.ofBw (F:=ov3.ownBlock.toList) bQ).foots (λj hj=>zq1 (lj.lt j (by simpa using hj)).1);obtain⟨qN,er⟩:=lV.fm.newOv (ow':=[]) vG (v':=.slice (some ⟨w3.heap.size,0,none⟩) 0 0) (λj hj=>by simpa using hj) (dA lj (zq5 _));obtain⟨W4,vY⟩:∃W4,W4=(w3.alloc (.cells #[] 182)).setCell ⟨A3,6,none⟩ (.slice (some ⟨w3.heap.size,0,none⟩) 0 0):=⟨_,rfl⟩;rw[<-vY]at qN er;have yR:=lV.step (x':=⟨A3,{ f with ow:=[] },av3,.slice (some ⟨w3.heap.size,0,none⟩) 0 0⟩) qN er;have e6:=(lV.fm.below bQ).is.c6;have z6:=ownsRow.frozenAt (lV.fm.below bQ).is.ob 6;obtain⟨sv,hsv⟩:∃sv,sv=Value.slice (some ⟨w3.heap.size,0,none⟩) 0 0:=⟨_,rfl⟩;rw[<-hsv]at yR;have bX:Hid (Lb W2 W4 ⟨A3,{ f with ow:=(f.ow.take 0).filter (λp=>decide (p.l∈oJ f)) },av3,sv⟩):=ab yR;have c6:=((uh rt).below yR.bw).c6;obtain⟨oa,oc,d7,-,-⟩:=aj (uh rt).ow;subst d7;clear Ax lV bQ lj vG qN er yR hsv jI;go_upto_region 4 with fail;rw[<-vY];clear vY e6 z6;go_wp2_with fail
 go_loopg [20] f.ow.length (λgn iv wx=>∃(m:Nat) (ow5:Value),m+gn=f.ow.length/\iv=.int .i64 m/\Hid (Lb W2 wx ⟨A3,{ f with ow:=(f.ow.take m).filter (λp=>decide (p.l∈oJ f)) },av3,ow5⟩))
 case atStart=>exact⟨0,sv,by omega,rfl,bX⟩
 case round =>
  clear bX c6;obtain⟨m,ow5,hmn,rfl,hI⟩:=hrel;obtain⟨G,hG⟩:∃G,G=gk:=⟨_,rfl⟩;have hF:=(uh rt).below (uh hI).bw;have jE:((f.ow.take m).filter (λp=>decide (p.l∈oJ f))).length<=24:=zq3 (length_filter_le _ _) (by rw[length_take];omega);by_cases aq:m<f.ow.length
  .have hd:decide ((m:Int)<(f.ow.length:Int))=true:=(by simp;omega);obtain⟨go,gc,kK,-,-⟩:=az hF.ow aq;simp only[Value.slice.injEq,true_and]at kK;obtain⟨rfl,rfl⟩:=kK;obtain⟨y0,y1,y2⟩:=ax hF.ow aq;have eE:=((uh HO).ow _ (aZ aq)).1;have aE:=xi (P:=λp=>decide (p.l∈oJ f)) aq;obtain⟨p,hp⟩:∃p,p=f.ow.getD m au:=⟨_,rfl⟩;rw[<-hp]at y0 y1 y2 eE aE;obtain⟨W5,k7⟩:∃W5,W5=wr.alloc (.cells #[Value.int .i64 p.k,.int .i64 p.l,.int .i64 p.r] 182):=⟨_,rfl⟩;have bQ:Below wr.heap.size wr W5:=(by rw[k7];exact ah wr _);have iI:Bk W5 wr.heap.size 182 [Value.int .i64 p.k,.int .i64 p.l,.int .i64 p.r]:=(by rw[k7];exact Bk.new wr _ _);obtain⟨Y,nB⟩:∃Y,Y=wr.heap.size:=⟨_,rfl⟩;rw[<-nB]at iI;have b0:=iI.cell 0 rfl;have b1:=iI.cell 1 rfl;have b2:=iI.cell 2 rfl;have qO:=(uh hI).below bQ;have lI:=(uh RE).of_eq (w':=W5) (qO.bw.block X (ownsRow.lt (uh RE) X rfl).2);have d1:=(ownsRow.cellAt lI p.l (by omega)).trans (eH (by rw[zK];exact eE));rw[zJ f eE]at d1;have i1:(0:Int)<=(m:Int):=(by omega);have i2:(m:Int)<(f.ow.length:Int):=(by omega);have i3:(p.l:Int)<24:=(by omega);have H5:=ab qO;by_cases hm:p.l∈oJ f
   .rw[show decide (p.l∈oJ f)=true by simpa using hm]at d1 aE;have wH:=ab (pH qO.fm p.k p.l p.r (zq3 jE (by omega)));have cK:=ab aE;clear hF hp aE bQ iI qO lI hm hI jE;go_upto_region 7 with fail;rw[<-k7,<-nB];clear k7 nB;go_wp2_with fail
    refine(uh wH).mono ?_;rintro e w6 ⟨rfl,ov6,S8,BG⟩;have HN:Hid (Lb W2 w6 ⟨A3,{ f with ow:=(f.ow.take (m+1)).filter (λp=>decide (p.l∈oJ f)) },av3,ov6⟩):=ab ((uh H5).step (by rw[uh cK];exact S8) BG);clear S8 BG wH H5;go_wp2_with fail
    go_roundg (G-1)
    case rel=>exact⟨m+1,ov6,by omega,by go_num,HN⟩
    case measure=>omega
   .rw[show decide (p.l∈oJ f)=false by simpa using hm]at d1 aE;have HN:Hid (Lb W2 W5 ⟨A3,{ f with ow:=(f.ow.take (m+1)).filter (λp=>decide (p.l∈oJ f)) },av3,ow5⟩):=ab (by rw[aE];simpa using qO);clear hF hp aE bQ iI qO lI hm hI jE H5;go_upto_region 7 with fail;rw[<-k7,<-nB];clear k7 nB;go_wp2_with fail
    go_roundg (G-1)
    case rel=>exact⟨m+1,ow5,by omega,by go_num,HN⟩
    case measure=>omega
  .have hd:decide ((m:Int)<(f.ow.length:Int))=false:=(by simp;omega);have Ow:f.ow.take m=f.ow:=take_of_length_le (by omega);rw[Ow]at hI jE;have hOg:am { f with ow:=f.ow.filter (λp=>decide (p.l∈oJ f)) }:=am.mk' (uh HO).c5 (uh HO).cl' (λp hp=>(uh HO).ow p (mem_filter.1 hp).1) (uh HO).ap ((uh HO).lf.sublist (filter_sublist.map _)) (uh HO).kd;have FK:=ab (kh (uh hI).fm hOg (zq3 ha (by omega)));clear Ow hOg hF jE;go_wp2_with fail
   refine(uh FK).mono ?_;rintro e w7 ⟨rfl,av7,ov7,S9,Dh⟩;have ud:=(uh hI).step (x':=⟨A3,Vg f,av7,ov7⟩) S9 Dh;have HN:Hid (I9 w (Vg f) A3 w7):=ab ⟨av7,ov7,ud.fm,λk hk=>zq3 (uh cg).size (ud.ge k hk),(uh cg).trans (ud.bw.mono (uh cg).size)⟩;clear S9 Dh ud FK;go_wp2_with fail
   go_ret;exact⟨A3,rfl,uh HN⟩
end
section
variable {w:World} {A:Nat} {f:CF} {av ov:Value} {B:Nat} {v:Value} {L:List FE}
theorem J8(h:dF w A f av ov)(hf:Td f)(hL:Fl w B v L)(hT:∀x∈L,Td x.f):Calls prog 256 #[v,.pointer (some ⟨A,0,none⟩)] w λe w'=>e=.returned (.bool (neB (L.map (·.f)) f))/\Below w.heap.size w w':=by
 obtain⟨R,hR⟩:∃R,R=neB (L.map (·.f)) f:=⟨_,rfl⟩;rw[<-hR];have HR:=ab hR;obtain⟨la,lc,dX,vD,sP⟩:=aj hL.row;subst dX;have H:=ab h;have HL:=ab hL;have HTf:=ab hf;have HT:=ab hT;have bX:Hid (Below w.heap.size w w/\∀i,i<0->∀x,L[i]?=some x->UK f x.f=false):=ab ⟨Below.refl _ _,λi hi=>by omega⟩;clear h hf hL hT hR;go_enter func256,ntmps256;go_wp2_with fail
 go_loopg [9] L.length (λgn iv wx=>∃(k:Nat),k+gn=L.length/\iv=.int .i64 k/\Hid (Below w.heap.size w wx/\∀i,i<k->∀x,L[i]?=some x->UK f x.f=false))
 case atStart=>exact⟨0,by omega,rfl,bX⟩
 case round =>
  clear bX;obtain⟨k,eV,rfl,hI⟩:=hrel;obtain⟨G,hG⟩:∃G,G=gk:=⟨_,rfl⟩;by_cases aq:k<L.length
  .have hd:decide ((k:Int)<(L.length:Int))=true:=(by simp;omega);have QX:=(uh HL).below (uh hI).1;obtain⟨g2,cap2,cZ,aw⟩:=QX.pend.cell aq;simp only[Value.slice.injEq,true_and]at cZ;obtain⟨rfl,rfl⟩:=cZ;have hx:=QX.fm _ (getElem_mem aq);have htx:=uh HT _ (getElem_mem aq);have hg:L[k]?=some L[k]:=getElem?_eq_getElem aq;obtain⟨x,AH⟩:∃x,x=L[k]:=⟨_,rfl⟩;rw[<-AH]at aw hx htx hg;have y9:x.p=.pointer (some ⟨x.A,0,none⟩):=rfl;rw[y9]at aw;have FI:=ab (P0 ((uh H).below (uh hI).1) hx.is (zq3 (uh HTf).ln (by omega)) (zq3 (uh HTf).ok.owLen (by omega)) (zq3 htx.ln (by omega)) (zq3 htx.ok.owLen (by omega)));have HG:=ab hg;have i1:(0:Int)<=(k:Int):=(by omega);have i2:(k:Int)<(L.length:Int):=(by omega);clear QX hx htx hg AH y9;go_wp2_with fail
   refine(uh FI).mono ?_;rintro e w3 ⟨rfl,cB⟩;have oL:=ab ((uh hI).1.trans (cB.mono (uh hI).1.size));clear cB FI;cases EF:UK f x.f
   .go_wp2_with fail
    go_roundg (G-1)
    case rel=>exact⟨k+1,by omega,by go_num,ab ⟨uh oL,λi hi y hy=>by
     by_cases e:i=k
     .rw[e,uh HG]at hy;injection hy with hy;rw[<-hy];exact EF
     .exact(uh hI).2 i (by omega) y hy⟩⟩
    case measure=>omega
   .have HE:Hid (R=false):=ab (by
     rw[uh HR];unfold neB;have:(L.map (·.f)).any (λg=>UK f g)=true:=by
      rw[any_eq_true];exact⟨x.f,mem_map_of_mem (mem_of_getElem? (uh HG)),EF⟩
     rw[this];rfl)
    clear EF;go_wp2_with fail
    go_ret;exact⟨aB (uh HE).symm,uh oL⟩
  .have hd:decide ((k:Int)<(L.length:Int))=false:=(by simp;omega);have HE:Hid (R=true):=ab (by
    rw[uh HR];unfold neB;have:(L.map (·.f)).any (λg=>UK f g)=false:=by
     rw[any_eq_false];intro g hg;obtain⟨x,hx,rfl⟩:=mem_map.1 hg;obtain⟨i,hi,rfl⟩:=mem_iff_getElem.1 hx;rw[(uh hI).2 i (by omega) _ (getElem?_eq_getElem hi)];simp
    rw[this];rfl)
   go_wp2_with fail
   go_ret;exact⟨aB (uh HE).symm,(uh hI).1⟩
end
def oW(c0 hv:Value)(lp:Bool)(kv wv:Value)(bd:Bool)(lf lo:Int)(fu:Bool):List Value:=[c0,hv,.bool lp,kv,wv,.bool bd,.int .i64 lf,.int .i64 lo,.bool fu]
section
variable {w:World} {S:Nat} {c0 hv kv wv:Value} {lp bd fu:Bool} {lf lo:Int}
theorem yc(h:Bk w S 229 (oW c0 hv lp kv wv bd lf lo fu)):Calls prog 232 #[.pointer (some ⟨S,0,none⟩)] w λe w'=>e=.returned (.tuple #[])/\Bk w' S 229 (oW c0 hv lp kv wv bd (wrap64 (lf-1)) lo (fu||(decide (wrap64 (lf-1)<0)&&bd)))/\ar [S] w [S] w':=by
 have c6:=h.cell 6 rfl;have z6:=h.frz 6;have hq:IntKind.i64.wrap (lf-1)=wrap64 (lf-1):=by rw[IntKind.wrap_i64,wrap64]
 obtain⟨l',Tv⟩:∃l',l'=wrap64 (lf-1):=⟨_,rfl⟩;rw[<-Tv]at hq ⊢;have h2:=h.set 6 (.int .i64 l');have d6:=h2.cell 6 rfl;have d5:=h2.cell 5 rfl;have d8:=h2.cell 8 rfl;have z8:=h2.frz 8;have fR:ar [S] w [S] (w.setCell ⟨S,6,none⟩ (.int .i64 l')):=(ar.refl _ _).setCell (p:=⟨S,6,none⟩) (zq0 (by simp)) _;have eW:ar [S] w [S] ((w.setCell ⟨S,6,none⟩ (.int .i64 l')).setCell ⟨S,8,none⟩ (.bool true)):=fR.setCell (p:=⟨S,8,none⟩) (zq0 (by simp)) _;have H2:=ab h2;have H3:=ab (h2.set 8 (.bool true));have cH:=ab fR;have fV:=ab eW;clear h h2 fR eW Tv;by_cases hn:l'<0
 .have d0:decide (l'<(0:Int))=true:=by simpa using hn
  cases bd
  .have HE:Hid ((fu||(decide (l'<0)&&false))=fu):=ab (by simp);clear hn;go_enter func232,ntmps232;go_wp2_with fail
   go_end0
   exact⟨rfl,by rw[uh HE];exact uh H2,uh cH⟩
  .have HE:Hid ((fu||(decide (l'<0)&&true))=true):=ab (by simp[hn]);clear hn;go_enter func232,ntmps232;go_wp2_with fail
   go_end0
   exact⟨rfl,by rw[uh HE];exact uh H3,uh fV⟩
 .have d0:decide (l'<(0:Int))=false:=by simpa using hn
  have HE:Hid ((fu||(decide (l'<0)&&bd))=fu):=ab (by rw[d0];simp);clear hn;go_enter func232,ntmps232;go_wp2_with fail
  go_end0
  exact⟨rfl,by rw[uh HE];exact uh H2,uh cH⟩
theorem OS(h:Bk w S 229 (oW c0 hv lp kv wv bd lf lo fu))(n:Nat):Calls prog 230 #[.pointer (some ⟨S,0,none⟩),.int .i64 n] w λe w'=>e=.returned (.tuple #[])/\Bk w' S 229 (oW c0 hv lp kv wv bd lf (wrap64 (lo-n)) (fu||(decide (wrap64 (lo-n)<0)&&bd)))/\ar [S] w [S] w':=by
 have c6:=h.cell 7 rfl;have z6:=h.frz 7;have hq:IntKind.i64.wrap (lo-(n:Int))=wrap64 (lo-n):=by rw[IntKind.wrap_i64,wrap64]
 obtain⟨l',Tv⟩:∃l',l'=wrap64 (lo-n):=⟨_,rfl⟩;rw[<-Tv]at hq ⊢;have h2:=h.set 7 (.int .i64 l');have d6:=h2.cell 7 rfl;have d5:=h2.cell 5 rfl;have d8:=h2.cell 8 rfl;have z8:=h2.frz 8;have fR:ar [S] w [S] (w.setCell ⟨S,7,none⟩ (.int .i64 l')):=(ar.refl _ _).setCell (p:=⟨S,7,none⟩) (zq0 (by simp)) _;have eW:ar [S] w [S] ((w.setCell ⟨S,7,none⟩ (.int .i64 l')).setCell ⟨S,8,none⟩ (.bool true)):=fR.setCell (p:=⟨S,8,none⟩) (zq0 (by simp)) _;have H2:=ab h2;have H3:=ab (h2.set 8 (.bool true));have cH:=ab fR;have fV:=ab eW;clear h h2 fR eW Tv;by_cases hn:l'<0
 .have d0:decide (l'<(0:Int))=true:=by simpa using hn
  cases bd
  .have HE:Hid ((fu||(decide (l'<0)&&false))=fu):=ab (by simp);clear hn;go_enter func230,ntmps230;go_wp2_with fail
   go_end0
   exact⟨rfl,by rw[uh HE];exact uh H2,uh cH⟩
  .have HE:Hid ((fu||(decide (l'<0)&&true))=true):=ab (by simp[hn]);clear hn;go_enter func230,ntmps230;go_wp2_with fail
   go_end0
   exact⟨rfl,by rw[uh HE];exact uh H3,uh fV⟩
 .have d0:decide (l'<(0:Int))=false:=by simpa using hn
  have HE:Hid ((fu||(decide (l'<0)&&bd))=fu):=ab (by rw[d0];simp);clear hn;go_enter func230,ntmps230;go_wp2_with fail
  go_end0
  exact⟨rfl,by rw[uh HE];exact uh H2,uh cH⟩
end
theorem lT{c:Cd}{r:List CF × Sr}{g:CF}(h:(ny c r g).2.ok=true):r.2.ok=true/\(neB r.1 (bz g)=true->r.1.length<=gh):=by
 unfold ny at h;split at h
 .have h1:(r.2.ok&&decide (r.1.length<=gh))=true:=h;rw[Bool.and_eq_true,decide_eq_true_eq]at h1;exact⟨h1.1,λ_=>h1.2⟩
 .rename_i hn;exact⟨h,λe=>absurd e hn⟩
theorem eS{β:Type}(g:List CF × Sr->β->List CF × Sr)(hg:∀r b,(g r b).2.ok=true->r.2.ok=true):∀(l:List β) {r:List CF × Sr},(l.foldl g r).2.ok=true->r.2.ok=true
 |[],_,h=>h
 |b::l,r,h=>hg r b (eS g hg l h)
theorem tW{c:Cd}{f:CF}{i:Nat}(r:List CF × Sr)(a:Nat)(h:(pm c f i r a).2.ok=true):r.2.ok=true:=by
 unfold pm at h;split at h
 .exact eS (ny c) (λr b h=>(lT h).1) _ h
 .exact h
structure Fn(w W:World)(B:Nat)(F0:List Nat)(S:Nat)(cs:List Value)(X:Nat)(f:CF)(v:Value)(L:List FE):Prop where
 fl:Fl W B v L
 bs:Bk W S 229 cs
 xb:Ob W 240 24 X (cS (Du f))
 ns:∀k∈a9 v L,k≠S/\k≠X
 sx:S≠X
 st:ar F0 w (S::a9 v L) W
 s0:S∈F0
 bb:B<=W.heap.size
section
variable {w W W':World} {B S X:Nat} {F0:List Nat} {cs cs':List Value} {f:CF} {v:Value} {L:List FE}
theorem Fn.xl(h:Fn w W B F0 S cs X f v L):X<W.heap.size:=(ownsRow.lt h.xb X rfl).2
theorem Fn.below(h:Fn w W B F0 S cs X f v L)(hb:Below W.heap.size W W'):Fn w W' B F0 S cs X f v L :=
 ⟨h.fl.below hb,h.bs.below hb,h.xb.of_eq (hb.block X h.xl),h.ns,h.sx,⟨hb.os.trans h.st.os,hb.tape.trans h.st.tape,hb.output.trans h.st.output,zq3 h.st.size hb.size,λk hk hn=>(hb.block k (zq6 hk h.st.size)).trans (h.st.block k hk hn),h.st.foot⟩,h.s0,zq3 h.bb hb.size⟩
theorem Fn.spend(h:Fn w W B F0 S cs X f v L)(hb:Bk W' S 229 cs')(hs:ar [S] W [S] W'):Fn w W' B F0 S cs' X f v L:=by
 refine⟨h.fl.stp hs (λk hk hn=>(h.ns k hk).1 (by simpa using hn)),hb,h.xb.of_eq (hs.block X h.xl (by simpa using λe=>h.sx e.symm)),h.ns,h.sx,⟨hs.os.trans h.st.os,hs.tape.trans h.st.tape,hs.output.trans h.st.output,zq3 h.st.size hs.size,λk hk hn=>(hs.block k (zq6 hk h.st.size) (λe=>hn (by rw[mem_singleton]at e;rw[e];exact h.s0))).trans (h.st.block k hk hn),h.st.foot⟩,h.s0,zq3 h.bb hs.size⟩
theorem Fn.side{F F':List Nat}(h:Fn w W B F0 S cs X f v L)(hs:ar F W F' W')(hd:∀k∈F,k ∉ a9 v L/\k≠S/\k≠X/\w.heap.size<=k):Fn w W' B F0 S cs X f v L :=
 ⟨h.fl.stp hs (λk hk hn=>(hd k hn).1 hk),h.bs.stp hs (λhn=>(hd S hn).2.1 rfl),h.xb.of_eq (hs.block X h.xl (λhn=>(hd X hn).2.2.1 rfl)),h.ns,h.sx,⟨hs.os.trans h.st.os,hs.tape.trans h.st.tape,hs.output.trans h.st.output,zq3 h.st.size hs.size,λk hk hn=>(hs.block k (zq6 hk h.st.size) (λe=>by have:=(hd k e).2.2.2;omega)).trans (h.st.block k hk hn),h.st.foot⟩,h.s0,zq3 h.bb hs.size⟩
theorem Fn.app {g1 c1:Nat} {o:Obj} {x:FE} {W1:World} (h:Fn w W B F0 S cs X f v L) (hx:Fm W x.A x.f x.av x.ov) (hd:∀k∈x.bs,k ∉ a9 v L/\k≠S/\k≠X/\w.heap.size<=k/\B<=k)
  (aN:W1.ownsRow B 126 1 (.slice (some ⟨g1,0,none⟩) (L.length+1) c1) (L.length+1) (L.map FE.p++[x.p])) (hg:(W.alloc o).grownBy W1 v.ownBlock) (cd:some g1=v.ownBlock\/g1=(W.alloc o).heap.size) :
  Fn w W1 B F0 S cs X f (.slice (some ⟨g1,0,none⟩) (L.length+1) c1) (L++[x]):=by
 obtain⟨a1,a2,a3⟩:=h.fl.app hx (λk hk=>(hd k hk).2.2.2.2) (λk hk=>(hd k hk).1) h.bb aN hg cd;have hv:∀k∈v.ownBlock.toList,k∈a9 v L:=λk hk=>mem_append_left _ hk;refine⟨a1,h.bs.stp a2 (λhn=>(h.ns S (hv S hn)).1 rfl),h.xb.of_eq (a2.block X h.xl (λhn=>(h.ns X (hv X hn)).2 rfl)),λk hk=>?_,h.sx,?_,h.s0,zq3 h.bb a2.size⟩
 .rcases a3 k hk with q|q|q
  .exact h.ns k q
  .exact⟨(hd k q).2.1,(hd k q).2.2.1⟩
  .exact⟨λe=>by have:=h.bs.lt;omega,λe=>by have:=h.xl;omega⟩
 .have h2:=h.st;refine⟨a2.os.trans h2.os,a2.tape.trans h2.tape,a2.output.trans h2.output,zq3 h2.size a2.size,λk hk hn=>?_,λk hk=>?_⟩
  .rw[a2.block k (zq6 hk h2.size) (λhm=>?_)]
   .exact h2.block k hk hn
   .rcases h2.foot k (mem_cons_of_mem _ (hv k hm)) with q|q
    .exact hn q
    .omega
  .rcases mem_cons.1 hk with rfl|hk
   .exact h2.foot k (by simp)
   .rcases a3 k hk with q|q|q
    .exact h2.foot k (mem_cons_of_mem _ q)
    .exact zq1 (hd k q).2.2.2.1
    .exact zq1 (zq3 h2.size q)
end
