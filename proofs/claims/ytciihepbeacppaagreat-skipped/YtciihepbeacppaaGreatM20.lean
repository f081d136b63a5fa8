import Derived.Test.YtciihepbeacppaaGreatGR
set_option maxRecDepth 100000
set_option maxHeartbeats 0
namespace Go.Proofs.YtciihepbeacppaaGreat
open Tryz Go.RowKit List World Below
set_option linter.unusedVariables false
theorem BG{al:List cj}(ht:vq al){a:cj}(ha:a∈al):(jq (nA al) a).l<24/\(jq (nA al) a).r<24:=by
 have h1:=Bv ht (ht a ha).1;have h2:=Bv ht (ht a ha).2;have e1:(jq (nA al) a).l=(nA al).getD (tm a).l 0:=rfl;have e2:(jq (nA al) a).r=(nA al).getD (tm a).r 0:=rfl;omega
theorem aeD{al:List cj}(ht:vq al):Rm (bX al):=by
 intro p hp;obtain⟨a,ha,rfl⟩:=mem_map.1 hp;exact BG ht (mem_filter.1 ha).1
def JO(A A':Nat):Array Value:=(#[Value.pointer (some ⟨A,0,none⟩),Value.pointer (some ⟨A',0,none⟩)].toList++(replicate 48 (Value.int .i64 0)++[Value.pointer none,Value.slice none 0 0,Value.int .i64 0,Value.slice none 0 0,Value.int .i64 128])).toArray
theorem DN(w:World)(A A':Nat):Sn (w.alloc (.cells (JO A A') 202)) w.heap.size A A' 128 (replicate 24 (.int .i64 0)) (replicate 24 (.int .i64 0)++[.pointer none,.slice none 0 0,.int .i64 0,.slice none 0 0,.int .i64 128]) :=
 ⟨ownsRow_lit (base:=0) (e:=202) (size:=55) w (JO A A') 1 (zq5 _) (by simp[maxLen]) rfl,by simp,_,_,_,_,_,rfl,by simp⟩
section
variable {w:World} {D A D' A':Nat} {s t:CF} {av ov av' ov':Value}
theorem xI(h:rC w D A s av ov)(h':rC w D' A' t av' ov')(hT:Td s)(ZW:Td t):Calls prog 231 #[.pointer (some ⟨D,0,none⟩),.pointer (some ⟨D',0,none⟩)] w λe w'=>e=.returned (.bool (Ei s t))/\Below w.heap.size w w':=by
 have HHR:Hid (∀m:Nat,Calls prog 252 #[.pointer (some ⟨D,0,none⟩),.pointer (some ⟨D',0,none⟩)] (w.drewN m) λe w'=>e=.returned (.bool (roB s t))/\∃j,w'=w.drewN j):=ab (λm=>(C9 (w:=w.drewN m) (h.of_eq (λ_ _=>rfl)) (h'.of_eq (λ_ _=>rfl)) hT.ok ZW.ok).mono (λe w' hw=>⟨hw.1,by obtain⟨n,rfl⟩:=hw.2;exact⟨_,drewN_drewN _ _ _⟩⟩));have J7:Hid (∀m:Nat,Calls prog 253 #[.pointer (some ⟨D,0,none⟩),.pointer (some ⟨D',0,none⟩)] (w.drewN m) λe w'=>e=.returned (.bool (SO s t))/\∃j,w'=w.drewN j):=ab (λm=>(yz (w:=w.drewN m) (h.of_eq (λ_ _=>rfl)) (h'.of_eq (λ_ _=>rfl))).mono (λe w' hw=>⟨hw.1,by obtain⟨n,rfl⟩:=hw.2;exact⟨_,drewN_drewN _ _ _⟩⟩));have IN:Ei s t=(roB s t&&SO s t&&(match As s t [0,1,2,3,4] (replicate 24 none) with|none=>false|some an=>(Me s t an 128).1)):=rfl;obtain⟨R,hR⟩:∃R,R=Ei s t:=⟨_,rfl⟩;rw[<-hR];rw[<-hR]at IN;have HW:=ab IN;have H:=ab h;have H':=ab h';have HT:=ab hT;have HT':=ab ZW;have f1:=h.fo;have f2:=h'.fo;clear h h' hT ZW IN hR;go_enter func231,ntmps231;go_wp2_with fail
 refine(uh HHR 0).mono ?_;rintro e w1 ⟨rfl,n1,rfl⟩;cases Dt:roB s t
 .have HE:Hid (R=false):=ab (by rw[uh HW,Dt];rfl);clear Dt;go_wp2_with fail
  go_ret;exact⟨aC (uh HE).symm,dK _ _⟩
 .go_wp2_with fail
  refine(uh J7 n1).mono ?_;rintro e w2 ⟨rfl,n2,rfl⟩;cases hlk:SO s t
  .have HE:Hid (R=false):=ab (by rw[uh HW,Dt,hlk];rfl);clear Dt hlk;go_wp2_with fail
   go_ret;exact⟨aC (uh HE).symm,dK _ _⟩
  .have HE:Hid (R=(match As s t [0,1,2,3,4] (replicate 24 none) with|none=>false|some an=>(Me s t an 128).1)):=ab (by rw[uh HW,Dt,hlk];rfl);clear Dt hlk;go_wp2_with fail
   go_region
   obtain⟨W,hW⟩:∃W,W=w.drewN (n2+1):=⟨_,rfl⟩;rw[<-hW];have hbW:Below w.heap.size w W:=(by rw[hW];exact dK w _);have mP:W.heap.size=w.heap.size:=(by rw[hW];rfl);have h1:=(uh H).below hbW;have h1':=(uh H').below hbW;have HNf:Hid (∀k∈aG A av ov,k≠W.heap.size):=ab (λk hk=>by have:=h1.ff.lt k hk;omega);have HNt:Hid (∀k∈aG A' av' ov',k≠W.heap.size):=ab (λk hk=>by have:=h1'.ff.lt k hk;omega);have HDn:Hid (D≠W.heap.size):=ab (by have:=h1.bk.lt;omega);have S1:=ab hbW;have HI:=ab h1;have xL:=ab h1';rw[show w.heap.size=W.heap.size from mP.symm];clear hW hbW mP h1 h1' f1 f2;go_wp2_with fail
   refine(NS (F:=s) (T:=t) (DN W A A') ((uh HI).ff.alloc _) ((uh xL).ff.alloc _) (uh HNf) (uh HNt) (λi _=>(uh HT').ok.get i)).mono ?_;rintro e w4 ⟨rfl,hsq,aP⟩;have nV:Below W.heap.size W w4:=((ar.refl [W.heap.size] W).alloc _).trans aP |>.below (zq4 _) (by simp);have zW:=ab nV;have mx:rC w4 D A s av ov:=((uh HI).below (ah W (.cells (JO A A') 202))).of_eq (λk hk=>aP.blk k (zq6 ((uh HI).lt k hk) (ah W _).size) (by
    rcases mem_cons.1 hk with rfl|hk
    .exact uh HDn
    .exact uh HNf k hk))
   have se:eQ w4 A' t av' ov':=((uh xL).ff.alloc (.cells (JO A A') 202)).of_eq (λk hk=>aP.blk k (((uh xL).ff.alloc _).lt k hk) (uh HNt k hk));have HSQ:=ab hsq;have oO:=ab mx;have WA:=ab se;clear hsq aP nV mx se HI xL;cases nY:As s t [0,1,2,3,4] (replicate 24 none) with
   |none =>
    rw[nY]at HE HSQ;have yG:Hid (R=false):=ab (uh HE);clear HSQ HE nY;go_wp2_with fail
    go_ret;exact⟨aC (uh yG).symm,(uh S1).trans ((uh zW).mono (uh S1).size)⟩
   |some an =>
    rw[nY]at HE;have yG:Hid (R=(Me s t an 128).1):=ab (uh HE);have f0:=(uh oO).fo;have c6:=(uh oO).ff.c6;have Sz:Se w4 W.heap.size A A' an s t av ov av' ov' 128:=⟨uh HSQ an nY,(uh oO).ff,uh WA,uh HNf,uh HNt⟩;have iJ:=(uh HT).ok.owLen;have arZ:=(uh HT').ok.owLen;have Em:=ab (Ou Sz (uh oO).ff.ow (λk hk=>uh HNf k (by simp[aG,hk])) (by omega) (by omega) (uh HT').ok.ow (uh HT').ok.ap);obtain⟨oa,oc,gy,-,-⟩:=am (uh oO).ff.ow;subst gy;clear Sz HSQ nY HE;go_wp2_with fail
    refine(uh Em).mono ?_;rintro e w5 ⟨rfl,v5,ov5,pv5,-,qN,-⟩;have lO:Hid (Below W.heap.size W w5):=ab ⟨qN.os.trans (uh zW).os,qN.tape.trans (uh zW).tape,qN.output.trans (uh zW).output,zq3 (uh zW).size qN.size,λk hk=>(qN.block k (zq6 hk (uh zW).size) (by simp;omega)).trans ((uh zW).block k hk)⟩;clear qN Em;go_wp2_with fail
    go_ret;exact⟨aC (by rw[uh yG];rfl),(uh S1).trans ((uh lO).mono (uh S1).size)⟩
end
theorem P3(w:World)(f:CF):∃M,M=dp (ER f)/\M.length=24/\(w.alloc (.cells (dp (replicate 24 false)).toArray 240)).there w.heap.size 0 M.toArray.size/\(prog.info? 240).map (·.size)=some M.toArray.size/\M.toArray.all (·.oneCell')=true /\
  Ob ((w.alloc (.cells (dp (replicate 24 false)).toArray 240)).setCells w.heap.size 0 M) 240 24 w.heap.size (dp (ER f))/\Below w.heap.size w ((w.alloc (.cells (dp (replicate 24 false)).toArray 240)).setCells w.heap.size 0 M):=by
 have fJ:(dp (ER f)).length=24:=by simp[dp,ER]
 have hX:=Au w;refine⟨dp (ER f),rfl,fJ,?_,?_,?_,?_,?_⟩
 .intro j hj;rw[size_toArray,fJ]at hj;obtain⟨⟨u,hu⟩,hz⟩:=hX.some (j:=j) hj;rw[Nat.zero_add];exact⟨by rw[hu];rfl,hz⟩
 .rw[size_toArray,fJ];exact infoB24
 .exact all_oneCell_toArray (by
   intro v hv;obtain⟨o,_,rfl⟩:=mem_map.1 hv;rfl)
 .have h5:=Ob.setCells (dp (ER f)) 0 hX;have yv:=nK (dp (ER f)) [] (dp (replicate 24 false)) [] (by rw[fJ];rfl);simp only[nil_append,append_nil,length_nil]at yv;rw[yv]at h5;exact h5
 .have OG:∀(vs:List Value) (o:Nat) (x:World),Below w.heap.size w x->Below w.heap.size w (x.setCells w.heap.size o vs):=by
   intro vs;induction vs with
   |nil=>intro o x h;exact h
   |cons v r ih=>intro o x h;exact ih (o+1) _ (h.setCell (zq4 _) v)
  exact OG _ 0 _ (ah w _)
theorem BI(f:CF){c:Nat}(hc:c<24):(ER f).getD c false=decide (c∈jz f):=by
 unfold ER;rw[getD_eq_getElem?_getD,getElem?_map,getElem?_range hc];rfl
theorem BJ(f:CF):(ER f).length=24:=by simp[ER]
def Cz(f:CF)(k:Nat):List Nat:=(range k).filter (λi=>!decide ((owA f i).l∈jz f))
theorem P8(f:CF)(k:Nat):Cz f (k+1)=Cz f k++(if (owA f k).l∈jz f then [] else [k]):=by
 unfold Cz;rw[range_succ,filter_append];congr 1;by_cases h:(owA f k).l∈jz f <;> simp[h]
theorem Vi(f:CF)(k:Nat):(Cz f k).length<=k:=by
 unfold Cz;exact zq3 (length_filter_le _ _) (by simp)
section
variable {w:World} {A:Nat} {f:CF} {av ov:Value}
theorem wq(h:eQ w A f av ov)(hO:aj f):Calls prog 200 #[.pointer (some ⟨A,0,none⟩)] w λe w'=>∃v,e=.returned v/\w'.ownsRow w.heap.size 3 1 v (dd f).length (su (dd f))/\Below w.heap.size w w':=by
 obtain⟨i0,lw,gY,gz,gL⟩:=info_parts infoInt;have iJ:=hO.owLen;have Er:=ab (nI h hO);have H:=ab h;have HO:=ab hO;clear h hO;go_enter func200,ntmps200;go_wp2_with fail
 refine(uh Er).mono ?_;rintro e w1 ⟨rfl,bB⟩;obtain⟨M,hM,fJ,Co,ce,C6,Cm,cL⟩:=P3 w1 f;rw[<-hM];have CD:=ab Co;have ep:=ab ce;have Sk:=ab C6;obtain⟨X,gW⟩:∃X,X=w1.heap.size:=⟨_,rfl⟩;obtain⟨W2,jw⟩:∃W2,W2=(w1.alloc (.cells (dp (replicate 24 false)).toArray 240)).setCells w1.heap.size 0 M:=⟨_,rfl⟩;rw[<-jw]at Cm cL;rw[<-gW]at Cm;have aW:=bB.trans (cL.mono bB.size);have Ti:=ab Cm;have eP:=ab aW;have HXw:Hid (w.heap.size<=X):=ab (by rw[gW];exact bB.size);clear Co ce C6 Cm cL bB aW hM Er;simp only[dp,replicate,map_cons,map_nil]at jw;go_upto_region 2 with(refine wpList_store_mid rfl 240 (.tmp 3) (.tmp 7) rfl _ 0 M.toArray rfl rfl (uh CD) (uh ep) (uh Sk) ?_);rw[<-jw,<-gW];clear jw gW CD ep Sk fJ;have ve:Hid ((W2.alloc (.cells #[] 3)).ownsRow w.heap.size 3 1 (.slice (some ⟨W2.heap.size,0,none⟩) 0 0) (Cz f 0).length (su (Cz f 0))/\Below W2.heap.size W2 (W2.alloc (.cells #[] 3))):=ab ⟨dZ (ownsRow_lit (base:=W2.heap.size) (e:=3) (size:=1) W2 #[] 0 (zq4 _) (by simp[maxLen]) rfl) (uh eP).size,ah W2 _⟩;go_wp2_with fail
 go_loopg [4,5] f.ow.length (λgn lv iv wx=>∃(k:Nat),k+gn=f.ow.length/\iv=.int .i64 k/\Hid (wx.ownsRow w.heap.size 3 1 lv (Cz f k).length (su (Cz f k))/\Below W2.heap.size W2 wx/\∀j,lv.ownBlock=some j->W2.heap.size<=j))
 case atStart=>exact⟨0,by omega,rfl,ab ⟨(uh ve).1,(uh ve).2,λj hj=>by simp only[Value.ownBlock,Option.some.injEq]at hj;omega⟩⟩
 case round =>
  clear ve;obtain⟨k,gw,rfl,hI⟩:=hrel;obtain⟨G,hG⟩:∃G,G=gk:=⟨_,rfl⟩;obtain⟨la,lc,iw,-,-⟩:=am (uh hI).1;subst iw;have hF:=((uh H).below (uh eP)).below (uh hI).2.1;have ti:=(uh Ti).of_eq (w':=wr) ((uh hI).2.1.block X (ownsRow.lt (uh Ti) X rfl).2);have c6:=hF.c6;obtain⟨oa,oc,gy,-,-⟩:=am hF.ow;subst gy;by_cases au:k<f.ow.length
  .have hd:decide ((k:Int)<(f.ow.length:Int))=true:=(by simp;omega);obtain⟨go,gc,oW,-,-⟩:=aE hF.ow au;simp only[Value.slice.injEq,true_and]at oW;obtain⟨rfl,rfl⟩:=oW;obtain⟨-,y1,-⟩:=aB hF.ow au;have k7:=((uh HO).ow _ (aY au)).1;have aP:=P8 f k;have hoe:owA f k=f.ow.getD k ay:=rfl;rw[hoe]at aP;obtain⟨p,hp⟩:∃p,p=f.ow.getD k ay:=⟨_,rfl⟩;rw[<-hp]at y1 k7 aP;have d1:=(ownsRow.cellAt ti p.l (by omega)).trans (fQ (by rw[BJ];exact k7));rw[BI f k7]at d1;have i1:(0:Int)<=(k:Int):=(by omega);have i2:(k:Int)<(f.ow.length:Int):=(by omega);have i3:(p.l:Int)<24:=(by omega);have dO:=Vi f k;by_cases hm:p.l∈jz f
   .rw[show decide (p.l∈jz f)=true by simpa using hm]at d1;rw[if_pos hm,append_nil]at aP;have HN:Hid (wr.ownsRow w.heap.size 3 1 (.slice la (Cz f k).length lc) (Cz f (k+1)).length (su (Cz f (k+1)))/\Below W2.heap.size W2 wr/\∀j,(Value.slice la (Cz f k).length lc).ownBlock=some j->W2.heap.size<=j):=ab (by rw[aP];exact uh hI);clear hF ti hp aP hoe hm hI;go_wp2_with fail
    go_roundg (G-1)
    case rel=>exact⟨k+1,by omega,by go_num,HN⟩
    case measure=>omega
   .rw[show decide (p.l∈jz f)=false by simpa using hm]at d1;rw[if_neg hm]at aP;have HR:=ab (uh hI).1;have yF:=ab (uh hI).2;have di:=ab aP;have asi:=(uh eP).size;have asd:=(uh hI).2.1.size;obtain⟨L,hL⟩:∃L,L=Cz f k:=⟨_,rfl⟩;rw[<-hL]at HR yF di dO hI ⊢;clear hF ti hp aP hoe hm hI hL;go_wp2_with (at_builtin;refine aS _ rfl (.tmp 29) (.tmp 31) 29 rfl w.heap.size 3 i0 _ 1 8 underlying29 lw gY gz gL rfl (by decide) _ L.length (su L) rfl ((uh HR).alloc _) ⟨_,0,none⟩ 1 [.int .i64 (k:Int)] rfl rfl (aN _ _ (by simp) [.int .i64 (k:Int)] _) (by intro u hu;simp only[mem_singleton]at hu;subst hu;rfl) (by omega) (by omega) (by simp;omega) ?_)
    intro g4 cap4 w4 iL ew jM;have HN:Hid (w4.ownsRow w.heap.size 3 1 (.slice (some ⟨g4,0,none⟩) (L.length+1) cap4) (Cz f (k+1)).length (su (Cz f (k+1)))/\Below W2.heap.size W2 w4/\∀j,(Value.slice (some ⟨g4,0,none⟩) (L.length+1) cap4).ownBlock=some j->W2.heap.size<=j):=ab ⟨by
     rw[uh di,length_append,length_singleton];show w4.ownsRow _ _ _ _ _ (List.map _ (L++[k]));rw[map_append];exact iL,by
     have hb:=(uh yF).1.alloc (uh yF).1.size (.cells #[.int .i64 (k:Int)] 3);exact hb.grown ew hb.size (λq hq=>(uh yF).2 q hq),λj hj=>by
     have e:j=g4:=(by simpa[Value.ownBlock,eq_comm] using hj);subst e;rcases jM with q|q
     .exact(uh yF).2 j q.symm
     .omega⟩
    clear iL ew jM HR yF;go_wp2_with fail
    go_roundg (G-1)
    case rel=>exact⟨k+1,by omega,by go_num,HN⟩
    case measure=>omega
  .have hd:decide ((k:Int)<(f.ow.length:Int))=false:=(by simp;omega);have kI:Cz f k=dd f:=(by unfold Cz dd;rw[show k=f.ow.length by omega]);rw[kI]at hI ⊢;clear kI hF ti;go_wp2_with fail
   go_ret;exact⟨_,rfl,(uh hI).1,(uh eP).trans ((uh hI).2.1.mono (uh eP).size)⟩
end
section
variable {w:World} {A:Nat} {f:CF} {av ov:Value}
theorem LX(h:eQ w A f av ov)(hO:aj f)(ha:f.ap.length<=40000):Calls prog 233 #[.pointer (some ⟨A,0,none⟩)] w λe w'=>∃A',e=.returned (.pointer (some ⟨A',0,none⟩))/\Kb w (RX f) A' w':=by
 have iJ:=hO.owLen;have Er:=ab (nI h hO);have H:=ab h;have HO:=ab hO;clear h hO;go_enter func233,ntmps233;go_wp2_with fail
 refine(uh Er).mono ?_;rintro e w1 ⟨rfl,bB⟩;obtain⟨M,hM,fJ,Co,ce,C6,Cm,cL⟩:=P3 w1 f;rw[<-hM];have CD:=ab Co;have ep:=ab ce;have Sk:=ab C6;obtain⟨X,gW⟩:∃X,X=w1.heap.size:=⟨_,rfl⟩;obtain⟨W2,jw⟩:∃W2,W2=(w1.alloc (.cells (dp (replicate 24 false)).toArray 240)).setCells w1.heap.size 0 M:=⟨_,rfl⟩;rw[<-jw]at Cm cL;rw[<-gW]at Cm;have aW:=bB.trans (cL.mono bB.size);have Ti:=ab Cm;have eP:=ab aW;have pq:=(uh H).below aW;have kZ:=ab (cQ pq (uh HO).c5 ha (zq3 iJ (by omega)));have ya:=ab pq;clear Co ce C6 Cm cL bB aW hM Er pq;simp only[dp,replicate,map_cons,map_nil]at jw;go_upto_region 2 with(refine wpList_store_mid rfl 240 (.tmp 3) (.tmp 8) rfl _ 0 M.toArray rfl rfl (uh CD) (uh ep) (uh Sk) ?_);rw[<-jw,<-gW];clear jw gW CD ep Sk fJ;go_wp2_with fail
 refine(uh kZ).mono ?_;rintro e w3 ⟨A3,rfl,Cl⟩;obtain⟨av3,ov3,m7⟩:=Cl.frf
 -- its owners are dropped
 have cf:=ah w3 (.cells #[] 182);have PJ:=ownsRow_lit (base:=w3.heap.size) (e:=182) (size:=3) w3 #[] 0 (zq4 _) (by simp[maxLen]) rfl;have tQ:ar ov3.ownBlock.toList w3 (Value.slice (some ⟨w3.heap.size,0,none⟩) 0 0).ownBlock.toList (w3.alloc (.cells #[] 182)):=(ar.ofBw (F:=ov3.ownBlock.toList) cf).foots (λj hj=>zq1 (PJ.lt j (by simpa using hj)).1);obtain⟨se,fE⟩:=m7.fm.newOv (ow':=[]) tQ (v':=.slice (some ⟨w3.heap.size,0,none⟩) 0 0) (λj hj=>by simpa using hj) (dZ PJ (zq5 _));obtain⟨W4,yj⟩:∃W4,W4=(w3.alloc (.cells #[] 182)).setCell ⟨A3,6,none⟩ (.slice (some ⟨w3.heap.size,0,none⟩) 0 0):=⟨_,rfl⟩;rw[<-yj]at se fE;have AG:=m7.step (x':=⟨A3,{ f with ow:=[] },av3,.slice (some ⟨w3.heap.size,0,none⟩) 0 0⟩) se fE;have e6:=(m7.fm.below cf).is.c6;have z6:=ownsRow.frozenAt (m7.fm.below cf).is.ob 6;obtain⟨sv,hsv⟩:∃sv,sv=Value.slice (some ⟨w3.heap.size,0,none⟩) 0 0:=⟨_,rfl⟩;rw[<-hsv]at AG;have cG:Hid (MF W2 W4 ⟨A3,{ f with ow:=(f.ow.take 0).filter (λp=>decide (p.l∈jz f)) },av3,sv⟩):=ab AG;have c6:=((uh ya).below AG.bw).c6;obtain⟨oa,oc,gy,-,-⟩:=am (uh ya).ow;subst gy;clear Cl m7 cf PJ tQ se fE AG hsv kZ;go_upto_region 4 with fail;rw[<-yj];clear yj e6 z6;go_wp2_with fail
 go_loopg [20] f.ow.length (λgn iv wx=>∃(m:Nat) (ow5:Value),m+gn=f.ow.length/\iv=.int .i64 m/\Hid (MF W2 wx ⟨A3,{ f with ow:=(f.ow.take m).filter (λp=>decide (p.l∈jz f)) },av3,ow5⟩))
 case atStart=>exact⟨0,sv,by omega,rfl,cG⟩
 case round =>
  clear cG c6;obtain⟨m,ow5,hmn,rfl,hI⟩:=hrel;obtain⟨G,hG⟩:∃G,G=gk:=⟨_,rfl⟩;have hF:=(uh ya).below (uh hI).bw;have jx:((f.ow.take m).filter (λp=>decide (p.l∈jz f))).length<=24:=zq3 (length_filter_le _ _) (by rw[length_take];omega);by_cases au:m<f.ow.length
  .have hd:decide ((m:Int)<(f.ow.length:Int))=true:=(by simp;omega);obtain⟨go,gc,oW,-,-⟩:=aE hF.ow au;simp only[Value.slice.injEq,true_and]at oW;obtain⟨rfl,rfl⟩:=oW;obtain⟨y0,y1,y2⟩:=aB hF.ow au;have k7:=((uh HO).ow _ (aY au)).1;have aP:=za (P:=λp=>decide (p.l∈jz f)) au;obtain⟨p,hp⟩:∃p,p=f.ow.getD m ay:=⟨_,rfl⟩;rw[<-hp]at y0 y1 y2 k7 aP;obtain⟨W5,s9⟩:∃W5,W5=wr.alloc (.cells #[Value.int .i64 p.k,.int .i64 p.l,.int .i64 p.r] 182):=⟨_,rfl⟩;have cf:Below wr.heap.size wr W5:=(by rw[s9];exact ah wr _);have m0:Bk W5 wr.heap.size 182 [Value.int .i64 p.k,.int .i64 p.l,.int .i64 p.r]:=(by rw[s9];exact Bk.new wr _ _);obtain⟨Y,xP⟩:∃Y,Y=wr.heap.size:=⟨_,rfl⟩;rw[<-xP]at m0;have b0:=m0.cell 0 rfl;have b1:=m0.cell 1 rfl;have b2:=m0.cell 2 rfl;have sg:=(uh hI).below cf;have ti:=(uh Ti).of_eq (w':=W5) (sg.bw.block X (ownsRow.lt (uh Ti) X rfl).2);have d1:=(ownsRow.cellAt ti p.l (by omega)).trans (fQ (by rw[BJ];exact k7));rw[BI f k7]at d1;have i1:(0:Int)<=(m:Int):=(by omega);have i2:(m:Int)<(f.ow.length:Int):=(by omega);have i3:(p.l:Int)<24:=(by omega);have H5:=ab sg;by_cases hm:p.l∈jz f
   .rw[show decide (p.l∈jz f)=true by simpa using hm]at d1 aP;have yH:=ab (qX sg.fm p.k p.l p.r (zq3 jx (by omega)));have di:=ab aP;clear hF hp aP cf m0 sg ti hm hI jx;go_upto_region 7 with fail;rw[<-s9,<-xP];clear s9 xP;go_wp2_with fail
    refine(uh yH).mono ?_;rintro e w6 ⟨rfl,ov6,Ul,KI⟩;have HN:Hid (MF W2 w6 ⟨A3,{ f with ow:=(f.ow.take (m+1)).filter (λp=>decide (p.l∈jz f)) },av3,ov6⟩):=ab ((uh H5).step (by rw[uh di];exact Ul) KI);clear Ul KI yH H5;go_wp2_with fail
    go_roundg (G-1)
    case rel=>exact⟨m+1,ov6,by omega,by go_num,HN⟩
    case measure=>omega
   .rw[show decide (p.l∈jz f)=false by simpa using hm]at d1 aP;have HN:Hid (MF W2 W5 ⟨A3,{ f with ow:=(f.ow.take (m+1)).filter (λp=>decide (p.l∈jz f)) },av3,ow5⟩):=ab (by rw[aP];simpa using sg);clear hF hp aP cf m0 sg ti hm hI jx H5;go_upto_region 7 with fail;rw[<-s9,<-xP];clear s9 xP;go_wp2_with fail
    go_roundg (G-1)
    case rel=>exact⟨m+1,ow5,by omega,by go_num,HN⟩
    case measure=>omega
  .have hd:decide ((m:Int)<(f.ow.length:Int))=false:=(by simp;omega);have hte:f.ow.take m=f.ow:=take_of_length_le (by omega);rw[hte]at hI jx;have hOg:aj { f with ow:=f.ow.filter (λp=>decide (p.l∈jz f)) }:=aj.mk' (uh HO).c5 (uh HO).cl' (λp hp=>(uh HO).ow p (mem_filter.1 hp).1) (uh HO).ap ((uh HO).lf.sublist (filter_sublist.map _)) (uh HO).kd;have He:=ab (lL (uh hI).fm hOg (zq3 ha (by omega)));clear hte hOg hF jx;go_wp2_with fail
   refine(uh He).mono ?_;rintro e w7 ⟨rfl,av7,ov7,Um,Ez⟩;have vV:=(uh hI).step (x':=⟨A3,RX f,av7,ov7⟩) Um Ez;have HN:Hid (Kb w (RX f) A3 w7):=ab ⟨av7,ov7,vV.fm,λk hk=>zq3 (uh eP).size (vV.ge k hk),(uh eP).trans (vV.bw.mono (uh eP).size)⟩;clear Um Ez vV He;go_wp2_with fail
   go_ret;exact⟨A3,rfl,uh HN⟩
end
section
variable {w:World} {A:Nat} {f:CF} {av ov:Value} {B:Nat} {v:Value} {L:List FE}
theorem Lj(h:eQ w A f av ov)(hf:Td f)(hL:Fl w B v L)(hT:∀x∈L,Td x.f):Calls prog 256 #[v,.pointer (some ⟨A,0,none⟩)] w λe w'=>e=.returned (.bool (XY (L.map (·.f)) f))/\Below w.heap.size w w':=by
 obtain⟨R,hR⟩:∃R,R=XY (L.map (·.f)) f:=⟨_,rfl⟩;rw[<-hR];have HR:=ab hR;obtain⟨la,lc,iw,EG,yq⟩:=am hL.row;subst iw;have H:=ab h;have HL:=ab hL;have HTf:=ab hf;have HT:=ab hT;have cG:Hid (Below w.heap.size w w/\∀i,i<0->∀x,L[i]?=some x->Mz f x.f=false):=ab ⟨Below.refl _ _,λi hi=>by omega⟩;clear h hf hL hT hR;go_enter func256,ntmps256;go_wp2_with fail
 go_loopg [9] L.length (λgn iv wx=>∃(k:Nat),k+gn=L.length/\iv=.int .i64 k/\Hid (Below w.heap.size w wx/\∀i,i<k->∀x,L[i]?=some x->Mz f x.f=false))
 case atStart=>exact⟨0,by omega,rfl,cG⟩
 case round =>
  clear cG;obtain⟨k,gw,rfl,hI⟩:=hrel;obtain⟨G,hG⟩:∃G,G=gk:=⟨_,rfl⟩;by_cases au:k<L.length
  .have hd:decide ((k:Int)<(L.length:Int))=true:=(by simp;omega);have ZK:=(uh HL).below (uh hI).1;obtain⟨g2,cap2,dc,ax⟩:=ZK.pend.cell au;simp only[Value.slice.injEq,true_and]at dc;obtain⟨rfl,rfl⟩:=dc;have hx:=ZK.fm _ (getElem_mem au);have htx:=uh HT _ (getElem_mem au);have hg:L[k]?=some L[k]:=getElem?_eq_getElem au;obtain⟨x,tR⟩:∃x,x=L[k]:=⟨_,rfl⟩;rw[<-tR]at ax hx htx hg;have AQ:x.p=.pointer (some ⟨x.A,0,none⟩):=rfl;rw[AQ]at ax;have yI:=ab (Rg ((uh H).below (uh hI).1) hx.is (zq3 (uh HTf).ln (by omega)) (zq3 (uh HTf).ok.owLen (by omega)) (zq3 htx.ln (by omega)) (zq3 htx.ok.owLen (by omega)));have HG:=ab hg;have i1:(0:Int)<=(k:Int):=(by omega);have i2:(k:Int)<(L.length:Int):=(by omega);clear ZK hx htx hg tR AQ;go_wp2_with fail
   refine(uh yI).mono ?_;rintro e w3 ⟨rfl,dy⟩;have tD:=ab ((uh hI).1.trans (dy.mono (uh hI).1.size));clear dy yI;cases Gc:Mz f x.f
   .go_wp2_with fail
    go_roundg (G-1)
    case rel=>exact⟨k+1,by omega,by go_num,ab ⟨uh tD,λi hi y hy=>by
     by_cases e:i=k
     .rw[e,uh HG]at hy;injection hy with hy;rw[<-hy];exact Gc
     .exact(uh hI).2 i (by omega) y hy⟩⟩
    case measure=>omega
   .have HE:Hid (R=false):=ab (by
     rw[uh HR];unfold XY;have:(L.map (·.f)).any (λg=>Mz f g)=true:=by
      rw[any_eq_true];exact⟨x.f,mem_map_of_mem (mem_of_getElem? (uh HG)),Gc⟩
     rw[this];rfl)
    clear Gc;go_wp2_with fail
    go_ret;exact⟨aC (uh HE).symm,uh tD⟩
  .have hd:decide ((k:Int)<(L.length:Int))=false:=(by simp;omega);have HE:Hid (R=true):=ab (by
    rw[uh HR];unfold XY;have:(L.map (·.f)).any (λg=>Mz f g)=false:=by
     rw[any_eq_false];intro g hg;obtain⟨x,hx,rfl⟩:=mem_map.1 hg;obtain⟨i,hi,rfl⟩:=mem_iff_getElem.1 hx;rw[(uh hI).2 i (by omega) _ (getElem?_eq_getElem hi)];simp
    rw[this];rfl)
   go_wp2_with fail
   go_ret;exact⟨aC (uh HE).symm,(uh hI).1⟩
end
def qt(c0 hv:Value)(lp:Bool)(kv wv:Value)(bd:Bool)(lf lo:Int)(fu:Bool):List Value:=[c0,hv,.bool lp,kv,wv,.bool bd,.int .i64 lf,.int .i64 lo,.bool fu]
section
variable {w:World} {S:Nat} {c0 hv kv wv:Value} {lp bd fu:Bool} {lf lo:Int}
theorem zR(h:Bk w S 229 (qt c0 hv lp kv wv bd lf lo fu)):Calls prog 232 #[.pointer (some ⟨S,0,none⟩)] w λe w'=>e=.returned (.tuple #[])/\Bk w' S 229 (qt c0 hv lp kv wv bd (wrap64 (lf-1)) lo (fu||(decide (wrap64 (lf-1)<0)&&bd)))/\ar [S] w [S] w':=by
 have c6:=h.cell 6 rfl;have z6:=h.frz 6;have hq:IntKind.i64.wrap (lf-1)=wrap64 (lf-1):=by rw[IntKind.wrap_i64,wrap64]
 obtain⟨l',hl'⟩:∃l',l'=wrap64 (lf-1):=⟨_,rfl⟩;rw[<-hl']at hq ⊢;have h2:=h.set 6 (.int .i64 l');have d6:=h2.cell 6 rfl;have d5:=h2.cell 5 rfl;have d8:=h2.cell 8 rfl;have z8:=h2.frz 8;have gT:ar [S] w [S] (w.setCell ⟨S,6,none⟩ (.int .i64 l')):=(ar.refl _ _).setCell (p:=⟨S,6,none⟩) (zq0 (by simp)) _;have gj:ar [S] w [S] ((w.setCell ⟨S,6,none⟩ (.int .i64 l')).setCell ⟨S,8,none⟩ (.bool true)):=gT.setCell (p:=⟨S,8,none⟩) (zq0 (by simp)) _;have H2:=ab h2;have H3:=ab (h2.set 8 (.bool true));have dh:=ab gT;have iV:=ab gj;clear h h2 gT gj hl';by_cases hn:l'<0
 .have d0:decide (l'<(0:Int))=true:=by simpa using hn
  cases bd
  .have HE:Hid ((fu||(decide (l'<0)&&false))=fu):=ab (by simp);clear hn;go_enter func232,ntmps232;go_wp2_with fail
   go_end0
   exact⟨rfl,by rw[uh HE];exact uh H2,uh dh⟩
  .have HE:Hid ((fu||(decide (l'<0)&&true))=true):=ab (by simp[hn]);clear hn;go_enter func232,ntmps232;go_wp2_with fail
   go_end0
   exact⟨rfl,by rw[uh HE];exact uh H3,uh iV⟩
 .have d0:decide (l'<(0:Int))=false:=by simpa using hn
  have HE:Hid ((fu||(decide (l'<0)&&bd))=fu):=ab (by rw[d0];simp);clear hn;go_enter func232,ntmps232;go_wp2_with fail
  go_end0
  exact⟨rfl,by rw[uh HE];exact uh H2,uh dh⟩
theorem Qc(h:Bk w S 229 (qt c0 hv lp kv wv bd lf lo fu))(n:Nat):Calls prog 230 #[.pointer (some ⟨S,0,none⟩),.int .i64 n] w λe w'=>e=.returned (.tuple #[])/\Bk w' S 229 (qt c0 hv lp kv wv bd lf (wrap64 (lo-n)) (fu||(decide (wrap64 (lo-n)<0)&&bd)))/\ar [S] w [S] w':=by
 have c6:=h.cell 7 rfl;have z6:=h.frz 7;have hq:IntKind.i64.wrap (lo-(n:Int))=wrap64 (lo-n):=by rw[IntKind.wrap_i64,wrap64]
 obtain⟨l',hl'⟩:∃l',l'=wrap64 (lo-n):=⟨_,rfl⟩;rw[<-hl']at hq ⊢;have h2:=h.set 7 (.int .i64 l');have d6:=h2.cell 7 rfl;have d5:=h2.cell 5 rfl;have d8:=h2.cell 8 rfl;have z8:=h2.frz 8;have gT:ar [S] w [S] (w.setCell ⟨S,7,none⟩ (.int .i64 l')):=(ar.refl _ _).setCell (p:=⟨S,7,none⟩) (zq0 (by simp)) _;have gj:ar [S] w [S] ((w.setCell ⟨S,7,none⟩ (.int .i64 l')).setCell ⟨S,8,none⟩ (.bool true)):=gT.setCell (p:=⟨S,8,none⟩) (zq0 (by simp)) _;have H2:=ab h2;have H3:=ab (h2.set 8 (.bool true));have dh:=ab gT;have iV:=ab gj;clear h h2 gT gj hl';by_cases hn:l'<0
 .have d0:decide (l'<(0:Int))=true:=by simpa using hn
  cases bd
  .have HE:Hid ((fu||(decide (l'<0)&&false))=fu):=ab (by simp);clear hn;go_enter func230,ntmps230;go_wp2_with fail
   go_end0
   exact⟨rfl,by rw[uh HE];exact uh H2,uh dh⟩
  .have HE:Hid ((fu||(decide (l'<0)&&true))=true):=ab (by simp[hn]);clear hn;go_enter func230,ntmps230;go_wp2_with fail
   go_end0
   exact⟨rfl,by rw[uh HE];exact uh H3,uh iV⟩
 .have d0:decide (l'<(0:Int))=false:=by simpa using hn
  have HE:Hid ((fu||(decide (l'<0)&&bd))=fu):=ab (by rw[d0];simp);clear hn;go_enter func230,ntmps230;go_wp2_with fail
  go_end0
  exact⟨rfl,by rw[uh HE];exact uh H2,uh dh⟩
end
theorem mX{c:Cd}{r:List CF × Sr}{g:CF}(h:(l8 c r g).2.ok=true):r.2.ok=true/\(XY r.1 (aQ g)=true->r.1.length<=im):=by
 unfold l8 at h;split at h
 .have h1:(r.2.ok&&decide (r.1.length<=im))=true:=h;rw[Bool.and_eq_true,decide_eq_true_eq]at h1;exact⟨h1.1,λ_=>h1.2⟩
 .rename_i hn;exact⟨h,λe=>absurd e hn⟩
theorem gf{β:Type}(g:List CF × Sr->β->List CF × Sr)(hg:∀r b,(g r b).2.ok=true->r.2.ok=true):∀(l:List β) {r:List CF × Sr},(l.foldl g r).2.ok=true->r.2.ok=true
 |[],_,h=>h
 |b::l,r,h=>hg r b (gf g hg l h)
theorem vL{c:Cd}{f:CF}{i:Nat}(r:List CF × Sr)(a:Nat)(h:(oT c f i r a).2.ok=true):r.2.ok=true:=by
 unfold oT at h;split at h
 .exact gf (l8 c) (λr b h=>(mX h).1) _ h
 .exact h
structure Fn(w W:World)(B:Nat)(F0:List Nat)(S:Nat)(cs:List Value)(X:Nat)(f:CF)(v:Value)(L:List FE):Prop where
 fl:Fl W B v L
 bs:Bk W S 229 cs
 xb:Ob W 240 24 X (dp (ER f))
 ns:∀k∈bf v L,k≠S/\k≠X
 sx:S≠X
 st:ar F0 w (S::bf v L) W
 s0:S∈F0
 bb:B<=W.heap.size
section
variable {w W W':World} {B S X:Nat} {F0:List Nat} {cs cs':List Value} {f:CF} {v:Value} {L:List FE}
theorem Fn.xl(h:Fn w W B F0 S cs X f v L):X<W.heap.size:=(ownsRow.lt h.xb X rfl).2
theorem Fn.below(h:Fn w W B F0 S cs X f v L)(hb:Below W.heap.size W W'):Fn w W' B F0 S cs X f v L :=
 ⟨h.fl.below hb,h.bs.below hb,h.xb.of_eq (hb.block X h.xl),h.ns,h.sx,⟨hb.os.trans h.st.os,hb.tape.trans h.st.tape,hb.output.trans h.st.output,zq3 h.st.size hb.size,λk hk hn=>(hb.block k (zq6 hk h.st.size)).trans (h.st.block k hk hn),h.st.foot⟩,h.s0,zq3 h.bb hb.size⟩
theorem Fn.spend(h:Fn w W B F0 S cs X f v L)(hb:Bk W' S 229 cs')(hs:ar [S] W [S] W'):Fn w W' B F0 S cs' X f v L:=by
 refine⟨h.fl.stp hs (λk hk hn=>(h.ns k hk).1 (by simpa using hn)),hb,h.xb.of_eq (hs.block X h.xl (by simpa using λe=>h.sx e.symm)),h.ns,h.sx,⟨hs.os.trans h.st.os,hs.tape.trans h.st.tape,hs.output.trans h.st.output,zq3 h.st.size hs.size,λk hk hn=>(hs.block k (zq6 hk h.st.size) (λe=>hn (by rw[mem_singleton]at e;rw[e];exact h.s0))).trans (h.st.block k hk hn),h.st.foot⟩,h.s0,zq3 h.bb hs.size⟩
theorem Fn.side{F F':List Nat}(h:Fn w W B F0 S cs X f v L)(hs:ar F W F' W')(hd:∀k∈F,k ∉ bf v L/\k≠S/\k≠X/\w.heap.size<=k):Fn w W' B F0 S cs X f v L :=
 ⟨h.fl.stp hs (λk hk hn=>(hd k hn).1 hk),h.bs.stp hs (λhn=>(hd S hn).2.1 rfl),h.xb.of_eq (hs.block X h.xl (λhn=>(hd X hn).2.2.1 rfl)),h.ns,h.sx,⟨hs.os.trans h.st.os,hs.tape.trans h.st.tape,hs.output.trans h.st.output,zq3 h.st.size hs.size,λk hk hn=>(hs.block k (zq6 hk h.st.size) (λe=>by have:=(hd k e).2.2.2;omega)).trans (h.st.block k hk hn),h.st.foot⟩,h.s0,zq3 h.bb hs.size⟩
theorem Fn.app {g1 c1:Nat} {o:Obj} {x:FE} {W1:World} (h:Fn w W B F0 S cs X f v L) (hx:Fm W x.A x.f x.av x.ov) (hd:∀k∈x.bs,k ∉ bf v L/\k≠S/\k≠X/\w.heap.size<=k/\B<=k)
  (aL:W1.ownsRow B 126 1 (.slice (some ⟨g1,0,none⟩) (L.length+1) c1) (L.length+1) (L.map FE.p++[x.p])) (hg:(W.alloc o).grownBy W1 v.ownBlock) (cC:some g1=v.ownBlock\/g1=(W.alloc o).heap.size) :
  Fn w W1 B F0 S cs X f (.slice (some ⟨g1,0,none⟩) (L.length+1) c1) (L++[x]):=by
 obtain⟨a1,a2,a3⟩:=h.fl.app hx (λk hk=>(hd k hk).2.2.2.2) (λk hk=>(hd k hk).1) h.bb aL hg cC;have hv:∀k∈v.ownBlock.toList,k∈bf v L:=λk hk=>mem_append_left _ hk;refine⟨a1,h.bs.stp a2 (λhn=>(h.ns S (hv S hn)).1 rfl),h.xb.of_eq (a2.block X h.xl (λhn=>(h.ns X (hv X hn)).2 rfl)),λk hk=>?_,h.sx,?_,h.s0,zq3 h.bb a2.size⟩
 .rcases a3 k hk with q|q|q
  .exact h.ns k q
  .exact⟨(hd k q).2.1,(hd k q).2.2.1⟩
  .exact⟨λe=>by have:=h.bs.lt;omega,λe=>by have:=h.xl;omega⟩
 .have h2:=h.st;refine⟨a2.os.trans h2.os,a2.tape.trans h2.tape,a2.output.trans h2.output,zq3 h2.size a2.size,λk hk hn=>?_,λk hk=>?_⟩
  .rw[a2.block k (zq6 hk h2.size) (λhm=>?_)]
   .exact h2.block k hk hn
   .rcases h2.foot k (mem_cons_of_mem _ (hv k hm)) with q|q
    .exact hn q
    .omega
  .rcases mem_cons.1 hk with rfl|hk
   .exact h2.foot k (by simp)
   .rcases a3 k hk with q|q|q
    .exact h2.foot k (mem_cons_of_mem _ q)
    .exact zq1 (hd k q).2.2.2.1
    .exact zq1 (zq3 h2.size q)
end
theorem aa1{f g:CF}{a i:Nat}(h:g∈eO f a i):g.ap.length=f.ap.length:=by
 unfold eO at h;rcases mem_append.1 h with h|h
 .split at h
  .simp at h
  .rw[mem_singleton]at h;subst h;show(f.ap.map _).length=_;rw[length_map]
 .split at h
  .rw[mem_singleton]at h;subst h;rfl
  .simp at h
section
variable {w:World} {B S:Nat} {v:Value} {L:List FE} {c0 hv kv wv:Value} {lp:Bool} {lo:Int} {x:FE} {c:Cd} {s:Sr}
theorem Kw(hS:Bk w S 229 (qt c0 hv lp kv wv c.bd s.lf lo s.fu))(hL:Fl w B v L)(hT:∀y∈L,Td y.f)(hx:x∈L)(hSL:S ∉ bf v L)(hB:B<=w.heap.size){i:Nat}(hi:i<x.f.ow.length)(bn:(eW c x.f (L.map (·.f),s) i).2.ok=true):
  Calls prog 234 #[.pointer (some ⟨S,0,none⟩),v,.pointer (some ⟨x.A,0,none⟩),.int .i64 i] w λe w'=>∃v' L',e=.returned v'/\Fl w' B v' (L++L')/\(∀y∈L',Td y.f)/\(L++L').map (·.f)=(eW c x.f (L.map (·.f),s) i).1/\Bk w' S 229 (qt c0 hv lp kv wv c.bd (eW c x.f (L.map (·.f),s) i).2.lf lo (eW c x.f (L.map (·.f),s) i).2.fu)/\S ∉ bf v' (L++L')/\ar (S::bf v L) w (S::bf v' (L++L')) w':=by
 obtain⟨i0,lw,gY,gz,gL⟩:=info_parts infoPF;obtain⟨R,hR⟩:∃R,R=eW c x.f (L.map (·.f),s) i:=⟨_,rfl⟩;rw[<-hR]at bn ⊢;have hxF:=hL.fm x hx;have hxT:=hT x hx;have iJ:=hxT.ok.owLen;have Er:=ab (nI hxF.is hxT.ok);obtain⟨va,vc,iw,-,-⟩:=am hL.row;subst iw;have HL:=ab hL;have HS:=ab hS;have HX:=ab hx;have HXT:=ab hxT;have HT:=ab hT;have HSL:=ab hSL;have mr:=ab bn;have HRR:=ab hR;have HXP:Hid (∀(W:World) (vv:Value) (E:List FE),Fl W B vv (L++E)->Fm W x.A x.f x.av x.ov):=ab (λW vv E hf=>hf.fm x (mem_append_left _ hx));obtain⟨xa,xf,xav,xov⟩:=x;simp only at hi Er HXT HXP iJ hR HRR ⊢;clear hL hS hx hxF hxT hT hSL bn hR;go_enter func234,ntmps234;go_wp2_with fail
 refine(uh Er).mono ?_;rintro e w1 ⟨rfl,bB⟩;obtain⟨M,hM,fJ,Co,ce,C6,Cm,cL⟩:=P3 w1 xf;rw[<-hM];have CD:=ab Co;have ep:=ab ce;have Sk:=ab C6;obtain⟨X,gW⟩:∃X,X=w1.heap.size:=⟨_,rfl⟩;obtain⟨W2,jw⟩:∃W2,W2=(w1.alloc (.cells (dp (replicate 24 false)).toArray 240)).setCells w1.heap.size 0 M:=⟨_,rfl⟩;rw[<-jw]at Cm cL;rw[<-gW]at Cm;have aW:=bB.trans (cL.mono bB.size);have hFn:Fn w W2 B (S::bf (.slice va L.length vc) L) S (qt c0 hv lp kv wv c.bd s.lf lo s.fu) X xf (.slice va L.length vc) (L++[]):=by
  rw[append_nil];have h1:=uh HL;have h2:=uh HS;refine⟨h1.below aW,h2.below aW,Cm,λk hk=>⟨λe=>uh HSL (by rw[<-e];exact hk),λe=>?_⟩,λe=>?_,(ar.ofBw aW),by simp,zq3 hB aW.size⟩
  .have:=h1.lt k hk;have:=bB.size;omega
  .have:=h2.lt;have:=bB.size;omega
 have cG:Hid (Fn w W2 B (S::bf (.slice va L.length vc) L) S (qt c0 hv lp kv wv c.bd s.lf lo s.fu) X xf (.slice va L.length vc) (L++[])/\w.heap.size<=X):=ab ⟨hFn,by rw[gW];exact bB.size⟩;clear Co ce C6 Cm cL bB aW hM Er hFn;simp only[dp,replicate,map_cons,map_nil]at jw;go_upto_region 2 with(refine wpList_store_mid rfl 240 (.tmp 9) (.tmp 14) rfl _ 0 M.toArray rfl rfl (uh CD) (uh ep) (uh Sk) ?_);rw[<-jw,<-gW];clear jw gW CD ep Sk fJ;go_wp2_with fail
 go_loopg [1,10] 24 (λgn cv iv wx=>∃(k:Nat) (E:List FE) (s':Sr),k+gn=24/\iv=.int .i64 k/\Hid (Fn w wx B (S::bf (.slice va L.length vc) L) S (qt c0 hv lp kv wv c.bd s'.lf lo s'.fu) X xf cv (L++E)/\(∀y∈E,Td y.f)/\(List.range' k (24-k)).foldl (oT c xf i) ((L++E).map (·.f),s')=R/\w.heap.size<=X))
 case atStart=>exact⟨0,[],s,by omega,rfl,ab ⟨(uh cG).1,λy hy=>by simp at hy,by rw[append_nil,uh HRR];unfold eW;rw[range_eq_range'],(uh cG).2⟩⟩
 case round =>
  clear cG;obtain⟨k,E,s',gw,rfl,hI⟩:=hrel;obtain⟨G,hG⟩:∃G,G=gk:=⟨_,rfl⟩;obtain⟨la,lc,iw,-,-⟩:=am (uh hI).1.fl.row;subst iw;by_cases au:k<24
  .have hd:decide ((k:Int)<(24:Int))=true:=(by simp;omega);have agK:List.range' k (24-k)=k::List.range' (k+1) (24-(k+1)):=(by rw[show 24-k=(24-(k+1))+1 by omega,range'_succ]);have fq:=(uh hI).2.2.1;rw[agK,foldl_cons]at fq;have hF:=(uh HXP wr _ E (uh hI).1.fl);have d1:=(ownsRow.cellAt (uh hI).1.xb k (by omega)).trans (fQ (by rw[BJ];exact au));rw[BI xf au]at d1;have x0:=hF.is.cls (i:=0) (by omega);unfold hU at x0;obtain⟨n0,sl⟩:∃n0,n0=xf.cl.getD 0 0:=⟨_,rfl⟩;rw[<-sl]at x0;have Xx:Kr xf k=(decide (k∈jz xf)&&!decide (k=n0)&&!(cE xf.ow k).isSome):=(by rw[sl];rfl);have mR:=ab (cP k hF.is);have i1:(0:Int)<=(k:Int):=(by omega);have i2:(k:Int)<(24:Int):=(by omega);have SK:Kr xf k=false->(List.range' (k+1) (24-(k+1))).foldl (oT c xf i) ((L++E).map (·.f),s')=R:=λe=>by
    have e2:oT c xf i ((L++E).map (·.f),s') k=((L++E).map (·.f),s'):=(by unfold oT;rw[if_neg (by rw[e];decide)]);rw[e2]at fq;exact fq
   have WO:Hid (Kr xf k=false->Hid (Fn w wr B (S::bf (.slice va L.length vc) L) S (qt c0 hv lp kv wv c.bd s'.lf lo s'.fu) X xf (.slice la (L++E).length lc) (L++E)/\(∀y∈E,Td y.f)/\(List.range' (k+1) (24-(k+1))).foldl (oT c xf i) ((L++E).map (·.f),s')=R/\w.heap.size<=X)):=ab (λe=>ab ⟨(uh hI).1,(uh hI).2.1,SK e,(uh hI).2.2.2⟩);have Ha:=ab fq;have EY:=ab Xx;clear agK fq hF sl Xx SK;rw[length_append]at WO ⊢;by_cases hm:k∈jz xf
   .rw[show decide (k∈jz xf)=true by simpa using hm]at d1 EY;by_cases hc:k=n0
    .have d2:((k:Int)==(n0:Int))=true:=(by simp[hc]);have HN:=ab (uh WO (by rw[uh EY];simp[hc]));clear hm hc WO hI;go_wp2_with fail
     go_roundg (G-1)
     case rel=>exact⟨k+1,E,s',by omega,by go_num,uh HN⟩
     case measure=>omega
    .have d2:((k:Int)==(n0:Int))=false:=(by simp;omega);have hg:=sF (cE xf.ow k);cases hb:cE xf.ow k with
     |some b0 =>
      rw[hb]at hg mR;have HN:=ab (uh WO (by rw[uh EY,hb];simp));clear hm hc WO hI hb;go_wp2_with fail
      refine(uh mR).mono ?_;rintro e w3 ⟨rfl,rfl⟩;go_wp2_with fail
      go_roundg (G-1)
      case rel=>exact⟨k+1,E,s',by omega,by go_num,uh HN⟩
      case measure=>omega
     |none =>
      rw[hb]at hg mR;have hA:Kr xf k=true:=(by rw[uh EY,hb];simp[hc]);have hF:=(uh HXP wr _ E (uh hI).1.fl);have B8:=ab (Gq hF.is (uh HXT).ok (zq3 (uh HXT).ln (by omega)) au hi);have HMO:=ab (Bo (i:=i) (uh HXT).ok au hb);have uu:oT c xf i ((L++E).map (·.f),s') k=(eO xf k i).foldl (l8 c) ((L++E).map (·.f),s'):=(by unfold oT;rw[if_pos hA]);rw[uu]at Ha;obtain⟨R1,s8⟩:∃R1,R1=(eO xf k i).foldl (l8 c) ((L++E).map (·.f),s'):=⟨_,rfl⟩;rw[<-s8]at Ha;have Yy:=ab s8;have Yx:Hid (R1.2.ok=true):=ab (by
       refine gf (oT c xf i) (λr b h=>vL r b h) (List.range' (k+1) (24-(k+1))) ?_;rw[uh Ha];exact uh mr)
      have Su:=q8 xf k i;have HI:=ab (uh hI);clear hm hc WO hI hb hA hF uu s8;go_wp2_with fail
      refine(uh mR).mono ?_;rintro e w3 ⟨rfl,rfl⟩;go_wp2_with fail
      refine(uh B8).mono ?_;rintro e w4 ⟨v2,L2,rfl,Dh,th,nV⟩;have ae1:=(uh HI).1.below nV;have OV:=Dh.pend;have Xu:∀y∈mY v2 L2 0,y ∉ bf (.slice la (L++E).length lc) (L++E)/\y≠S/\y≠X/\w.heap.size<=y/\B<=y:=λy hy=>by
       have h1:=OV.geB y hy;exact⟨λhn=>by have h2:=(uh HI).1.fl.lt y hn;omega,λe=>by have h2:=(uh HI).1.bs.lt;omega,λe=>by have h2:=(uh HI).1.xl;omega,zq3 (uh HI).1.st.size h1,zq3 (uh HI).1.bb h1⟩
      obtain⟨B2,C3⟩:∃B2,B2=w3.heap.size:=⟨_,rfl⟩;rw[<-C3]at OV;obtain⟨a2,c2,AO,-,-⟩:=am OV.row;subst AO;have EZ:=ab th;have ae9:L2.length<=2:=(by have:=congrArg List.length th;rw[length_map]at this;omega);have oP:Hid (Fn w w4 B (S::bf (.slice va L.length vc) L) S (qt c0 hv lp kv wv c.bd s'.lf lo s'.fu) X xf (.slice la (L.length+E.length) lc) (L++E)/\(∀y∈E,Td y.f)/\gp w4 B2 (.slice a2 L2.length c2) L2 0/\(∀y∈mY (.slice a2 L2.length c2) L2 0,y ∉ bf (.slice la (L.length+E.length) lc) (L++E)/\y≠S/\y≠X/\w.heap.size<=y/\B<=y)/\((eO xf k i).drop 0).foldl (l8 c) ((L++E).map (·.f),s')=R1/\w.heap.size<=X):=ab (by
       rw[<-length_append];exact⟨ae1,(uh HI).2.1,OV,Xu,(uh Yy).symm,(uh HI).2.2.2⟩)
      clear Dh th nV ae1 OV Xu B8 HI C3 Su d1 x0;go_wp2_with fail
      go_loopg [1,43] L2.length (λgn cv iv wx=>∃(j:Nat) (Ea:List FE) (sa:Sr),j+gn=L2.length/\iv=.int .i64 j/\Hid (Fn w wx B (S::bf (.slice va L.length vc) L) S (qt c0 hv lp kv wv c.bd sa.lf lo sa.fu) X xf cv (L++Ea)/\(∀y∈Ea,Td y.f)/\gp wx B2 (.slice a2 L2.length c2) L2 j/\(∀y∈mY (.slice a2 L2.length c2) L2 j,y ∉ bf cv (L++Ea)/\y≠S/\y≠X/\w.heap.size<=y/\B<=y)/\((eO xf k i).drop j).foldl (l8 c) ((L++Ea).map (·.f),sa)=R1/\w.heap.size<=X))
      case atStart=>exact⟨0,E,s',by omega,rfl,oP⟩
      case round =>
       clear oP;obtain⟨j,Ea,sa,Cs,rfl,hJ⟩:=hrel;obtain⟨G2,FD⟩:∃G2,G2=gk:=⟨_,rfl⟩;obtain⟨lb,ld,iw,-,-⟩:=am (uh hJ).1.fl.row;subst iw;by_cases fU:j<L2.length
       .have k6:decide ((j:Int)<(L2.length:Int))=true:=(by simp;omega);obtain⟨g2,cap2,dc,ax⟩:=(uh hJ).2.2.1.cell fU;simp only[Value.slice.injEq,true_and]at dc;obtain⟨rfl,rfl⟩:=dc;obtain⟨hy,-,Cn,OW,FH⟩:=(uh hJ).2.2.1.next fU;have tf:j<(eO xf k i).length:=(by rw[<-uh EZ,length_map];exact fU);have hfy:L2[j].f=(eO xf k i)[j]:=by
         have:=congrArg (λl=>l[j]?) (uh EZ);simp only[getElem?_map,getElem?_eq_getElem fU,getElem?_eq_getElem tf,Option.map_some,Option.some.injEq]at this;exact this
        have gX:L2[j].f∈eO xf k i:=(by rw[hfy];exact getElem_mem tf);have hyO:=uh HMO _ gX;have UV:=aa1 gX;have nY:(eO xf k i).drop j=L2[j].f::(eO xf k i).drop (j+1):=(by rw[hfy];exact drop_eq_getElem_cons tf);have fq:=(uh hJ).2.2.2.2.1;rw[nY,foldl_cons]at fq;have hokG:(l8 c ((L++Ea).map (·.f),sa) L2[j].f).2.ok=true:=gf (l8 c) (λr b h=>(mX h).1) ((eO xf k i).drop (j+1)) (by rw[fq];exact uh Yx);have Px:=(mX hokG).2;obtain⟨y,hye⟩:∃y,y=L2[j]:=⟨_,rfl⟩;rw[<-hye]at ax hy OW FH hyO UV fq Px;have hdy:∀q∈y.bs,q ∉ bf (.slice lb (L++Ea).length ld) (L++Ea)/\q≠S/\q≠X/\w.heap.size<=q/\B<=q:=λq hq=>(uh hJ).2.2.2.1 q (FH q hq);have He:=ab (lL hy hyO (by rw[UV];exact zq3 (uh HXT).ln (by omega)));have IQ:y.p=.pointer (some ⟨y.A,0,none⟩):=rfl;rw[IQ]at ax;have HFo:=ab fq;have HMo:=ab Px;have HPn:=ab Cn;have HPd:=ab OW;have HDy:=ab hdy;have HYO:=ab hyO;have HJ:=ab (uh hJ);have k1:(0:Int)<=(j:Int):=(by omega);have k2:(j:Int)<(L2.length:Int):=(by omega);clear hy Cn OW FH tf hfy gX hyO UV nY fq hokG Px hdy IQ hye hJ;rw[length_append]at HDy HJ ⊢;go_wp2_with fail
        refine(uh He).mono ?_;rintro e w5 ⟨rfl,av5,ov5,C4,gh⟩;have XK:∀q∈aG y.A av5 ov5,q ∉ bf (.slice lb (L.length+Ea.length) ld) (L++Ea)/\q≠S/\q≠X/\w.heap.size<=q/\B<=q:=λq hq=>by
         rcases gh.foot q hq with p|p
         .exact uh HDy q p
         .exact⟨λhn=>by have h2:=(uh HJ).1.fl.lt q hn;omega,λe=>by have h2:=(uh HJ).1.bs.lt;omega,λe=>by have h2:=(uh HJ).1.xl;omega,zq3 (uh HJ).1.st.size p,zq3 (uh HJ).1.bb p⟩
        have ZF:=(uh HJ).1.side gh (λq hq=>⟨(uh HDy q hq).1,(uh HDy q hq).2.1,(uh HDy q hq).2.2.1,(uh HDy q hq).2.2.2.1⟩);have hP5:=(uh HPn).stp gh (λq hq hn=>(uh HPd q hq).2 hn);have Xk:∀q∈L++Ea,Td q.f:=λq hq=>by
         rcases mem_append.1 hq with h|h
         .exact uh HT q h
         .exact(uh HJ).2.1 q h
        have HIN:=ab (Lj C4.is (uh HYO).tidy ZF.fl Xk);have afl:∀q∈mY (.slice (some ⟨g2,0,none⟩) L2.length c2) L2 (j+1),(q ∉ bf (.slice lb (L.length+Ea.length) ld) (L++Ea)/\q≠S/\q≠X/\w.heap.size<=q/\B<=q)/\q ∉ aG y.A av5 ov5:=λq hq=>⟨(uh HJ).2.2.2.1 q (uh HPd q hq).1,λhn=>by
         rcases gh.foot q hn with p|p
         .exact(uh HPd q hq).2 p
         .have:=(uh HPn).lt q hq;omega⟩
        have WB:=ab C4;have adQ:=ab ZF;have HP5:=ab hP5;have HSd:=ab XK;have E0:=ab afl;clear C4 gh XK ZF hP5 Xk afl He ax;go_wp2_with fail
        refine(uh HIN).mono ?_;rintro e w6 ⟨rfl,kU⟩;have KD:=(uh adQ).below kU;have HP6:=ab ((uh HP5).below kU);have HF6:=ab ((uh WB).below kU);clear HIN adQ HP5 WB;cases aH:XY ((L++Ea).map (·.f)) (aQ y.f)
        .have UC:l8 c ((L++Ea).map (·.f),sa) y.f=((L++Ea).map (·.f),sa):=(by unfold l8;rw[if_neg (by rw[aH];decide)]);have HN:Hid (Fn w w6 B (S::bf (.slice va L.length vc) L) S (qt c0 hv lp kv wv c.bd sa.lf lo sa.fu) X xf (.slice lb (L.length+Ea.length) ld) (L++Ea)/\(∀y∈Ea,Td y.f)/\gp w6 B2 (.slice (some ⟨g2,0,none⟩) L2.length c2) L2 (j+1)/\(∀y∈mY (.slice (some ⟨g2,0,none⟩) L2.length c2) L2 (j+1),y ∉ bf (.slice lb (L.length+Ea.length) ld) (L++Ea)/\y≠S/\y≠X/\w.heap.size<=y/\B<=y)/\((eO xf k i).drop (j+1)).foldl (l8 c) ((L++Ea).map (·.f),sa)=R1/\w.heap.size<=X):=ab ⟨KD,(uh HJ).2.1,uh HP6,λq hq=>(uh E0 q hq).1,by have:=uh HFo;rw[UC]at this;exact this,(uh HJ).2.2.2.2.2⟩;clear UC aH KD kU HJ;go_wp2_with fail
         go_roundg (G2-1)
         case rel=>exact⟨j+1,Ea,sa,by omega,by go_num,HN⟩
         case measure=>omega
        .have UC:l8 c ((L++Ea).map (·.f),sa) y.f=((L++Ea).map (·.f)++[aQ y.f],sL c { sa with ok:=sa.ok&&decide (((L++Ea).map (·.f)).length<=im) }):=(by unfold l8;rw[if_pos aH]);have dO:L.length+Ea.length<=900000:=by
          have:=uh HMo aH;rw[length_map,length_append]at this;unfold im at this;exact this
         have Tk:Hid (w6.ownsRow B 126 1 (.slice lb (L.length+Ea.length) ld) (L.length+Ea.length) ((L++Ea).map FE.p)):=ab (by have:=KD.fl.row;rwa [length_append]at this);have adR:=ab KD;have arn:=KD.bb;have HGG:=ab UC;clear UC aH KD kU;go_wp2_with (at_builtin;refine aS _ rfl (.tmp 52) (.tmp 54) 125 rfl B 126 i0 _ 1 8 underlying125 lw gY gz gL rfl (by decide) _ (L.length+Ea.length) ((L++Ea).map FE.p) rfl ((uh Tk).alloc _) ⟨_,0,none⟩ 1 [.pointer (some ⟨y.A,0,none⟩)] rfl rfl (aN _ _ (by simp) [.pointer (some ⟨y.A,0,none⟩)] _) (by intro u hu;simp only[mem_singleton]at hu;subst hu;rfl) (by omega) (by omega) (by simp;omega) ?_)
         intro g7 cap7 w7 iM dN gi;have zp:=lK dN (by simpa using gi);have Uo:=(uh adR).app (x:=⟨y.A,aQ y.f,av5,ov5⟩) (g1:=g7) (c1:=cap7) (uh HF6) (uh HSd) (by rw[length_append,map_append,append_assoc];exact iM) dN (by simpa using gi);have hP7:=(uh HP6).stp zp (λq hq hn=>(uh E0 q hq).1.1 (mem_append_left _ hn));have ZD:∀q∈mY (.slice (some ⟨g2,0,none⟩) L2.length c2) L2 (j+1),q ∉ bf (.slice (some ⟨g7,0,none⟩) (L.length+Ea.length+1) cap7) (L++(Ea++[⟨y.A,aQ y.f,av5,ov5⟩])):=λq hq hn=>by
          rcases mem_append.1 hn with p|p
          .have e:q=g7:=(by simpa[Value.ownBlock,eq_comm] using p);subst e;rcases gi with e|e
           .exact(uh E0 q hq).1.1 (mem_append_left _ (by rw[<-e];simp))
           .have:=(uh HP6).lt q hq;omega
          .rw[<-append_assoc,flatMap_append,mem_append]at p;rcases p with p|p
           .exact(uh E0 q hq).1.1 (mem_append_right _ p)
           .simp only[flatMap_cons,flatMap_nil,append_nil]at p;exact(uh E0 q hq).2 p
         rw[append_assoc,length_append]at Uo;have L7:=ab (zR Uo.bs);have adS:=ab Uo;have HP7:=ab hP7;have Yk:=ab ZD;clear iM dN gi zp Uo hP7 ZD Tk adR HP6;go_wp2_with fail
         refine(uh L7).mono ?_;rintro e w8 ⟨rfl,O4,IK⟩;have ZG:=(uh adS).spend O4 IK;have hP8:=(uh HP7).stp IK (λq hq hn=>(uh E0 q hq).1.2.1 (by simpa using hn));have hTE:∀q∈Ea++[(⟨y.A,aQ y.f,av5,ov5⟩:FE)],Td q.f:=λq hq=>by
          rcases mem_append.1 hq with h|h
          .exact(uh HJ).2.1 q h
          .rw[mem_singleton]at h;subst h;exact(uh HYO).tidy
         obtain⟨sb,Cx⟩:∃sb,sb=sL c { sa with ok:=sa.ok&&decide (((L++Ea).map (·.f)).length<=im) }:=⟨_,rfl⟩;have yv:sb.lf=wrap64 (sa.lf-1):=(by rw[Cx];rfl);have hsf:sb.fu=(sa.fu||(decide (wrap64 (sa.lf-1)<0)&&c.bd)):=(by rw[Cx];rfl);rw[<-hsf,<-yv]at ZG;have Pc:((eO xf k i).drop (j+1)).foldl (l8 c) ((L++(Ea++[(⟨y.A,aQ y.f,av5,ov5⟩:FE)])).map (·.f),sb)=R1:=by
          have:=uh HFo;rw[uh HGG,<-Cx]at this;rw[<-append_assoc,map_append];exact this
         have HN:=ab (zq2 ZG (zq2 hTE (zq2 hP8 (zq2 (λq hq=>zq2 (uh Yk q hq) (uh E0 q hq).1.2) (zq2 Pc (uh HJ).2.2.2.2.2)))));clear O4 IK ZG hP8 hTE Cx yv hsf Pc L7 adS HP7 Yk HJ;go_wp2_with fail
         go_roundg (G2-1)
         case rel=>exact⟨j+1,Ea++[⟨y.A,aQ y.f,av5,ov5⟩],sb,by omega,by go_num,HN⟩
         case measure=>omega
       .have k6:decide ((j:Int)<(L2.length:Int))=false:=(by simp;omega);have tf:(eO xf k i).length<=j:=(by rw[<-uh EZ,length_map];omega);have Lc:((L++Ea).map (·.f),sa)=R1:=by
         have:=(uh hJ).2.2.2.2.1;rw[drop_eq_nil_of_le tf]at this;exact this
        have HN:Hid (Fn w wr B (S::bf (.slice va L.length vc) L) S (qt c0 hv lp kv wv c.bd sa.lf lo sa.fu) X xf (.slice lb (L++Ea).length ld) (L++Ea)/\(∀y∈Ea,Td y.f)/\(List.range' (k+1) (24-(k+1))).foldl (oT c xf i) ((L++Ea).map (·.f),sa)=R/\w.heap.size<=X):=ab ⟨(uh hJ).1,(uh hJ).2.1,by rw[Lc];exact uh Ha,(uh hJ).2.2.2.2.2⟩;rw[length_append]at HN ⊢;clear tf Lc hJ;go_wp2_with fail
        go_roundg (G-1)
        case rel=>exact⟨k+1,Ea,sa,by omega,by go_num,HN⟩
        case measure=>omega
   .rw[show decide (k∈jz xf)=false by simpa using hm]at d1 EY;have HN:=ab (uh WO (by rw[uh EY];simp));clear hm WO hI;go_wp2_with fail
    go_roundg (G-1)
    case rel=>exact⟨k+1,E,s',by omega,by go_num,uh HN⟩
    case measure=>omega
  .have hd:decide ((k:Int)<(24:Int))=false:=(by simp;omega);have kI:R=((L++E).map (·.f),s'):=by
    have:=(uh hI).2.2.1;rw[show 24-k=0 by omega]at this;exact this.symm
   have WD:=ab kI;clear kI;go_wp2_with fail
   go_ret;refine⟨_,E,rfl,(uh hI).1.fl,(uh hI).2.1,by rw[uh WD],?_,λhn=>((uh hI).1.ns S hn).1 rfl,(uh hI).1.st⟩;rw[uh WD];exact(uh hI).1.bs
end
