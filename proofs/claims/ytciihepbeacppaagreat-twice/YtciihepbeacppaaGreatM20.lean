import Derived.Test.YtciihepbeacppaaGreatGR
set_option maxRecDepth 100000
set_option maxHeartbeats 0
namespace Go.Proofs.YtciihepbeacppaaGreat
open Tryz Go.RowKit List World Below
set_option linter.unusedVariables false
theorem yX{al:List cf}(ht:vf al){a:cf}(ha:a∈al):(iV (mA al) a).l<24/\(iV (mA al) a).r<24:=by
 have h1:=yO ht (ht a ha).1;have h2:=yO ht (ht a ha).2;have e1:(iV (mA al) a).l=(mA al).getD (tm a).l 0:=rfl;have e2:(iV (mA al) a).r=(mA al).getD (tm a).r 0:=rfl;omega
theorem aaV{al:List cf}(ht:vf al):Rm (ej al):=by
 intro p hp;obtain⟨a,ha,rfl⟩:=mem_map.1 hp;exact yX ht (mem_filter.1 ha).1
def Gs(A A':Nat):Array Value:=(#[Value.pointer (some ⟨A,0,none⟩),Value.pointer (some ⟨A',0,none⟩)].toList++(replicate 48 (Value.int .i64 0)++[Value.pointer none,Value.slice none 0 0,Value.int .i64 0,Value.slice none 0 0,Value.int .i64 128])).toArray
theorem Bj(w:World)(A A':Nat):Sn (w.alloc (.cells (Gs A A') 202)) w.heap.size A A' 128 (replicate 24 (.int .i64 0)) (replicate 24 (.int .i64 0)++[.pointer none,.slice none 0 0,.int .i64 0,.slice none 0 0,.int .i64 128]) :=
 ⟨ownsRow_lit (base:=0) (e:=202) (size:=55) w (Gs A A') 1 (zq5 _) (by simp[maxLen]) rfl,by simp,_,_,_,_,_,rfl,by simp⟩
section
variable {w:World} {D A D' A':Nat} {s t:CF} {av ov av' ov':Value}
theorem uz(h:pL w D A s av ov)(h':pL w D' A' t av' ov')(hT:Td s)(V7:Td t):Calls prog 231 #[.pointer (some ⟨D,0,none⟩),.pointer (some ⟨D',0,none⟩)] w λe w'=>e=.returned (.bool (Cm s t))/\Below w.heap.size w w':=by
 have HHR:Hid (∀m:Nat,Calls prog 252 #[.pointer (some ⟨D,0,none⟩),.pointer (some ⟨D',0,none⟩)] (w.drewN m) λe w'=>e=.returned (.bool (Ye s t))/\∃j,w'=w.drewN j):=ab (λm=>(Aw (w:=w.drewN m) (h.of_eq (λ_ _=>rfl)) (h'.of_eq (λ_ _=>rfl)) hT.ok V7.ok).mono (λe w' hw=>⟨hw.1,by obtain⟨n,rfl⟩:=hw.2;exact⟨_,drewN_drewN _ _ _⟩⟩));have GJ:Hid (∀m:Nat,Calls prog 253 #[.pointer (some ⟨D,0,none⟩),.pointer (some ⟨D',0,none⟩)] (w.drewN m) λe w'=>e=.returned (.bool (O6 s t))/\∃j,w'=w.drewN j):=ab (λm=>(vD (w:=w.drewN m) (h.of_eq (λ_ _=>rfl)) (h'.of_eq (λ_ _=>rfl))).mono (λe w' hw=>⟨hw.1,by obtain⟨n,rfl⟩:=hw.2;exact⟨_,drewN_drewN _ _ _⟩⟩));have Fc:Cm s t=(Ye s t&&O6 s t&&(match BX s t [0,1,2,3,4] (replicate 24 none) with|none=>false|some an=>(Y8 s t an 128).1)):=rfl;obtain⟨R,hR⟩:∃R,R=Cm s t:=⟨_,rfl⟩;rw[<-hR];rw[<-hR]at Fc;have HW:=ab Fc;have H:=ab h;have H':=ab h';have HT:=ab hT;have HT':=ab V7;have f1:=h.fo;have f2:=h'.fo;clear h h' hT V7 Fc hR;go_enter func231,ntmps231;go_wp2_with fail
 refine(uh HHR 0).mono ?_;rintro e w1 ⟨rfl,n1,rfl⟩;cases QV:Ye s t
 .have HE:Hid (R=false):=ab (by rw[uh HW,QV];rfl);clear QV;go_wp2_with fail
  go_ret;exact⟨aB (uh HE).symm,ey _ _⟩
 .go_wp2_with fail
  refine(uh GJ n1).mono ?_;rintro e w2 ⟨rfl,n2,rfl⟩;cases hlk:O6 s t
  .have HE:Hid (R=false):=ab (by rw[uh HW,QV,hlk];rfl);clear QV hlk;go_wp2_with fail
   go_ret;exact⟨aB (uh HE).symm,ey _ _⟩
  .have HE:Hid (R=(match BX s t [0,1,2,3,4] (replicate 24 none) with|none=>false|some an=>(Y8 s t an 128).1)):=ab (by rw[uh HW,QV,hlk];rfl);clear QV hlk;go_wp2_with fail
   go_region
   obtain⟨W,hW⟩:∃W,W=w.drewN (n2+1):=⟨_,rfl⟩;rw[<-hW];have hbW:Below w.heap.size w W:=(by rw[hW];exact ey w _);have lu:W.heap.size=w.heap.size:=(by rw[hW];rfl);have h1:=(uh H).below hbW;have h1':=(uh H').below hbW;have YY:Hid (∀k∈aG A av ov,k≠W.heap.size):=ab (λk hk=>by have:=h1.ff.lt k hk;omega);have HNt:Hid (∀k∈aG A' av' ov',k≠W.heap.size):=ab (λk hk=>by have:=h1'.ff.lt k hk;omega);have HDn:Hid (D≠W.heap.size):=ab (by have:=h1.bk.lt;omega);have Pi:=ab hbW;have HI:=ab h1;have uB:=ab h1';rw[show w.heap.size=W.heap.size from lu.symm];clear hW hbW lu h1 h1' f1 f2;go_wp2_with fail
   refine(Kr (F:=s) (T:=t) (Bj W A A') ((uh HI).ff.alloc _) ((uh uB).ff.alloc _) (uh YY) (uh HNt) (λi _=>(uh HT').ok.get i)).mono ?_;rintro e w4 ⟨rfl,hsq,aS⟩;have mp:Below W.heap.size W w4:=((aq.refl [W.heap.size] W).alloc _).trans aS |>.below (zq4 _) (by simp);have xu:=ab mp;have kU:pL w4 D A s av ov:=((uh HI).below (ah W (.cells (Gs A A') 202))).of_eq (λk hk=>aS.blk k (zq6 ((uh HI).lt k hk) (ah W _).size) (by
    rcases mem_cons.1 hk with rfl|hk
    .exact uh HDn
    .exact uh YY k hk))
   have qf:dT w4 A' t av' ov':=((uh uB).ff.alloc (.cells (Gs A A') 202)).of_eq (λk hk=>aS.blk k (((uh uB).ff.alloc _).lt k hk) (uh HNt k hk));have HSQ:=ab hsq;have mP:=ab kU;have SO:=ab qf;clear hsq aS mp kU qf HI uB;cases om:BX s t [0,1,2,3,4] (replicate 24 none) with
   |none =>
    rw[om]at HE HSQ;have vJ:Hid (R=false):=ab (uh HE);clear HSQ HE om;go_wp2_with fail
    go_ret;exact⟨aB (uh vJ).symm,(uh Pi).trans ((uh xu).mono (uh Pi).size)⟩
   |some an =>
    rw[om]at HE;have vJ:Hid (R=(Y8 s t an 128).1):=ab (uh HE);have f0:=(uh mP).fo;have c6:=(uh mP).ff.c6;have OR:Se w4 W.heap.size A A' an s t av ov av' ov' 128:=⟨uh HSQ an om,(uh mP).ff,uh SO,uh YY,uh HNt⟩;have gG:=(uh HT).ok.owLen;have anU:=(uh HT').ok.owLen;have BO:=ab (KO OR (uh mP).ff.ow (λk hk=>uh YY k (by simp[aG,hk])) (by omega) (by omega) (uh HT').ok.ow (uh HT').ok.ap);obtain⟨oa,oc,fx,-,-⟩:=aj (uh mP).ff.ow;subst fx;clear OR HSQ om HE;go_wp2_with fail
    refine(uh BO).mono ?_;rintro e w5 ⟨rfl,v5,ov5,pv5,-,oO,-⟩;have j9:Hid (Below W.heap.size W w5):=ab ⟨oO.os.trans (uh xu).os,oO.tape.trans (uh xu).tape,oO.output.trans (uh xu).output,zq3 (uh xu).size oO.size,λk hk=>(oO.block k (zq6 hk (uh xu).size) (by simp;omega)).trans ((uh xu).block k hk)⟩;clear oO BO;go_wp2_with fail
    go_ret;exact⟨aB (by rw[uh vJ];rfl),(uh Pi).trans ((uh j9).mono (uh Pi).size)⟩
end
theorem MG(w:World)(f:CF):∃M,M=cR (Cj f)/\M.length=24/\(w.alloc (.cells (cR (replicate 24 false)).toArray 240)).there w.heap.size 0 M.toArray.size/\(prog.info? 240).map (·.size)=some M.toArray.size/\M.toArray.all (·.oneCell')=true /\
  Ob ((w.alloc (.cells (cR (replicate 24 false)).toArray 240)).setCells w.heap.size 0 M) 240 24 w.heap.size (cR (Cj f))/\Below w.heap.size w ((w.alloc (.cells (cR (replicate 24 false)).toArray 240)).setCells w.heap.size 0 M):=by
 have et:(cR (Cj f)).length=24:=by simp[cR,Cj]
 have hX:=xQ w;refine⟨cR (Cj f),rfl,et,?_,?_,?_,?_,?_⟩
 .intro j hj;rw[size_toArray,et]at hj;obtain⟨⟨u,hu⟩,hz⟩:=hX.some (j:=j) hj;rw[Nat.zero_add];exact⟨by rw[hu];rfl,hz⟩
 .rw[size_toArray,et];exact infoB24
 .exact all_oneCell_toArray (by
   intro v hv;obtain⟨o,_,rfl⟩:=mem_map.1 hv;rfl)
 .have h5:=Ob.setCells (cR (Cj f)) 0 hX;have Il:=ma (cR (Cj f)) [] (cR (replicate 24 false)) [] (by rw[et];rfl);simp only[nil_append,append_nil,length_nil]at Il;rw[Il]at h5;exact h5
 .have KZ:∀(vs:List Value) (o:Nat) (x:World),Below w.heap.size w x->Below w.heap.size w (x.setCells w.heap.size o vs):=by
   intro vs;induction vs with
   |nil=>intro o x h;exact h
   |cons v r ih=>intro o x h;exact ih (o+1) _ (h.setCell (zq4 _) v)
  exact KZ _ 0 _ (ah w _)
theorem yZ(f:CF){c:Nat}(hc:c<24):(Cj f).getD c false=decide (c∈nX f):=by
 unfold Cj;rw[getD_eq_getElem?_getD,getElem?_map,getElem?_range hc];rfl
theorem y7(f:CF):(Cj f).length=24:=by simp[Cj]
def zK(f:CF)(k:Nat):List Nat:=(range k).filter (λi=>!decide ((owA f i).l∈nX f))
theorem MN(f:CF)(k:Nat):zK f (k+1)=zK f k++(if (owA f k).l∈nX f then [] else [k]):=by
 unfold zK;rw[range_succ,filter_append];congr 1;by_cases h:(owA f k).l∈nX f <;> simp[h]
theorem Rp(f:CF)(k:Nat):(zK f k).length<=k:=by
 unfold zK;exact zq3 (length_filter_le _ _) (by simp)
section
variable {w:World} {A:Nat} {f:CF} {av ov:Value}
theorem tC(h:dT w A f av ov)(hO:au f):Calls prog 200 #[.pointer (some ⟨A,0,none⟩)] w λe w'=>∃v,e=.returned v/\w'.ownsRow w.heap.size 3 1 v (fA f).length (qp (fA f))/\Below w.heap.size w w':=by
 obtain⟨i0,jN,fW,fy,fJ⟩:=info_parts infoInt;have gG:=hO.owLen;have BT:=ab (l7 h hO);have H:=ab h;have HO:=ab hO;clear h hO;go_enter func200,ntmps200;go_wp2_with fail
 refine(uh BT).mono ?_;rintro e w1 ⟨rfl,bB⟩;obtain⟨M,hM,et,zD,bX,Au,zC,cn⟩:=MG w1 f;rw[<-hM];have zO:=ab zD;have dJ:=ab bX;have OI:=ab Au;obtain⟨X,fV⟩:∃X,X=w1.heap.size:=⟨_,rfl⟩;obtain⟨W2,iA⟩:∃W2,W2=(w1.alloc (.cells (cR (replicate 24 false)).toArray 240)).setCells w1.heap.size 0 M:=⟨_,rfl⟩;rw[<-iA]at zC cn;rw[<-fV]at zC;have aR:=bB.trans (cn.mono bB.size);have Pw:=ab zC;have dS:=ab aR;have HXw:Hid (w.heap.size<=X):=ab (by rw[fV];exact bB.size);clear zD bX Au zC cn bB aR hM BT;simp only[cR,replicate,map_cons,map_nil]at iA;go_upto_region 2 with(refine wpList_store_mid rfl 240 (.tmp 3) (.tmp 7) rfl _ 0 M.toArray rfl rfl (uh zO) (uh dJ) (uh OI) ?_);rw[<-iA,<-fV];clear iA fV zO dJ OI et;have ss:Hid ((W2.alloc (.cells #[] 3)).ownsRow w.heap.size 3 1 (.slice (some ⟨W2.heap.size,0,none⟩) 0 0) (zK f 0).length (qp (zK f 0))/\Below W2.heap.size W2 (W2.alloc (.cells #[] 3))):=ab ⟨dB (ownsRow_lit (base:=W2.heap.size) (e:=3) (size:=1) W2 #[] 0 (zq4 _) (by simp[maxLen]) rfl) (uh dS).size,ah W2 _⟩;go_wp2_with fail
 go_loopg [4,5] f.ow.length (λgn lv iv wx=>∃(k:Nat),k+gn=f.ow.length/\iv=.int .i64 k/\Hid (wx.ownsRow w.heap.size 3 1 lv (zK f k).length (qp (zK f k))/\Below W2.heap.size W2 wx/\∀j,lv.ownBlock=some j->W2.heap.size<=j))
 case atStart=>exact⟨0,by omega,rfl,ab ⟨(uh ss).1,(uh ss).2,λj hj=>by simp only[Value.ownBlock,Option.some.injEq]at hj;omega⟩⟩
 case round =>
  clear ss;obtain⟨k,f7,rfl,hI⟩:=hrel;obtain⟨G,hG⟩:∃G,G=gk:=⟨_,rfl⟩;obtain⟨la,lc,jO,-,-⟩:=aj (uh hI).1;subst jO;have hF:=((uh H).below (uh dS)).below (uh hI).2.1;have qO:=(uh Pw).of_eq (w':=wr) ((uh hI).2.1.block X (ownsRow.lt (uh Pw) X rfl).2);have c6:=hF.c6;obtain⟨oa,oc,fx,-,-⟩:=aj hF.ow;subst fx;by_cases ar:k<f.ow.length
  .have hd:decide ((k:Int)<(f.ow.length:Int))=true:=(by simp;omega);obtain⟨go,gc,mT,-,-⟩:=aD hF.ow ar;simp only[Value.slice.injEq,true_and]at mT;obtain⟨rfl,rfl⟩:=mT;obtain⟨-,y1,-⟩:=aA hF.ow ar;have lr:=((uh HO).ow _ (dl ar)).1;have aS:=MN f k;have hoe:owA f k=f.ow.getD k aE:=rfl;rw[hoe]at aS;obtain⟨p,hp⟩:∃p,p=f.ow.getD k aE:=⟨_,rfl⟩;rw[<-hp]at y1 lr aS;have d1:=(ownsRow.cellAt qO p.l (by omega)).trans (eG (by rw[y7];exact lr));rw[yZ f lr]at d1;have i1:(0:Int)<=(k:Int):=(by omega);have i2:(k:Int)<(f.ow.length:Int):=(by omega);have i3:(p.l:Int)<24:=(by omega);have db:=Rp f k;by_cases hm:p.l∈nX f
   .rw[show decide (p.l∈nX f)=true by simpa using hm]at d1;rw[if_pos hm,append_nil]at aS;have HN:Hid (wr.ownsRow w.heap.size 3 1 (.slice la (zK f k).length lc) (zK f (k+1)).length (qp (zK f (k+1)))/\Below W2.heap.size W2 wr/\∀j,(Value.slice la (zK f k).length lc).ownBlock=some j->W2.heap.size<=j):=ab (by rw[aS];exact uh hI);clear hF qO hp aS hoe hm hI;go_wp2_with fail
    go_roundg (G-1)
    case rel=>exact⟨k+1,by omega,by go_num,HN⟩
    case measure=>omega
   .rw[show decide (p.l∈nX f)=false by simpa using hm]at d1;rw[if_neg hm]at aS;have HR:=ab (uh hI).1;have vI:=ab (uh hI).2;have cI:=ab aS;have aoc:=(uh dS).size;have an7:=(uh hI).2.1.size;obtain⟨L,hL⟩:∃L,L=zK f k:=⟨_,rfl⟩;rw[<-hL]at HR vI cI db hI ⊢;clear hF qO hp aS hoe hm hI hL;go_wp2_with (at_builtin;refine aQ _ rfl (.tmp 29) (.tmp 31) 29 rfl w.heap.size 3 i0 _ 1 8 underlying29 jN fW fy fJ rfl (by decide) _ L.length (qp L) rfl ((uh HR).alloc _) ⟨_,0,none⟩ 1 [.int .i64 (k:Int)] rfl rfl (aM _ _ (by simp) [.int .i64 (k:Int)] _) (by intro u hu;simp only[mem_singleton]at hu;subst hu;rfl) (by omega) (by omega) (by simp;omega) ?_)
    intro g4 cap4 w4 gI dM iL;have HN:Hid (w4.ownsRow w.heap.size 3 1 (.slice (some ⟨g4,0,none⟩) (L.length+1) cap4) (zK f (k+1)).length (qp (zK f (k+1)))/\Below W2.heap.size W2 w4/\∀j,(Value.slice (some ⟨g4,0,none⟩) (L.length+1) cap4).ownBlock=some j->W2.heap.size<=j):=ab ⟨by
     rw[uh cI,length_append,length_singleton];show w4.ownsRow _ _ _ _ _ (List.map _ (L++[k]));rw[map_append];exact gI,by
     have hb:=(uh vI).1.alloc (uh vI).1.size (.cells #[.int .i64 (k:Int)] 3);exact hb.grown dM hb.size (λq hq=>(uh vI).2 q hq),λj hj=>by
     have e:j=g4:=(by simpa[Value.ownBlock,eq_comm] using hj);subst e;rcases iL with q|q
     .exact(uh vI).2 j q.symm
     .omega⟩
    clear gI dM iL HR vI;go_wp2_with fail
    go_roundg (G-1)
    case rel=>exact⟨k+1,by omega,by go_num,HN⟩
    case measure=>omega
  .have hd:decide ((k:Int)<(f.ow.length:Int))=false:=(by simp;omega);have jl:zK f k=fA f:=(by unfold zK fA;rw[show k=f.ow.length by omega]);rw[jl]at hI ⊢;clear jl hF qO;go_wp2_with fail
   go_ret;exact⟨_,rfl,(uh hI).1,(uh dS).trans ((uh hI).2.1.mono (uh dS).size)⟩
end
section
variable {w:World} {A:Nat} {f:CF} {av ov:Value}
theorem IU(h:dT w A f av ov)(hO:au f)(ha:f.ap.length<=40000):Calls prog 233 #[.pointer (some ⟨A,0,none⟩)] w λe w'=>∃A',e=.returned (.pointer (some ⟨A',0,none⟩))/\GN w (SF f) A' w':=by
 have gG:=hO.owLen;have BT:=ab (l7 h hO);have H:=ab h;have HO:=ab hO;clear h hO;go_enter func233,ntmps233;go_wp2_with fail
 refine(uh BT).mono ?_;rintro e w1 ⟨rfl,bB⟩;obtain⟨M,hM,et,zD,bX,Au,zC,cn⟩:=MG w1 f;rw[<-hM];have zO:=ab zD;have dJ:=ab bX;have OI:=ab Au;obtain⟨X,fV⟩:∃X,X=w1.heap.size:=⟨_,rfl⟩;obtain⟨W2,iA⟩:∃W2,W2=(w1.alloc (.cells (cR (replicate 24 false)).toArray 240)).setCells w1.heap.size 0 M:=⟨_,rfl⟩;rw[<-iA]at zC cn;rw[<-fV]at zC;have aR:=bB.trans (cn.mono bB.size);have Pw:=ab zC;have dS:=ab aR;have oj:=(uh H).below aR;have jE:=ab (cD oj (uh HO).c5 ha (zq3 gG (by omega)));have uZ:=ab oj;clear zD bX Au zC cn bB aR hM BT oj;simp only[cR,replicate,map_cons,map_nil]at iA;go_upto_region 2 with(refine wpList_store_mid rfl 240 (.tmp 3) (.tmp 8) rfl _ 0 M.toArray rfl rfl (uh zO) (uh dJ) (uh OI) ?_);rw[<-iA,<-fV];clear iA fV zO dJ OI et;go_wp2_with fail
 refine(uh jE).mono ?_;rintro e w3 ⟨A3,rfl,zB⟩;obtain⟨av3,ov3,lK⟩:=zB.frf
 -- its owners are dropped
 have bV:=ah w3 (.cells #[] 182);have Mn:=ownsRow_lit (base:=w3.heap.size) (e:=182) (size:=3) w3 #[] 0 (zq4 _) (by simp[maxLen]) rfl;have E8:aq ov3.ownBlock.toList w3 (Value.slice (some ⟨w3.heap.size,0,none⟩) 0 0).ownBlock.toList (w3.alloc (.cells #[] 182)):=(aq.ofBw (F:=ov3.ownBlock.toList) bV).foots (λj hj=>zq1 (Mn.lt j (by simpa using hj)).1);obtain⟨qf,el⟩:=lK.fm.newOv (ow':=[]) E8 (v':=.slice (some ⟨w3.heap.size,0,none⟩) 0 0) (λj hj=>by simpa using hj) (dB Mn (zq5 _));obtain⟨W4,vm⟩:∃W4,W4=(w3.alloc (.cells #[] 182)).setCell ⟨A3,6,none⟩ (.slice (some ⟨w3.heap.size,0,none⟩) 0 0):=⟨_,rfl⟩;rw[<-vm]at qf el;have x9:=lK.step (x':=⟨A3,{ f with ow:=[] },av3,.slice (some ⟨w3.heap.size,0,none⟩) 0 0⟩) qf el;have e6:=(lK.fm.below bV).is.c6;have z6:=ownsRow.frozenAt (lK.fm.below bV).is.ob 6;obtain⟨sv,hsv⟩:∃sv,sv=Value.slice (some ⟨w3.heap.size,0,none⟩) 0 0:=⟨_,rfl⟩;rw[<-hsv]at x9;have cd:Hid (Js W2 W4 ⟨A3,{ f with ow:=(f.ow.take 0).filter (λp=>decide (p.l∈nX f)) },av3,sv⟩):=ab x9;have c6:=((uh uZ).below x9.bw).c6;obtain⟨oa,oc,fx,-,-⟩:=aj (uh uZ).ow;subst fx;clear zB lK bV Mn E8 qf el x9 hsv jE;go_upto_region 4 with fail;rw[<-vm];clear vm e6 z6;go_wp2_with fail
 go_loopg [20] f.ow.length (λgn iv wx=>∃(m:Nat) (ow5:Value),m+gn=f.ow.length/\iv=.int .i64 m/\Hid (Js W2 wx ⟨A3,{ f with ow:=(f.ow.take m).filter (λp=>decide (p.l∈nX f)) },av3,ow5⟩))
 case atStart=>exact⟨0,sv,by omega,rfl,cd⟩
 case round =>
  clear cd c6;obtain⟨m,ow5,hmn,rfl,hI⟩:=hrel;obtain⟨G,hG⟩:∃G,G=gk:=⟨_,rfl⟩;have hF:=(uh uZ).below (uh hI).bw;have kh:((f.ow.take m).filter (λp=>decide (p.l∈nX f))).length<=24:=zq3 (length_filter_le _ _) (by rw[length_take];omega);by_cases ar:m<f.ow.length
  .have hd:decide ((m:Int)<(f.ow.length:Int))=true:=(by simp;omega);obtain⟨go,gc,mT,-,-⟩:=aD hF.ow ar;simp only[Value.slice.injEq,true_and]at mT;obtain⟨rfl,rfl⟩:=mT;obtain⟨y0,y1,y2⟩:=aA hF.ow ar;have lr:=((uh HO).ow _ (dl ar)).1;have aS:=wf (P:=λp=>decide (p.l∈nX f)) ar;obtain⟨p,hp⟩:∃p,p=f.ow.getD m aE:=⟨_,rfl⟩;rw[<-hp]at y0 y1 y2 lr aS;obtain⟨W5,qK⟩:∃W5,W5=wr.alloc (.cells #[Value.int .i64 p.k,.int .i64 p.l,.int .i64 p.r] 182):=⟨_,rfl⟩;have bV:Below wr.heap.size wr W5:=(by rw[qK];exact ah wr _);have lJ:Bk W5 wr.heap.size 182 [Value.int .i64 p.k,.int .i64 p.l,.int .i64 p.r]:=(by rw[qK];exact Bk.new wr _ _);obtain⟨Y,uG⟩:∃Y,Y=wr.heap.size:=⟨_,rfl⟩;rw[<-uG]at lJ;have b0:=lJ.cell 0 rfl;have b1:=lJ.cell 1 rfl;have b2:=lJ.cell 2 rfl;have qg:=(uh hI).below bV;have qO:=(uh Pw).of_eq (w':=W5) (qg.bw.block X (ownsRow.lt (uh Pw) X rfl).2);have d1:=(ownsRow.cellAt qO p.l (by omega)).trans (eG (by rw[y7];exact lr));rw[yZ f lr]at d1;have i1:(0:Int)<=(m:Int):=(by omega);have i2:(m:Int)<(f.ow.length:Int):=(by omega);have i3:(p.l:Int)<24:=(by omega);have H5:=ab qg;by_cases hm:p.l∈nX f
   .rw[show decide (p.l∈nX f)=true by simpa using hm]at d1 aS;have vK:=ab (pf qg.fm p.k p.l p.r (zq3 kh (by omega)));have cI:=ab aS;clear hF hp aS bV lJ qg qO hm hI kh;go_upto_region 7 with fail;rw[<-qK,<-uG];clear qK uG;go_wp2_with fail
    refine(uh vK).mono ?_;rintro e w6 ⟨rfl,ov6,Qp,Hp⟩;have HN:Hid (Js W2 w6 ⟨A3,{ f with ow:=(f.ow.take (m+1)).filter (λp=>decide (p.l∈nX f)) },av3,ov6⟩):=ab ((uh H5).step (by rw[uh cI];exact Qp) Hp);clear Qp Hp vK H5;go_wp2_with fail
    go_roundg (G-1)
    case rel=>exact⟨m+1,ov6,by omega,by go_num,HN⟩
    case measure=>omega
   .rw[show decide (p.l∈nX f)=false by simpa using hm]at d1 aS;have HN:Hid (Js W2 W5 ⟨A3,{ f with ow:=(f.ow.take (m+1)).filter (λp=>decide (p.l∈nX f)) },av3,ow5⟩):=ab (by rw[aS];simpa using qg);clear hF hp aS bV lJ qg qO hm hI kh H5;go_upto_region 7 with fail;rw[<-qK,<-uG];clear qK uG;go_wp2_with fail
    go_roundg (G-1)
    case rel=>exact⟨m+1,ow5,by omega,by go_num,HN⟩
    case measure=>omega
  .have hd:decide ((m:Int)<(f.ow.length:Int))=false:=(by simp;omega);have hte:f.ow.take m=f.ow:=take_of_length_le (by omega);rw[hte]at hI kh;have hOg:au { f with ow:=f.ow.filter (λp=>decide (p.l∈nX f)) }:=au.mk' (uh HO).c5 (uh HO).cl' (λp hp=>(uh HO).ow p (mem_filter.1 hp).1) (uh HO).ap ((uh HO).lf.sublist (filter_sublist.map _)) (uh HO).kd;have Eg:=ab (j6 (uh hI).fm hOg (zq3 ha (by omega)));clear hte hOg hF kh;go_wp2_with fail
   refine(uh Eg).mono ?_;rintro e w7 ⟨rfl,av7,ov7,Qq,B4⟩;have ti:=(uh hI).step (x':=⟨A3,SF f,av7,ov7⟩) Qq B4;have HN:Hid (GN w (SF f) A3 w7):=ab ⟨av7,ov7,ti.fm,λk hk=>zq3 (uh dS).size (ti.ge k hk),(uh dS).trans (ti.bw.mono (uh dS).size)⟩;clear Qq B4 ti Eg;go_wp2_with fail
   go_ret;exact⟨A3,rfl,uh HN⟩
end
section
variable {w:World} {A:Nat} {f:CF} {av ov:Value} {B:Nat} {v:Value} {L:List FE}
theorem It(h:dT w A f av ov)(hf:Td f)(hL:Fl w B v L)(hT:∀x∈L,Td x.f):Calls prog 256 #[v,.pointer (some ⟨A,0,none⟩)] w λe w'=>e=.returned (.bool (XA (L.map (·.f)) f))/\Below w.heap.size w w':=by
 obtain⟨R,hR⟩:∃R,R=XA (L.map (·.f)) f:=⟨_,rfl⟩;rw[<-hR];have HR:=ab hR;obtain⟨la,lc,jO,B9,ye⟩:=aj hL.row;subst jO;have H:=ab h;have HL:=ab hL;have HTf:=ab hf;have HT:=ab hT;have cd:Hid (Below w.heap.size w w/\∀i,i<0->∀x,L[i]?=some x->R4 f x.f=false):=ab ⟨Below.refl _ _,λi hi=>by omega⟩;clear h hf hL hT hR;go_enter func256,ntmps256;go_wp2_with fail
 go_loopg [9] L.length (λgn iv wx=>∃(k:Nat),k+gn=L.length/\iv=.int .i64 k/\Hid (Below w.heap.size w wx/\∀i,i<k->∀x,L[i]?=some x->R4 f x.f=false))
 case atStart=>exact⟨0,by omega,rfl,cd⟩
 case round =>
  clear cd;obtain⟨k,f7,rfl,hI⟩:=hrel;obtain⟨G,hG⟩:∃G,G=gk:=⟨_,rfl⟩;by_cases ar:k<L.length
  .have hd:decide ((k:Int)<(L.length:Int))=true:=(by simp;omega);have VU:=(uh HL).below (uh hI).1;obtain⟨g2,cap2,cO,aw⟩:=VU.pend.cell ar;simp only[Value.slice.injEq,true_and]at cO;obtain⟨rfl,rfl⟩:=cO;have hx:=VU.fm _ (getElem_mem ar);have htx:=uh HT _ (getElem_mem ar);have hg:L[k]?=some L[k]:=getElem?_eq_getElem ar;obtain⟨x,zI⟩:∃x,x=L[k]:=⟨_,rfl⟩;rw[<-zI]at aw hx htx hg;have yo:x.p=.pointer (some ⟨x.A,0,none⟩):=rfl;rw[yo]at aw;have Ee:=ab (NP ((uh H).below (uh hI).1) hx.is (zq3 (uh HTf).ln (by omega)) (zq3 (uh HTf).ok.owLen (by omega)) (zq3 htx.ln (by omega)) (zq3 htx.ok.owLen (by omega)));have HG:=ab hg;have i1:(0:Int)<=(k:Int):=(by omega);have i2:(k:Int)<(L.length:Int):=(by omega);clear VU hx htx hg zI yo;go_wp2_with fail
   refine(uh Ee).mono ?_;rintro e w3 ⟨rfl,cU⟩;have qY:=ab ((uh hI).1.trans (cU.mono (uh hI).1.size));clear cU Ee;cases Dn:R4 f x.f
   .go_wp2_with fail
    go_roundg (G-1)
    case rel=>exact⟨k+1,by omega,by go_num,ab ⟨uh qY,λi hi y hy=>by
     by_cases e:i=k
     .rw[e,uh HG]at hy;injection hy with hy;rw[<-hy];exact Dn
     .exact(uh hI).2 i (by omega) y hy⟩⟩
    case measure=>omega
   .have HE:Hid (R=false):=ab (by
     rw[uh HR];unfold XA;have:(L.map (·.f)).any (λg=>R4 f g)=true:=by
      rw[any_eq_true];exact⟨x.f,mem_map_of_mem (mem_of_getElem? (uh HG)),Dn⟩
     rw[this];rfl)
    clear Dn;go_wp2_with fail
    go_ret;exact⟨aB (uh HE).symm,uh qY⟩
  .have hd:decide ((k:Int)<(L.length:Int))=false:=(by simp;omega);have HE:Hid (R=true):=ab (by
    rw[uh HR];unfold XA;have:(L.map (·.f)).any (λg=>R4 f g)=false:=by
     rw[any_eq_false];intro g hg;obtain⟨x,hx,rfl⟩:=mem_map.1 hg;obtain⟨i,hi,rfl⟩:=mem_iff_getElem.1 hx;rw[(uh hI).2 i (by omega) _ (getElem?_eq_getElem hi)];simp
    rw[this];rfl)
   go_wp2_with fail
   go_ret;exact⟨aB (uh HE).symm,(uh hI).1⟩
end
def ou(c0 hv:Value)(lp:Bool)(kv wv:Value)(bd:Bool)(lf lo:Int)(fu:Bool):List Value:=[c0,hv,.bool lp,kv,wv,.bool bd,.int .i64 lf,.int .i64 lo,.bool fu]
section
variable {w:World} {S:Nat} {c0 hv kv wv:Value} {lp bd fu:Bool} {lf lo:Int}
theorem xn(h:Bk w S 229 (ou c0 hv lp kv wv bd lf lo fu)):Calls prog 232 #[.pointer (some ⟨S,0,none⟩)] w λe w'=>e=.returned (.tuple #[])/\Bk w' S 229 (ou c0 hv lp kv wv bd (wrap64 (lf-1)) lo (fu||(decide (wrap64 (lf-1)<0)&&bd)))/\aq [S] w [S] w':=by
 have c6:=h.cell 6 rfl;have z6:=h.frz 6;have hq:IntKind.i64.wrap (lf-1)=wrap64 (lf-1):=by rw[IntKind.wrap_i64,wrap64]
 obtain⟨l',hl'⟩:∃l',l'=wrap64 (lf-1):=⟨_,rfl⟩;rw[<-hl']at hq ⊢;have h2:=h.set 6 (.int .i64 l');have d6:=h2.cell 6 rfl;have d5:=h2.cell 5 rfl;have d8:=h2.cell 8 rfl;have z8:=h2.frz 8;have dF:aq [S] w [S] (w.setCell ⟨S,6,none⟩ (.int .i64 l')):=(aq.refl _ _).setCell (p:=⟨S,6,none⟩) (zq0 (by simp)) _;have fe:aq [S] w [S] ((w.setCell ⟨S,6,none⟩ (.int .i64 l')).setCell ⟨S,8,none⟩ (.bool true)):=dF.setCell (p:=⟨S,8,none⟩) (zq0 (by simp)) _;have H2:=ab h2;have H3:=ab (h2.set 8 (.bool true));have cj:=ab dF;have gW:=ab fe;clear h h2 dF fe hl';by_cases hn:l'<0
 .have d0:decide (l'<(0:Int))=true:=by simpa using hn
  cases bd
  .have HE:Hid ((fu||(decide (l'<0)&&false))=fu):=ab (by simp);clear hn;go_enter func232,ntmps232;go_wp2_with fail
   go_end0
   exact⟨rfl,by rw[uh HE];exact uh H2,uh cj⟩
  .have HE:Hid ((fu||(decide (l'<0)&&true))=true):=ab (by simp[hn]);clear hn;go_enter func232,ntmps232;go_wp2_with fail
   go_end0
   exact⟨rfl,by rw[uh HE];exact uh H3,uh gW⟩
 .have d0:decide (l'<(0:Int))=false:=by simpa using hn
  have HE:Hid ((fu||(decide (l'<0)&&bd))=fu):=ab (by rw[d0];simp);clear hn;go_enter func232,ntmps232;go_wp2_with fail
  go_end0
  exact⟨rfl,by rw[uh HE];exact uh H2,uh cj⟩
theorem MO(h:Bk w S 229 (ou c0 hv lp kv wv bd lf lo fu))(n:Nat):Calls prog 230 #[.pointer (some ⟨S,0,none⟩),.int .i64 n] w λe w'=>e=.returned (.tuple #[])/\Bk w' S 229 (ou c0 hv lp kv wv bd lf (wrap64 (lo-n)) (fu||(decide (wrap64 (lo-n)<0)&&bd)))/\aq [S] w [S] w':=by
 have c6:=h.cell 7 rfl;have z6:=h.frz 7;have hq:IntKind.i64.wrap (lo-(n:Int))=wrap64 (lo-n):=by rw[IntKind.wrap_i64,wrap64]
 obtain⟨l',hl'⟩:∃l',l'=wrap64 (lo-n):=⟨_,rfl⟩;rw[<-hl']at hq ⊢;have h2:=h.set 7 (.int .i64 l');have d6:=h2.cell 7 rfl;have d5:=h2.cell 5 rfl;have d8:=h2.cell 8 rfl;have z8:=h2.frz 8;have dF:aq [S] w [S] (w.setCell ⟨S,7,none⟩ (.int .i64 l')):=(aq.refl _ _).setCell (p:=⟨S,7,none⟩) (zq0 (by simp)) _;have fe:aq [S] w [S] ((w.setCell ⟨S,7,none⟩ (.int .i64 l')).setCell ⟨S,8,none⟩ (.bool true)):=dF.setCell (p:=⟨S,8,none⟩) (zq0 (by simp)) _;have H2:=ab h2;have H3:=ab (h2.set 8 (.bool true));have cj:=ab dF;have gW:=ab fe;clear h h2 dF fe hl';by_cases hn:l'<0
 .have d0:decide (l'<(0:Int))=true:=by simpa using hn
  cases bd
  .have HE:Hid ((fu||(decide (l'<0)&&false))=fu):=ab (by simp);clear hn;go_enter func230,ntmps230;go_wp2_with fail
   go_end0
   exact⟨rfl,by rw[uh HE];exact uh H2,uh cj⟩
  .have HE:Hid ((fu||(decide (l'<0)&&true))=true):=ab (by simp[hn]);clear hn;go_enter func230,ntmps230;go_wp2_with fail
   go_end0
   exact⟨rfl,by rw[uh HE];exact uh H3,uh gW⟩
 .have d0:decide (l'<(0:Int))=false:=by simpa using hn
  have HE:Hid ((fu||(decide (l'<0)&&bd))=fu):=ab (by rw[d0];simp);clear hn;go_enter func230,ntmps230;go_wp2_with fail
  go_end0
  exact⟨rfl,by rw[uh HE];exact uh H2,uh cj⟩
end
theorem lF{c:Cd}{r:List CF × Sr}{g:CF}(h:(k8 c r g).2.ok=true):r.2.ok=true/\(XA r.1 (bR g)=true->r.1.length<=gh):=by
 unfold k8 at h;split at h
 .have h1:(r.2.ok&&decide (r.1.length<=gh))=true:=h;rw[Bool.and_eq_true,decide_eq_true_eq]at h1;exact⟨h1.1,λ_=>h1.2⟩
 .rename_i hn;exact⟨h,λe=>absurd e hn⟩
theorem eW{β:Type}(g:List CF × Sr->β->List CF × Sr)(hg:∀r b,(g r b).2.ok=true->r.2.ok=true):∀(l:List β) {r:List CF × Sr},(l.foldl g r).2.ok=true->r.2.ok=true
 |[],_,h=>h
 |b::l,r,h=>hg r b (eW g hg l h)
theorem sV{c:Cd}{f:CF}{i:Nat}(r:List CF × Sr)(a:Nat)(h:(mo c f i r a).2.ok=true):r.2.ok=true:=by
 unfold mo at h;split at h
 .exact eW (k8 c) (λr b h=>(lF h).1) _ h
 .exact h
structure Fn(w W:World)(B:Nat)(F0:List Nat)(S:Nat)(cs:List Value)(X:Nat)(f:CF)(v:Value)(L:List FE):Prop where
 fl:Fl W B v L
 bs:Bk W S 229 cs
 xb:Ob W 240 24 X (cR (Cj f))
 ns:∀k∈a9 v L,k≠S/\k≠X
 sx:S≠X
 st:aq F0 w (S::a9 v L) W
 s0:S∈F0
 bb:B<=W.heap.size
section
variable {w W W':World} {B S X:Nat} {F0:List Nat} {cs cs':List Value} {f:CF} {v:Value} {L:List FE}
theorem Fn.xl(h:Fn w W B F0 S cs X f v L):X<W.heap.size:=(ownsRow.lt h.xb X rfl).2
theorem Fn.below(h:Fn w W B F0 S cs X f v L)(hb:Below W.heap.size W W'):Fn w W' B F0 S cs X f v L :=
 ⟨h.fl.below hb,h.bs.below hb,h.xb.of_eq (hb.block X h.xl),h.ns,h.sx,⟨hb.os.trans h.st.os,hb.tape.trans h.st.tape,hb.output.trans h.st.output,zq3 h.st.size hb.size,λk hk hn=>(hb.block k (zq6 hk h.st.size)).trans (h.st.block k hk hn),h.st.foot⟩,h.s0,zq3 h.bb hb.size⟩
theorem Fn.spend(h:Fn w W B F0 S cs X f v L)(hb:Bk W' S 229 cs')(hs:aq [S] W [S] W'):Fn w W' B F0 S cs' X f v L:=by
 refine⟨h.fl.stp hs (λk hk hn=>(h.ns k hk).1 (by simpa using hn)),hb,h.xb.of_eq (hs.block X h.xl (by simpa using λe=>h.sx e.symm)),h.ns,h.sx,⟨hs.os.trans h.st.os,hs.tape.trans h.st.tape,hs.output.trans h.st.output,zq3 h.st.size hs.size,λk hk hn=>(hs.block k (zq6 hk h.st.size) (λe=>hn (by rw[mem_singleton]at e;rw[e];exact h.s0))).trans (h.st.block k hk hn),h.st.foot⟩,h.s0,zq3 h.bb hs.size⟩
theorem Fn.side{F F':List Nat}(h:Fn w W B F0 S cs X f v L)(hs:aq F W F' W')(hd:∀k∈F,k ∉ a9 v L/\k≠S/\k≠X/\w.heap.size<=k):Fn w W' B F0 S cs X f v L :=
 ⟨h.fl.stp hs (λk hk hn=>(hd k hn).1 hk),h.bs.stp hs (λhn=>(hd S hn).2.1 rfl),h.xb.of_eq (hs.block X h.xl (λhn=>(hd X hn).2.2.1 rfl)),h.ns,h.sx,⟨hs.os.trans h.st.os,hs.tape.trans h.st.tape,hs.output.trans h.st.output,zq3 h.st.size hs.size,λk hk hn=>(hs.block k (zq6 hk h.st.size) (λe=>by have:=(hd k e).2.2.2;omega)).trans (h.st.block k hk hn),h.st.foot⟩,h.s0,zq3 h.bb hs.size⟩
theorem Fn.app {g1 c1:Nat} {o:Obj} {x:FE} {W1:World} (h:Fn w W B F0 S cs X f v L) (hx:Fm W x.A x.f x.av x.ov) (hd:∀k∈x.bs,k ∉ a9 v L/\k≠S/\k≠X/\w.heap.size<=k/\B<=k)
  (aO:W1.ownsRow B 126 1 (.slice (some ⟨g1,0,none⟩) (L.length+1) c1) (L.length+1) (L.map FE.p++[x.p])) (hg:(W.alloc o).grownBy W1 v.ownBlock) (b7:some g1=v.ownBlock\/g1=(W.alloc o).heap.size) :
  Fn w W1 B F0 S cs X f (.slice (some ⟨g1,0,none⟩) (L.length+1) c1) (L++[x]):=by
 obtain⟨a1,a2,a3⟩:=h.fl.app hx (λk hk=>(hd k hk).2.2.2.2) (λk hk=>(hd k hk).1) h.bb aO hg b7;have hv:∀k∈v.ownBlock.toList,k∈a9 v L:=λk hk=>mem_append_left _ hk;refine⟨a1,h.bs.stp a2 (λhn=>(h.ns S (hv S hn)).1 rfl),h.xb.of_eq (a2.block X h.xl (λhn=>(h.ns X (hv X hn)).2 rfl)),λk hk=>?_,h.sx,?_,h.s0,zq3 h.bb a2.size⟩
 .rcases a3 k hk with q|q|q
  .exact h.ns k q
  .exact⟨(hd k q).2.1,(hd k q).2.2.1⟩
  .exact⟨λe=>by have:=h.bs.lt;omega,λe=>by have:=h.xl;omega⟩
 .have h2:=h.st;refine⟨a2.os.trans h2.os,a2.tape.trans h2.tape,a2.output.trans h2.output,zq3 h2.size a2.size,λk hk hn=>?_,λk hk=>?_⟩
  .rw[a2.block k (zq6 hk h2.size) (λhm=>?_)]
   .exact h2.block k hk hn
   .rcases h2.foot k (mem_cons_of_mem _ (hv k hm)) with q|q
    .exact hn q
    .omega
  .rcases mem_cons.1 hk with rfl|hk
   .exact h2.foot k (by simp)
   .rcases a3 k hk with q|q|q
    .exact h2.foot k (mem_cons_of_mem _ q)
    .exact zq1 (hd k q).2.2.2.1
    .exact zq1 (zq3 h2.size q)
end
theorem Xu{f g:CF}{a i:Nat}(h:g∈gO f a i):g.ap.length=f.ap.length:=by
 unfold gO at h;rcases mem_append.1 h with h|h
 .split at h
  .simp at h
  .rw[mem_singleton]at h;subst h;show(f.ap.map _).length=_;rw[length_map]
 .split at h
  .rw[mem_singleton]at h;subst h;rfl
  .simp at h
section
variable {w:World} {B S:Nat} {v:Value} {L:List FE} {c0 hv kv wv:Value} {lp:Bool} {lo:Int} {x:FE} {c:Cd} {s:Sr}
theorem Hc(hS:Bk w S 229 (ou c0 hv lp kv wv c.bd s.lf lo s.fu))(hL:Fl w B v L)(hT:∀y∈L,Td y.f)(hx:x∈L)(hSL:S ∉ a9 v L)(hB:B<=w.heap.size){i:Nat}(hi:i<x.f.ow.length)(bE:(ez c x.f (L.map (·.f),s) i).2.ok=true):
  Calls prog 234 #[.pointer (some ⟨S,0,none⟩),v,.pointer (some ⟨x.A,0,none⟩),.int .i64 i] w λe w'=>∃v' L',e=.returned v'/\Fl w' B v' (L++L')/\(∀y∈L',Td y.f)/\(L++L').map (·.f)=(ez c x.f (L.map (·.f),s) i).1/\Bk w' S 229 (ou c0 hv lp kv wv c.bd (ez c x.f (L.map (·.f),s) i).2.lf lo (ez c x.f (L.map (·.f),s) i).2.fu)/\S ∉ a9 v' (L++L')/\aq (S::a9 v L) w (S::a9 v' (L++L')) w':=by
 obtain⟨i0,jN,fW,fy,fJ⟩:=info_parts infoPF;obtain⟨R,hR⟩:∃R,R=ez c x.f (L.map (·.f),s) i:=⟨_,rfl⟩;rw[<-hR]at bE ⊢;have hxF:=hL.fm x hx;have hxT:=hT x hx;have gG:=hxT.ok.owLen;have BT:=ab (l7 hxF.is hxT.ok);obtain⟨va,vc,jO,-,-⟩:=aj hL.row;subst jO;have HL:=ab hL;have HS:=ab hS;have HX:=ab hx;have HXT:=ab hxT;have HT:=ab hT;have HSL:=ab hSL;have kQ:=ab bE;have HRR:=ab hR;have HXP:Hid (∀(W:World) (vv:Value) (E:List FE),Fl W B vv (L++E)->Fm W x.A x.f x.av x.ov):=ab (λW vv E hf=>hf.fm x (mem_append_left _ hx));obtain⟨xa,xf,xav,xov⟩:=x;simp only at hi BT HXT HXP gG hR HRR ⊢;clear hL hS hx hxF hxT hT hSL bE hR;go_enter func234,ntmps234;go_wp2_with fail
 refine(uh BT).mono ?_;rintro e w1 ⟨rfl,bB⟩;obtain⟨M,hM,et,zD,bX,Au,zC,cn⟩:=MG w1 xf;rw[<-hM];have zO:=ab zD;have dJ:=ab bX;have OI:=ab Au;obtain⟨X,fV⟩:∃X,X=w1.heap.size:=⟨_,rfl⟩;obtain⟨W2,iA⟩:∃W2,W2=(w1.alloc (.cells (cR (replicate 24 false)).toArray 240)).setCells w1.heap.size 0 M:=⟨_,rfl⟩;rw[<-iA]at zC cn;rw[<-fV]at zC;have aR:=bB.trans (cn.mono bB.size);have hFn:Fn w W2 B (S::a9 (.slice va L.length vc) L) S (ou c0 hv lp kv wv c.bd s.lf lo s.fu) X xf (.slice va L.length vc) (L++[]):=by
  rw[append_nil];have h1:=uh HL;have h2:=uh HS;refine⟨h1.below aR,h2.below aR,zC,λk hk=>⟨λe=>uh HSL (by rw[<-e];exact hk),λe=>?_⟩,λe=>?_,(aq.ofBw aR),by simp,zq3 hB aR.size⟩
  .have:=h1.lt k hk;have:=bB.size;omega
  .have:=h2.lt;have:=bB.size;omega
 have cd:Hid (Fn w W2 B (S::a9 (.slice va L.length vc) L) S (ou c0 hv lp kv wv c.bd s.lf lo s.fu) X xf (.slice va L.length vc) (L++[])/\w.heap.size<=X):=ab ⟨hFn,by rw[fV];exact bB.size⟩;clear zD bX Au zC cn bB aR hM BT hFn;simp only[cR,replicate,map_cons,map_nil]at iA;go_upto_region 2 with(refine wpList_store_mid rfl 240 (.tmp 9) (.tmp 14) rfl _ 0 M.toArray rfl rfl (uh zO) (uh dJ) (uh OI) ?_);rw[<-iA,<-fV];clear iA fV zO dJ OI et;go_wp2_with fail
 go_loopg [1,10] 24 (λgn cv iv wx=>∃(k:Nat) (E:List FE) (s':Sr),k+gn=24/\iv=.int .i64 k/\Hid (Fn w wx B (S::a9 (.slice va L.length vc) L) S (ou c0 hv lp kv wv c.bd s'.lf lo s'.fu) X xf cv (L++E)/\(∀y∈E,Td y.f)/\(List.range' k (24-k)).foldl (mo c xf i) ((L++E).map (·.f),s')=R/\w.heap.size<=X))
 case atStart=>exact⟨0,[],s,by omega,rfl,ab ⟨(uh cd).1,λy hy=>by simp at hy,by rw[append_nil,uh HRR];unfold ez;rw[range_eq_range'],(uh cd).2⟩⟩
 case round =>
  clear cd;obtain⟨k,E,s',f7,rfl,hI⟩:=hrel;obtain⟨G,hG⟩:∃G,G=gk:=⟨_,rfl⟩;obtain⟨la,lc,jO,-,-⟩:=aj (uh hI).1.fl.row;subst jO;by_cases ar:k<24
  .have hd:decide ((k:Int)<(24:Int))=true:=(by simp;omega);have ac2:List.range' k (24-k)=k::List.range' (k+1) (24-(k+1)):=(by rw[show 24-k=(24-(k+1))+1 by omega,range'_succ]);have ic:=(uh hI).2.2.1;rw[ac2,foldl_cons]at ic;have hF:=(uh HXP wr _ E (uh hI).1.fl);have d1:=(ownsRow.cellAt (uh hI).1.xb k (by omega)).trans (eG (by rw[y7];exact ar));rw[yZ xf ar]at d1;have x0:=hF.is.cls (i:=0) (by omega);unfold fX at x0;obtain⟨n0,qj⟩:∃n0,n0=xf.cl.getD 0 0:=⟨_,rfl⟩;rw[<-qj]at x0;have TJ:Y9 xf k=(decide (k∈nX xf)&&!decide (k=n0)&&!(er xf.ow k).isSome):=(by rw[qj];rfl);have lz:=ab (cB k hF.is);have i1:(0:Int)<=(k:Int):=(by omega);have i2:(k:Int)<(24:Int):=(by omega);have hsk:Y9 xf k=false->(List.range' (k+1) (24-(k+1))).foldl (mo c xf i) ((L++E).map (·.f),s')=R:=λe=>by
    have e2:mo c xf i ((L++E).map (·.f),s') k=((L++E).map (·.f),s'):=(by unfold mo;rw[if_neg (by rw[e];decide)]);rw[e2]at ic;exact ic
   have S5:Hid (Y9 xf k=false->Hid (Fn w wr B (S::a9 (.slice va L.length vc) L) S (ou c0 hv lp kv wv c.bd s'.lf lo s'.fu) X xf (.slice la (L++E).length lc) (L++E)/\(∀y∈E,Td y.f)/\(List.range' (k+1) (24-(k+1))).foldl (mo c xf i) ((L++E).map (·.f),s')=R/\w.heap.size<=X)):=ab (λe=>ab ⟨(uh hI).1,(uh hI).2.1,hsk e,(uh hI).2.2.2⟩);have Eb:=ab ic;have Cr:=ab TJ;clear ac2 ic hF qj TJ hsk;rw[length_append]at S5 ⊢;by_cases hm:k∈nX xf
   .rw[show decide (k∈nX xf)=true by simpa using hm]at d1 Cr;by_cases hc:k=n0
    .have d2:((k:Int)==(n0:Int))=true:=(by simp[hc]);have HN:=ab (uh S5 (by rw[uh Cr];simp[hc]));clear hm hc S5 hI;go_wp2_with fail
     go_roundg (G-1)
     case rel=>exact⟨k+1,E,s',by omega,by go_num,uh HN⟩
     case measure=>omega
    .have d2:((k:Int)==(n0:Int))=false:=(by simp;omega);have hg:=qt (er xf.ow k);cases hb:er xf.ow k with
     |some b0 =>
      rw[hb]at hg lz;have HN:=ab (uh S5 (by rw[uh Cr,hb];simp));clear hm hc S5 hI hb;go_wp2_with fail
      refine(uh lz).mono ?_;rintro e w3 ⟨rfl,rfl⟩;go_wp2_with fail
      go_roundg (G-1)
      case rel=>exact⟨k+1,E,s',by omega,by go_num,uh HN⟩
      case measure=>omega
     |none =>
      rw[hb]at hg lz;have hA:Y9 xf k=true:=(by rw[uh Cr,hb];simp[hc]);have hF:=(uh HXP wr _ E (uh hI).1.fl);have zr:=ab (Dw hF.is (uh HXT).ok (zq3 (uh HXT).ln (by omega)) ar hi);have HMO:=ab (FL (i:=i) (uh HXT).ok ar hb);have rQ:mo c xf i ((L++E).map (·.f),s') k=(gO xf k i).foldl (k8 c) ((L++E).map (·.f),s'):=(by unfold mo;rw[if_pos hA]);rw[rQ]at Eb;obtain⟨R1,ww⟩:∃R1,R1=(gO xf k i).foldl (k8 c) ((L++E).map (·.f),s'):=⟨_,rfl⟩;rw[<-ww]at Eb;have UL:=ab ww;have UK:Hid (R1.2.ok=true):=ab (by
       refine eW (mo c xf i) (λr b h=>sV r b h) (List.range' (k+1) (24-(k+1))) ?_;rw[uh Eb];exact uh kQ)
      have OO:=po xf k i;have HI:=ab (uh hI);clear hm hc S5 hI hb hA hF rQ ww;go_wp2_with fail
      refine(uh lz).mono ?_;rintro e w3 ⟨rfl,rfl⟩;go_wp2_with fail
      refine(uh zr).mono ?_;rintro e w4 ⟨v2,L2,rfl,AE,qN,mp⟩;have abh:=(uh HI).1.below mp;have hP4:=AE.pend;have TH:∀y∈lG v2 L2 0,y ∉ a9 (.slice la (L++E).length lc) (L++E)/\y≠S/\y≠X/\w.heap.size<=y/\B<=y:=λy hy=>by
       have h1:=hP4.geB y hy;exact⟨λhn=>by have h2:=(uh HI).1.fl.lt y hn;omega,λe=>by have h2:=(uh HI).1.bs.lt;omega,λe=>by have h2:=(uh HI).1.xl;omega,zq3 (uh HI).1.st.size h1,zq3 (uh HI).1.bb h1⟩
      obtain⟨B2,uE⟩:∃B2,B2=w3.heap.size:=⟨_,rfl⟩;rw[<-uE]at hP4;obtain⟨a2,c2,wE,-,-⟩:=aj hP4.row;subst wE;have Cs:=ab qN;have abp:L2.length<=2:=(by have:=congrArg List.length qN;rw[length_map]at this;omega);have mQ:Hid (Fn w w4 B (S::a9 (.slice va L.length vc) L) S (ou c0 hv lp kv wv c.bd s'.lf lo s'.fu) X xf (.slice la (L.length+E.length) lc) (L++E)/\(∀y∈E,Td y.f)/\fq w4 B2 (.slice a2 L2.length c2) L2 0/\(∀y∈lG (.slice a2 L2.length c2) L2 0,y ∉ a9 (.slice la (L.length+E.length) lc) (L++E)/\y≠S/\y≠X/\w.heap.size<=y/\B<=y)/\((gO xf k i).drop 0).foldl (k8 c) ((L++E).map (·.f),s')=R1/\w.heap.size<=X):=ab (by
       rw[<-length_append];exact⟨abh,(uh HI).2.1,hP4,TH,(uh UL).symm,(uh HI).2.2.2⟩)
      clear AE qN mp abh hP4 TH zr HI uE OO d1 x0;go_wp2_with fail
      go_loopg [1,43] L2.length (λgn cv iv wx=>∃(j:Nat) (Ea:List FE) (sa:Sr),j+gn=L2.length/\iv=.int .i64 j/\Hid (Fn w wx B (S::a9 (.slice va L.length vc) L) S (ou c0 hv lp kv wv c.bd sa.lf lo sa.fu) X xf cv (L++Ea)/\(∀y∈Ea,Td y.f)/\fq wx B2 (.slice a2 L2.length c2) L2 j/\(∀y∈lG (.slice a2 L2.length c2) L2 j,y ∉ a9 cv (L++Ea)/\y≠S/\y≠X/\w.heap.size<=y/\B<=y)/\((gO xf k i).drop j).foldl (k8 c) ((L++Ea).map (·.f),sa)=R1/\w.heap.size<=X))
      case atStart=>exact⟨0,E,s',by omega,rfl,mQ⟩
      case round =>
       clear mQ;obtain⟨j,Ea,sa,yc,rfl,hJ⟩:=hrel;obtain⟨G2,CZ⟩:∃G2,G2=gk:=⟨_,rfl⟩;obtain⟨lb,ld,jO,-,-⟩:=aj (uh hJ).1.fl.row;subst jO;by_cases fC:j<L2.length
       .have jk:decide ((j:Int)<(L2.length:Int))=true:=(by simp;omega);obtain⟨g2,cap2,cO,aw⟩:=(uh hJ).2.2.1.cell fC;simp only[Value.slice.injEq,true_and]at cO;obtain⟨rfl,rfl⟩:=cO;obtain⟨hy,-,Lk,Li,Lj⟩:=(uh hJ).2.2.1.next fC;have qM:j<(gO xf k i).length:=(by rw[<-uh Cs,length_map];exact fC);have hfy:L2[j].f=(gO xf k i)[j]:=by
         have:=congrArg (λl=>l[j]?) (uh Cs);simp only[getElem?_map,getElem?_eq_getElem fC,getElem?_eq_getElem qM,Option.map_some,Option.some.injEq]at this;exact this
        have nN:L2[j].f∈gO xf k i:=(by rw[hfy];exact getElem_mem qM);have hyO:=uh HMO _ nN;have hya:=Xu nN;have om:(gO xf k i).drop j=L2[j].f::(gO xf k i).drop (j+1):=(by rw[hfy];exact drop_eq_getElem_cons qM);have ic:=(uh hJ).2.2.2.2.1;rw[om,foldl_cons]at ic;have hokG:(k8 c ((L++Ea).map (·.f),sa) L2[j].f).2.ok=true:=eW (k8 c) (λr b h=>(lF h).1) ((gO xf k i).drop (j+1)) (by rw[ic];exact uh UK);have Ma:=(lF hokG).2;obtain⟨y,hye⟩:∃y,y=L2[j]:=⟨_,rfl⟩;rw[<-hye]at aw hy Li Lj hyO hya ic Ma;have hdy:∀q∈y.bs,q ∉ a9 (.slice lb (L++Ea).length ld) (L++Ea)/\q≠S/\q≠X/\w.heap.size<=q/\B<=q:=λq hq=>(uh hJ).2.2.2.1 q (Lj q hq);have Eg:=ab (j6 hy hyO (by rw[hya];exact zq3 (uh HXT).ln (by omega)));have Ff:y.p=.pointer (some ⟨y.A,0,none⟩):=rfl;rw[Ff]at aw;have HFo:=ab ic;have HMo:=ab Ma;have HPn:=ab Lk;have HPd:=ab Li;have YU:=ab hdy;have HYO:=ab hyO;have HJ:=ab (uh hJ);have k1:(0:Int)<=(j:Int):=(by omega);have k2:(j:Int)<(L2.length:Int):=(by omega);clear hy Lk Li Lj qM hfy nN hyO hya om ic hokG Ma hdy Ff hye hJ;rw[length_append]at YU HJ ⊢;go_wp2_with fail
        refine(uh Eg).mono ?_;rintro e w5 ⟨rfl,av5,ov5,At,eY⟩;have TW:∀q∈aG y.A av5 ov5,q ∉ a9 (.slice lb (L.length+Ea.length) ld) (L++Ea)/\q≠S/\q≠X/\w.heap.size<=q/\B<=q:=λq hq=>by
         rcases eY.foot q hq with p|p
         .exact uh YU q p
         .exact⟨λhn=>by have h2:=(uh HJ).1.fl.lt q hn;omega,λe=>by have h2:=(uh HJ).1.bs.lt;omega,λe=>by have h2:=(uh HJ).1.xl;omega,zq3 (uh HJ).1.st.size p,zq3 (uh HJ).1.bb p⟩
        have VP:=(uh HJ).1.side eY (λq hq=>⟨(uh YU q hq).1,(uh YU q hq).2.1,(uh YU q hq).2.2.1,(uh YU q hq).2.2.2.1⟩);have hP5:=(uh HPn).stp eY (λq hq hn=>(uh HPd q hq).2 hn);have Ty:∀q∈L++Ea,Td q.f:=λq hq=>by
         rcases mem_append.1 hq with h|h
         .exact uh HT q h
         .exact(uh HJ).2.1 q h
        have HIN:=ab (It At.is (uh HYO).tidy VP.fl Ty);have abC:∀q∈lG (.slice (some ⟨g2,0,none⟩) L2.length c2) L2 (j+1),(q ∉ a9 (.slice lb (L.length+Ea.length) ld) (L++Ea)/\q≠S/\q≠X/\w.heap.size<=q/\B<=q)/\q ∉ aG y.A av5 ov5:=λq hq=>⟨(uh HJ).2.2.2.1 q (uh HPd q hq).1,λhn=>by
         rcases eY.foot q hn with p|p
         .exact(uh HPd q hq).2 p
         .have:=(uh HPn).lt q hq;omega⟩
        have SP:=ab At;have aaa:=ab VP;have HP5:=ab hP5;have HSd:=ab TW;have Ct:=ab abC;clear At eY TW VP hP5 Ty abC Eg aw;go_wp2_with fail
        refine(uh HIN).mono ?_;rintro e w6 ⟨rfl,jx⟩;have Hk:=(uh aaa).below jx;have HP6:=ab ((uh HP5).below jx);have HF6:=ab ((uh SP).below jx);clear HIN aaa HP5 SP;cases aY:XA ((L++Ea).map (·.f)) (bR y.f)
        .have QJ:k8 c ((L++Ea).map (·.f),sa) y.f=((L++Ea).map (·.f),sa):=(by unfold k8;rw[if_neg (by rw[aY];decide)]);have HN:Hid (Fn w w6 B (S::a9 (.slice va L.length vc) L) S (ou c0 hv lp kv wv c.bd sa.lf lo sa.fu) X xf (.slice lb (L.length+Ea.length) ld) (L++Ea)/\(∀y∈Ea,Td y.f)/\fq w6 B2 (.slice (some ⟨g2,0,none⟩) L2.length c2) L2 (j+1)/\(∀y∈lG (.slice (some ⟨g2,0,none⟩) L2.length c2) L2 (j+1),y ∉ a9 (.slice lb (L.length+Ea.length) ld) (L++Ea)/\y≠S/\y≠X/\w.heap.size<=y/\B<=y)/\((gO xf k i).drop (j+1)).foldl (k8 c) ((L++Ea).map (·.f),sa)=R1/\w.heap.size<=X):=ab ⟨Hk,(uh HJ).2.1,uh HP6,λq hq=>(uh Ct q hq).1,by have:=uh HFo;rw[QJ]at this;exact this,(uh HJ).2.2.2.2.2⟩;clear QJ aY Hk jx HJ;go_wp2_with fail
         go_roundg (G2-1)
         case rel=>exact⟨j+1,Ea,sa,by omega,by go_num,HN⟩
         case measure=>omega
        .have QJ:k8 c ((L++Ea).map (·.f),sa) y.f=((L++Ea).map (·.f)++[bR y.f],ru c { sa with ok:=sa.ok&&decide (((L++Ea).map (·.f)).length<=gh) }):=(by unfold k8;rw[if_pos aY]);have db:L.length+Ea.length<=900000:=by
          have:=uh HMo aY;rw[length_map,length_append]at this;unfold gh at this;exact this
         have Py:Hid (w6.ownsRow B 126 1 (.slice lb (L.length+Ea.length) ld) (L.length+Ea.length) ((L++Ea).map FE.p)):=ab (by have:=Hk.fl.row;rwa [length_append]at this);have aab:=ab Hk;have ane:=Hk.bb;have HGG:=ab QJ;clear QJ aY Hk jx;go_wp2_with (at_builtin;refine aQ _ rfl (.tmp 52) (.tmp 54) 125 rfl B 126 i0 _ 1 8 underlying125 jN fW fy fJ rfl (by decide) _ (L.length+Ea.length) ((L++Ea).map FE.p) rfl ((uh Py).alloc _) ⟨_,0,none⟩ 1 [.pointer (some ⟨y.A,0,none⟩)] rfl rfl (aM _ _ (by simp) [.pointer (some ⟨y.A,0,none⟩)] _) (by intro u hu;simp only[mem_singleton]at hu;subst hu;rfl) (by omega) (by omega) (by simp;omega) ?_)
         intro g7 cap7 w7 gJ dh eZ;have wD:=j5 dh (by simpa using eZ);have Qs:=(uh aab).app (x:=⟨y.A,bR y.f,av5,ov5⟩) (g1:=g7) (c1:=cap7) (uh HF6) (uh HSd) (by rw[length_append,map_append,append_assoc];exact gJ) dh (by simpa using eZ);have hP7:=(uh HP6).stp wD (λq hq hn=>(uh Ct q hq).1.1 (mem_append_left _ hn));have hD7:∀q∈lG (.slice (some ⟨g2,0,none⟩) L2.length c2) L2 (j+1),q ∉ a9 (.slice (some ⟨g7,0,none⟩) (L.length+Ea.length+1) cap7) (L++(Ea++[⟨y.A,bR y.f,av5,ov5⟩])):=λq hq hn=>by
          rcases mem_append.1 hn with p|p
          .have e:q=g7:=(by simpa[Value.ownBlock,eq_comm] using p);subst e;rcases eZ with e|e
           .exact(uh Ct q hq).1.1 (mem_append_left _ (by rw[<-e];simp))
           .have:=(uh HP6).lt q hq;omega
          .rw[<-append_assoc,flatMap_append,mem_append]at p;rcases p with p|p
           .exact(uh Ct q hq).1.1 (mem_append_right _ p)
           .simp only[flatMap_cons,flatMap_nil,append_nil]at p;exact(uh Ct q hq).2 p
         rw[append_assoc,length_append]at Qs;have I0:=ab (xn Qs.bs);have aac:=ab Qs;have HP7:=ab hP7;have HD7:=ab hD7;clear gJ dh eZ wD Qs hP7 hD7 Py aab HP6;go_wp2_with fail
         refine(uh I0).mono ?_;rintro e w8 ⟨rfl,Lv,E9⟩;have VQ:=(uh aac).spend Lv E9;have hP8:=(uh HP7).stp E9 (λq hq hn=>(uh Ct q hq).1.2.1 (by simpa using hn));have hTE:∀q∈Ea++[(⟨y.A,bR y.f,av5,ov5⟩:FE)],Td q.f:=λq hq=>by
          rcases mem_append.1 hq with h|h
          .exact(uh HJ).2.1 q h
          .rw[mem_singleton]at h;subst h;exact(uh HYO).tidy
         obtain⟨sb,zH⟩:∃sb,sb=ru c { sa with ok:=sa.ok&&decide (((L++Ea).map (·.f)).length<=gh) }:=⟨_,rfl⟩;have Il:sb.lf=wrap64 (sa.lf-1):=(by rw[zH];rfl);have hsf:sb.fu=(sa.fu||(decide (wrap64 (sa.lf-1)<0)&&c.bd)):=(by rw[zH];rfl);rw[<-hsf,<-Il]at VQ;have LI:((gO xf k i).drop (j+1)).foldl (k8 c) ((L++(Ea++[(⟨y.A,bR y.f,av5,ov5⟩:FE)])).map (·.f),sb)=R1:=by
          have:=uh HFo;rw[uh HGG,<-zH]at this;rw[<-append_assoc,map_append];exact this
         have HN:=ab (zq2 VQ (zq2 hTE (zq2 hP8 (zq2 (λq hq=>zq2 (uh HD7 q hq) (uh Ct q hq).1.2) (zq2 LI (uh HJ).2.2.2.2.2)))));clear Lv E9 VQ hP8 hTE zH Il hsf LI I0 aac HP7 HD7 HJ;go_wp2_with fail
         go_roundg (G2-1)
         case rel=>exact⟨j+1,Ea++[⟨y.A,bR y.f,av5,ov5⟩],sb,by omega,by go_num,HN⟩
         case measure=>omega
       .have jk:decide ((j:Int)<(L2.length:Int))=false:=(by simp;omega);have qM:(gO xf k i).length<=j:=(by rw[<-uh Cs,length_map];omega);have Ik:((L++Ea).map (·.f),sa)=R1:=by
         have:=(uh hJ).2.2.2.2.1;rw[drop_eq_nil_of_le qM]at this;exact this
        have HN:Hid (Fn w wr B (S::a9 (.slice va L.length vc) L) S (ou c0 hv lp kv wv c.bd sa.lf lo sa.fu) X xf (.slice lb (L++Ea).length ld) (L++Ea)/\(∀y∈Ea,Td y.f)/\(List.range' (k+1) (24-(k+1))).foldl (mo c xf i) ((L++Ea).map (·.f),sa)=R/\w.heap.size<=X):=ab ⟨(uh hJ).1,(uh hJ).2.1,by rw[Ik];exact uh Eb,(uh hJ).2.2.2.2.2⟩;rw[length_append]at HN ⊢;clear qM Ik hJ;go_wp2_with fail
        go_roundg (G-1)
        case rel=>exact⟨k+1,Ea,sa,by omega,by go_num,HN⟩
        case measure=>omega
   .rw[show decide (k∈nX xf)=false by simpa using hm]at d1 Cr;have HN:=ab (uh S5 (by rw[uh Cr];simp));clear hm S5 hI;go_wp2_with fail
    go_roundg (G-1)
    case rel=>exact⟨k+1,E,s',by omega,by go_num,uh HN⟩
    case measure=>omega
  .have hd:decide ((k:Int)<(24:Int))=false:=(by simp;omega);have jl:R=((L++E).map (·.f),s'):=by
    have:=(uh hI).2.2.1;rw[show 24-k=0 by omega]at this;exact this.symm
   have SR:=ab jl;clear jl;go_wp2_with fail
   go_ret;refine⟨_,E,rfl,(uh hI).1.fl,(uh hI).2.1,by rw[uh SR],?_,λhn=>((uh hI).1.ns S hn).1 rfl,(uh hI).1.st⟩;rw[uh SR];exact(uh hI).1.bs
end
