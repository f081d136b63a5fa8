import Derived.Test.YtciihepbeacppaaGreatGR
set_option maxRecDepth 100000
set_option maxHeartbeats 0
namespace Go.Proofs.YtciihepbeacppaaGreat
open Tryz Go.RowKit List World Below
set_option linter.unusedVariables false
theorem BD{al:List ci}(ht:vm al){a:ci}(ha:a∈al):(jm (nz al) a).l<24/\(jm (nz al) a).r<24:=by
 have h1:=Bs ht (ht a ha).1;have h2:=Bs ht (ht a ha).2;have e1:(jm (nz al) a).l=(nz al).getD (tm a).l 0:=rfl;have e2:(jm (nz al) a).r=(nz al).getD (tm a).r 0:=rfl;omega
theorem aeB{al:List ci}(ht:vm al):Rm (bW al):=by
 intro p hp;obtain⟨a,ha,rfl⟩:=mem_map.1 hp;exact BD ht (mem_filter.1 ha).1
def JM(A A':Nat):Array Value:=(#[Value.pointer (some ⟨A,0,none⟩),Value.pointer (some ⟨A',0,none⟩)].toList++(replicate 48 (Value.int .i64 0)++[Value.pointer none,Value.slice none 0 0,Value.int .i64 0,Value.slice none 0 0,Value.int .i64 128])).toArray
theorem DL(w:World)(A A':Nat):Sn (w.alloc (.cells (JM A A') 202)) w.heap.size A A' 128 (replicate 24 (.int .i64 0)) (replicate 24 (.int .i64 0)++[.pointer none,.slice none 0 0,.int .i64 0,.slice none 0 0,.int .i64 128]) :=
 ⟨ownsRow_lit (base:=0) (e:=202) (size:=55) w (JM A A') 1 (zq5 _) (by simp[maxLen]) rfl,by simp,_,_,_,_,_,rfl,by simp⟩
section
variable {w:World} {D A D' A':Nat} {s t:CF} {av ov av' ov':Value}
theorem xF(h:rB w D A s av ov)(h':rB w D' A' t av' ov')(hT:Td s)(ZU:Td t):Calls prog 231 #[.pointer (some ⟨D,0,none⟩),.pointer (some ⟨D',0,none⟩)] w λe w'=>e=.returned (.bool (Eg s t))/\Below w.heap.size w w':=by
 have HHR:Hid (∀m:Nat,Calls prog 252 #[.pointer (some ⟨D,0,none⟩),.pointer (some ⟨D',0,none⟩)] (w.drewN m) λe w'=>e=.returned (.bool (roB s t))/\∃j,w'=w.drewN j):=ab (λm=>(C7 (w:=w.drewN m) (h.of_eq (λ_ _=>rfl)) (h'.of_eq (λ_ _=>rfl)) hT.ok ZU.ok).mono (λe w' hw=>⟨hw.1,by obtain⟨n,rfl⟩:=hw.2;exact⟨_,drewN_drewN _ _ _⟩⟩));have J5:Hid (∀m:Nat,Calls prog 253 #[.pointer (some ⟨D,0,none⟩),.pointer (some ⟨D',0,none⟩)] (w.drewN m) λe w'=>e=.returned (.bool (SM s t))/\∃j,w'=w.drewN j):=ab (λm=>(yw (w:=w.drewN m) (h.of_eq (λ_ _=>rfl)) (h'.of_eq (λ_ _=>rfl))).mono (λe w' hw=>⟨hw.1,by obtain⟨n,rfl⟩:=hw.2;exact⟨_,drewN_drewN _ _ _⟩⟩));have IL:Eg s t=(roB s t&&SM s t&&(match Ap s t [0,1,2,3,4] (replicate 24 none) with|none=>false|some an=>(Mc s t an 128).1)):=rfl;obtain⟨R,hR⟩:∃R,R=Eg s t:=⟨_,rfl⟩;rw[<-hR];rw[<-hR]at IL;have HW:=ab IL;have H:=ab h;have H':=ab h';have HT:=ab hT;have HT':=ab ZU;have f1:=h.fo;have f2:=h'.fo;clear h h' hT ZU IL hR;go_enter func231,ntmps231;go_wp2_with fail
 refine(uh HHR 0).mono ?_;rintro e w1 ⟨rfl,n1,rfl⟩;cases Dr:roB s t
 .have HE:Hid (R=false):=ab (by rw[uh HW,Dr];rfl);clear Dr;go_wp2_with fail
  go_ret;exact⟨aC (uh HE).symm,dJ _ _⟩
 .go_wp2_with fail
  refine(uh J5 n1).mono ?_;rintro e w2 ⟨rfl,n2,rfl⟩;cases hlk:SM s t
  .have HE:Hid (R=false):=ab (by rw[uh HW,Dr,hlk];rfl);clear Dr hlk;go_wp2_with fail
   go_ret;exact⟨aC (uh HE).symm,dJ _ _⟩
  .have HE:Hid (R=(match Ap s t [0,1,2,3,4] (replicate 24 none) with|none=>false|some an=>(Mc s t an 128).1)):=ab (by rw[uh HW,Dr,hlk];rfl);clear Dr hlk;go_wp2_with fail
   go_region
   obtain⟨W,hW⟩:∃W,W=w.drewN (n2+1):=⟨_,rfl⟩;rw[<-hW];have hbW:Below w.heap.size w W:=(by rw[hW];exact dJ w _);have mO:W.heap.size=w.heap.size:=(by rw[hW];rfl);have h1:=(uh H).below hbW;have h1':=(uh H').below hbW;have HNf:Hid (∀k∈aG A av ov,k≠W.heap.size):=ab (λk hk=>by have:=h1.ff.lt k hk;omega);have HNt:Hid (∀k∈aG A' av' ov',k≠W.heap.size):=ab (λk hk=>by have:=h1'.ff.lt k hk;omega);have HDn:Hid (D≠W.heap.size):=ab (by have:=h1.bk.lt;omega);have SZ:=ab hbW;have HI:=ab h1;have xI:=ab h1';rw[show w.heap.size=W.heap.size from mO.symm];clear hW hbW mO h1 h1' f1 f2;go_wp2_with fail
   refine(NQ (F:=s) (T:=t) (DL W A A') ((uh HI).ff.alloc _) ((uh xI).ff.alloc _) (uh HNf) (uh HNt) (λi _=>(uh HT').ok.get i)).mono ?_;rintro e w4 ⟨rfl,hsq,aP⟩;have nU:Below W.heap.size W w4:=((ar.refl [W.heap.size] W).alloc _).trans aP |>.below (zq4 _) (by simp);have zT:=ab nU;have mw:rB w4 D A s av ov:=((uh HI).below (ah W (.cells (JM A A') 202))).of_eq (λk hk=>aP.blk k (zq6 ((uh HI).lt k hk) (ah W _).size) (by
    rcases mem_cons.1 hk with rfl|hk
    .exact uh HDn
    .exact uh HNf k hk))
   have r9:eP w4 A' t av' ov':=((uh xI).ff.alloc (.cells (JM A A') 202)).of_eq (λk hk=>aP.blk k (((uh xI).ff.alloc _).lt k hk) (uh HNt k hk));have HSQ:=ab hsq;have oM:=ab mw;have Wy:=ab r9;clear hsq aP nU mw r9 HI xI;cases nX:Ap s t [0,1,2,3,4] (replicate 24 none) with
   |none =>
    rw[nX]at HE HSQ;have yD:Hid (R=false):=ab (uh HE);clear HSQ HE nX;go_wp2_with fail
    go_ret;exact⟨aC (uh yD).symm,(uh SZ).trans ((uh zT).mono (uh SZ).size)⟩
   |some an =>
    rw[nX]at HE;have yD:Hid (R=(Mc s t an 128).1):=ab (uh HE);have f0:=(uh oM).fo;have c6:=(uh oM).ff.c6;have Sv:Se w4 W.heap.size A A' an s t av ov av' ov' 128:=⟨uh HSQ an nX,(uh oM).ff,uh Wy,uh HNf,uh HNt⟩;have iH:=(uh HT).ok.owLen;have arW:=(uh HT').ok.owLen;have Ek:=ab (Oq Sv (uh oM).ff.ow (λk hk=>uh HNf k (by simp[aG,hk])) (by omega) (by omega) (uh HT').ok.ow (uh HT').ok.ap);obtain⟨oa,oc,gw,-,-⟩:=am (uh oM).ff.ow;subst gw;clear Sv HSQ nX HE;go_wp2_with fail
    refine(uh Ek).mono ?_;rintro e w5 ⟨rfl,v5,ov5,pv5,-,qN,-⟩;have lN:Hid (Below W.heap.size W w5):=ab ⟨qN.os.trans (uh zT).os,qN.tape.trans (uh zT).tape,qN.output.trans (uh zT).output,zq3 (uh zT).size qN.size,λk hk=>(qN.block k (zq6 hk (uh zT).size) (by simp;omega)).trans ((uh zT).block k hk)⟩;clear qN Ek;go_wp2_with fail
    go_ret;exact⟨aC (by rw[uh yD];rfl),(uh SZ).trans ((uh lN).mono (uh SZ).size)⟩
end
theorem P1(w:World)(f:CF):∃M,M=dl (EP f)/\M.length=24/\(w.alloc (.cells (dl (replicate 24 false)).toArray 240)).there w.heap.size 0 M.toArray.size/\(prog.info? 240).map (·.size)=some M.toArray.size/\M.toArray.all (·.oneCell')=true /\
  Ob ((w.alloc (.cells (dl (replicate 24 false)).toArray 240)).setCells w.heap.size 0 M) 240 24 w.heap.size (dl (EP f))/\Below w.heap.size w ((w.alloc (.cells (dl (replicate 24 false)).toArray 240)).setCells w.heap.size 0 M):=by
 have fI:(dl (EP f)).length=24:=by simp[dl,EP]
 have hX:=Ar w;refine⟨dl (EP f),rfl,fI,?_,?_,?_,?_,?_⟩
 .intro j hj;rw[size_toArray,fI]at hj;obtain⟨⟨u,hu⟩,hz⟩:=hX.some (j:=j) hj;rw[Nat.zero_add];exact⟨by rw[hu];rfl,hz⟩
 .rw[size_toArray,fI];exact infoB24
 .exact all_oneCell_toArray (by
   intro v hv;obtain⟨o,_,rfl⟩:=mem_map.1 hv;rfl)
 .have h5:=Ob.setCells (dl (EP f)) 0 hX;have yr:=nJ (dl (EP f)) [] (dl (replicate 24 false)) [] (by rw[fI];rfl);simp only[nil_append,append_nil,length_nil]at yr;rw[yr]at h5;exact h5
 .have OE:∀(vs:List Value) (o:Nat) (x:World),Below w.heap.size w x->Below w.heap.size w (x.setCells w.heap.size o vs):=by
   intro vs;induction vs with
   |nil=>intro o x h;exact h
   |cons v r ih=>intro o x h;exact ih (o+1) _ (h.setCell (zq4 _) v)
  exact OE _ 0 _ (ah w _)
theorem BF(f:CF){c:Nat}(hc:c<24):(EP f).getD c false=decide (c∈jx f):=by
 unfold EP;rw[getD_eq_getElem?_getD,getElem?_map,getElem?_range hc];rfl
theorem BG(f:CF):(EP f).length=24:=by simp[EP]
def Cw(f:CF)(k:Nat):List Nat:=(range k).filter (λi=>!decide ((owA f i).l∈jx f))
theorem P6(f:CF)(k:Nat):Cw f (k+1)=Cw f k++(if (owA f k).l∈jx f then [] else [k]):=by
 unfold Cw;rw[range_succ,filter_append];congr 1;by_cases h:(owA f k).l∈jx f <;> simp[h]
theorem Vg(f:CF)(k:Nat):(Cw f k).length<=k:=by
 unfold Cw;exact zq3 (length_filter_le _ _) (by simp)
section
variable {w:World} {A:Nat} {f:CF} {av ov:Value}
theorem wm(h:eP w A f av ov)(hO:aj f):Calls prog 200 #[.pointer (some ⟨A,0,none⟩)] w λe w'=>∃v,e=.returned v/\w'.ownsRow w.heap.size 3 1 v (dc f).length (so (dc f))/\Below w.heap.size w w':=by
 obtain⟨i0,lr,gX,gy,gK⟩:=info_parts infoInt;have iH:=hO.owLen;have Ep:=ab (nH h hO);have H:=ab h;have HO:=ab hO;clear h hO;go_enter func200,ntmps200;go_wp2_with fail
 refine(uh Ep).mono ?_;rintro e w1 ⟨rfl,bz⟩;obtain⟨M,hM,fI,Cl,cd,C4,Cj,cK⟩:=P1 w1 f;rw[<-hM];have CB:=ab Cl;have eo:=ab cd;have Si:=ab C4;obtain⟨X,gV⟩:∃X,X=w1.heap.size:=⟨_,rfl⟩;obtain⟨W2,jt⟩:∃W2,W2=(w1.alloc (.cells (dl (replicate 24 false)).toArray 240)).setCells w1.heap.size 0 M:=⟨_,rfl⟩;rw[<-jt]at Cj cK;rw[<-gV]at Cj;have aW:=bz.trans (cK.mono bz.size);have Tg:=ab Cj;have eO:=ab aW;have HXw:Hid (w.heap.size<=X):=ab (by rw[gV];exact bz.size);clear Cl cd C4 Cj cK bz aW hM Ep;simp only[dl,replicate,map_cons,map_nil]at jt;go_upto_region 2 with(refine wpList_store_mid rfl 240 (.tmp 3) (.tmp 7) rfl _ 0 M.toArray rfl rfl (uh CB) (uh eo) (uh Si) ?_);rw[<-jt,<-gV];clear jt gV CB eo Si fI;have uX:Hid ((W2.alloc (.cells #[] 3)).ownsRow w.heap.size 3 1 (.slice (some ⟨W2.heap.size,0,none⟩) 0 0) (Cw f 0).length (so (Cw f 0))/\Below W2.heap.size W2 (W2.alloc (.cells #[] 3))):=ab ⟨dY (ownsRow_lit (base:=W2.heap.size) (e:=3) (size:=1) W2 #[] 0 (zq4 _) (by simp[maxLen]) rfl) (uh eO).size,ah W2 _⟩;go_wp2_with fail
 go_loopg [4,5] f.ow.length (λgn lv iv wx=>∃(k:Nat),k+gn=f.ow.length/\iv=.int .i64 k/\Hid (wx.ownsRow w.heap.size 3 1 lv (Cw f k).length (so (Cw f k))/\Below W2.heap.size W2 wx/\∀j,lv.ownBlock=some j->W2.heap.size<=j))
 case atStart=>exact⟨0,by omega,rfl,ab ⟨(uh uX).1,(uh uX).2,λj hj=>by simp only[Value.ownBlock,Option.some.injEq]at hj;omega⟩⟩
 case round =>
  clear uX;obtain⟨k,gu,rfl,hI⟩:=hrel;obtain⟨G,hG⟩:∃G,G=gk:=⟨_,rfl⟩;obtain⟨la,lc,it,-,-⟩:=am (uh hI).1;subst it;have hF:=((uh H).below (uh eO)).below (uh hI).2.1;have tf:=(uh Tg).of_eq (w':=wr) ((uh hI).2.1.block X (ownsRow.lt (uh Tg) X rfl).2);have c6:=hF.c6;obtain⟨oa,oc,gw,-,-⟩:=am hF.ow;subst gw;by_cases au:k<f.ow.length
  .have hd:decide ((k:Int)<(f.ow.length:Int))=true:=(by simp;omega);obtain⟨go,gc,oU,-,-⟩:=aE hF.ow au;simp only[Value.slice.injEq,true_and]at oU;obtain⟨rfl,rfl⟩:=oU;obtain⟨-,y1,-⟩:=aB hF.ow au;have kZ:=((uh HO).ow _ (aY au)).1;have aP:=P6 f k;have hoe:owA f k=f.ow.getD k ay:=rfl;rw[hoe]at aP;obtain⟨p,hp⟩:∃p,p=f.ow.getD k ay:=⟨_,rfl⟩;rw[<-hp]at y1 kZ aP;have d1:=(ownsRow.cellAt tf p.l (by omega)).trans (fP (by rw[BG];exact kZ));rw[BF f kZ]at d1;have i1:(0:Int)<=(k:Int):=(by omega);have i2:(k:Int)<(f.ow.length:Int):=(by omega);have i3:(p.l:Int)<24:=(by omega);have dN:=Vg f k;by_cases hm:p.l∈jx f
   .rw[show decide (p.l∈jx f)=true by simpa using hm]at d1;rw[if_pos hm,append_nil]at aP;have HN:Hid (wr.ownsRow w.heap.size 3 1 (.slice la (Cw f k).length lc) (Cw f (k+1)).length (so (Cw f (k+1)))/\Below W2.heap.size W2 wr/\∀j,(Value.slice la (Cw f k).length lc).ownBlock=some j->W2.heap.size<=j):=ab (by rw[aP];exact uh hI);clear hF tf hp aP hoe hm hI;go_wp2_with fail
    go_roundg (G-1)
    case rel=>exact⟨k+1,by omega,by go_num,HN⟩
    case measure=>omega
   .rw[show decide (p.l∈jx f)=false by simpa using hm]at d1;rw[if_neg hm]at aP;have HR:=ab (uh hI).1;have yC:=ab (uh hI).2;have dh:=ab aP;have asf:=(uh eO).size;have asa:=(uh hI).2.1.size;obtain⟨L,hL⟩:∃L,L=Cw f k:=⟨_,rfl⟩;rw[<-hL]at HR yC dh dN hI ⊢;clear hF tf hp aP hoe hm hI hL;go_wp2_with (at_builtin;refine aS _ rfl (.tmp 29) (.tmp 31) 29 rfl w.heap.size 3 i0 _ 1 8 underlying29 lr gX gy gK rfl (by decide) _ L.length (so L) rfl ((uh HR).alloc _) ⟨_,0,none⟩ 1 [.int .i64 (k:Int)] rfl rfl (aN _ _ (by simp) [.int .i64 (k:Int)] _) (by intro u hu;simp only[mem_singleton]at hu;subst hu;rfl) (by omega) (by omega) (by simp;omega) ?_)
    intro g4 cap4 w4 iJ eu jK;have HN:Hid (w4.ownsRow w.heap.size 3 1 (.slice (some ⟨g4,0,none⟩) (L.length+1) cap4) (Cw f (k+1)).length (so (Cw f (k+1)))/\Below W2.heap.size W2 w4/\∀j,(Value.slice (some ⟨g4,0,none⟩) (L.length+1) cap4).ownBlock=some j->W2.heap.size<=j):=ab ⟨by
     rw[uh dh,length_append,length_singleton];show w4.ownsRow _ _ _ _ _ (List.map _ (L++[k]));rw[map_append];exact iJ,by
     have hb:=(uh yC).1.alloc (uh yC).1.size (.cells #[.int .i64 (k:Int)] 3);exact hb.grown eu hb.size (λq hq=>(uh yC).2 q hq),λj hj=>by
     have e:j=g4:=(by simpa[Value.ownBlock,eq_comm] using hj);subst e;rcases jK with q|q
     .exact(uh yC).2 j q.symm
     .omega⟩
    clear iJ eu jK HR yC;go_wp2_with fail
    go_roundg (G-1)
    case rel=>exact⟨k+1,by omega,by go_num,HN⟩
    case measure=>omega
  .have hd:decide ((k:Int)<(f.ow.length:Int))=false:=(by simp;omega);have kE:Cw f k=dc f:=(by unfold Cw dc;rw[show k=f.ow.length by omega]);rw[kE]at hI ⊢;clear kE hF tf;go_wp2_with fail
   go_ret;exact⟨_,rfl,(uh hI).1,(uh eO).trans ((uh hI).2.1.mono (uh eO).size)⟩
end
section
variable {w:World} {A:Nat} {f:CF} {av ov:Value}
theorem LU(h:eP w A f av ov)(hO:aj f)(ha:f.ap.length<=40000):Calls prog 233 #[.pointer (some ⟨A,0,none⟩)] w λe w'=>∃A',e=.returned (.pointer (some ⟨A',0,none⟩))/\J9 w (RV f) A' w':=by
 have iH:=hO.owLen;have Ep:=ab (nH h hO);have H:=ab h;have HO:=ab hO;clear h hO;go_enter func233,ntmps233;go_wp2_with fail
 refine(uh Ep).mono ?_;rintro e w1 ⟨rfl,bz⟩;obtain⟨M,hM,fI,Cl,cd,C4,Cj,cK⟩:=P1 w1 f;rw[<-hM];have CB:=ab Cl;have eo:=ab cd;have Si:=ab C4;obtain⟨X,gV⟩:∃X,X=w1.heap.size:=⟨_,rfl⟩;obtain⟨W2,jt⟩:∃W2,W2=(w1.alloc (.cells (dl (replicate 24 false)).toArray 240)).setCells w1.heap.size 0 M:=⟨_,rfl⟩;rw[<-jt]at Cj cK;rw[<-gV]at Cj;have aW:=bz.trans (cK.mono bz.size);have Tg:=ab Cj;have eO:=ab aW;have pp:=(uh H).below aW;have kX:=ab (cP pp (uh HO).c5 ha (zq3 iH (by omega)));have xZ:=ab pp;clear Cl cd C4 Cj cK bz aW hM Ep pp;simp only[dl,replicate,map_cons,map_nil]at jt;go_upto_region 2 with(refine wpList_store_mid rfl 240 (.tmp 3) (.tmp 8) rfl _ 0 M.toArray rfl rfl (uh CB) (uh eo) (uh Si) ?_);rw[<-jt,<-gV];clear jt gV CB eo Si fI;go_wp2_with fail
 refine(uh kX).mono ?_;rintro e w3 ⟨A3,rfl,Ci⟩;obtain⟨av3,ov3,m6⟩:=Ci.frf;have ce:=ah w3 (.cells #[] 182);have PH:=ownsRow_lit (base:=w3.heap.size) (e:=182) (size:=3) w3 #[] 0 (zq4 _) (by simp[maxLen]) rfl;have tN:ar ov3.ownBlock.toList w3 (Value.slice (some ⟨w3.heap.size,0,none⟩) 0 0).ownBlock.toList (w3.alloc (.cells #[] 182)):=(ar.ofBw (F:=ov3.ownBlock.toList) ce).foots (λj hj=>zq1 (PH.lt j (by simpa using hj)).1);obtain⟨r9,fD⟩:=m6.fm.newOv (ow':=[]) tN (v':=.slice (some ⟨w3.heap.size,0,none⟩) 0 0) (λj hj=>by simpa using hj) (dY PH (zq5 _));obtain⟨W4,yg⟩:∃W4,W4=(w3.alloc (.cells #[] 182)).setCell ⟨A3,6,none⟩ (.slice (some ⟨w3.heap.size,0,none⟩) 0 0):=⟨_,rfl⟩;rw[<-yg]at r9 fD;have AD:=m6.step (x':=⟨A3,{ f with ow:=[] },av3,.slice (some ⟨w3.heap.size,0,none⟩) 0 0⟩) r9 fD;have e6:=(m6.fm.below ce).is.c6;have z6:=ownsRow.frozenAt (m6.fm.below ce).is.ob 6;obtain⟨sv,hsv⟩:∃sv,sv=Value.slice (some ⟨w3.heap.size,0,none⟩) 0 0:=⟨_,rfl⟩;rw[<-hsv]at AD;have cF:Hid (MD W2 W4 ⟨A3,{ f with ow:=(f.ow.take 0).filter (λp=>decide (p.l∈jx f)) },av3,sv⟩):=ab AD;have c6:=((uh xZ).below AD.bw).c6;obtain⟨oa,oc,gw,-,-⟩:=am (uh xZ).ow;subst gw;clear Ci m6 ce PH tN r9 fD AD hsv kX;go_upto_region 4 with fail;rw[<-yg];clear yg e6 z6;go_wp2_with fail
 go_loopg [20] f.ow.length (λgn iv wx=>∃(m:Nat) (ow5:Value),m+gn=f.ow.length/\iv=.int .i64 m/\Hid (MD W2 wx ⟨A3,{ f with ow:=(f.ow.take m).filter (λp=>decide (p.l∈jx f)) },av3,ow5⟩))
 case atStart=>exact⟨0,sv,by omega,rfl,cF⟩
 case round =>
  clear cF c6;obtain⟨m,ow5,hmn,rfl,hI⟩:=hrel;obtain⟨G,hG⟩:∃G,G=gk:=⟨_,rfl⟩;have hF:=(uh xZ).below (uh hI).bw;have ju:((f.ow.take m).filter (λp=>decide (p.l∈jx f))).length<=24:=zq3 (length_filter_le _ _) (by rw[length_take];omega);by_cases au:m<f.ow.length
  .have hd:decide ((m:Int)<(f.ow.length:Int))=true:=(by simp;omega);obtain⟨go,gc,oU,-,-⟩:=aE hF.ow au;simp only[Value.slice.injEq,true_and]at oU;obtain⟨rfl,rfl⟩:=oU;obtain⟨y0,y1,y2⟩:=aB hF.ow au;have kZ:=((uh HO).ow _ (aY au)).1;have aP:=yZ (P:=λp=>decide (p.l∈jx f)) au;obtain⟨p,hp⟩:∃p,p=f.ow.getD m ay:=⟨_,rfl⟩;rw[<-hp]at y0 y1 y2 kZ aP;obtain⟨W5,s7⟩:∃W5,W5=wr.alloc (.cells #[Value.int .i64 p.k,.int .i64 p.l,.int .i64 p.r] 182):=⟨_,rfl⟩;have ce:Below wr.heap.size wr W5:=(by rw[s7];exact ah wr _);have mZ:Bk W5 wr.heap.size 182 [Value.int .i64 p.k,.int .i64 p.l,.int .i64 p.r]:=(by rw[s7];exact Bk.new wr _ _);obtain⟨Y,xM⟩:∃Y,Y=wr.heap.size:=⟨_,rfl⟩;rw[<-xM]at mZ;have b0:=mZ.cell 0 rfl;have b1:=mZ.cell 1 rfl;have b2:=mZ.cell 2 rfl;have sd:=(uh hI).below ce;have tf:=(uh Tg).of_eq (w':=W5) (sd.bw.block X (ownsRow.lt (uh Tg) X rfl).2);have d1:=(ownsRow.cellAt tf p.l (by omega)).trans (fP (by rw[BG];exact kZ));rw[BF f kZ]at d1;have i1:(0:Int)<=(m:Int):=(by omega);have i2:(m:Int)<(f.ow.length:Int):=(by omega);have i3:(p.l:Int)<24:=(by omega);have H5:=ab sd;by_cases hm:p.l∈jx f
   .rw[show decide (p.l∈jx f)=true by simpa using hm]at d1 aP;have yE:=ab (qX sd.fm p.k p.l p.r (zq3 ju (by omega)));have dh:=ab aP;clear hF hp aP ce mZ sd tf hm hI ju;go_upto_region 7 with fail;rw[<-s7,<-xM];clear s7 xM;go_wp2_with fail
    refine(uh yE).mono ?_;rintro e w6 ⟨rfl,ov6,Uj,KG⟩;have HN:Hid (MD W2 w6 ⟨A3,{ f with ow:=(f.ow.take (m+1)).filter (λp=>decide (p.l∈jx f)) },av3,ov6⟩):=ab ((uh H5).step (by rw[uh dh];exact Uj) KG);clear Uj KG yE H5;go_wp2_with fail
    go_roundg (G-1)
    case rel=>exact⟨m+1,ov6,by omega,by go_num,HN⟩
    case measure=>omega
   .rw[show decide (p.l∈jx f)=false by simpa using hm]at d1 aP;have HN:Hid (MD W2 W5 ⟨A3,{ f with ow:=(f.ow.take (m+1)).filter (λp=>decide (p.l∈jx f)) },av3,ow5⟩):=ab (by rw[aP];simpa using sd);clear hF hp aP ce mZ sd tf hm hI ju H5;go_upto_region 7 with fail;rw[<-s7,<-xM];clear s7 xM;go_wp2_with fail
    go_roundg (G-1)
    case rel=>exact⟨m+1,ow5,by omega,by go_num,HN⟩
    case measure=>omega
  .have hd:decide ((m:Int)<(f.ow.length:Int))=false:=(by simp;omega);have hte:f.ow.take m=f.ow:=take_of_length_le (by omega);rw[hte]at hI ju;have hOg:aj { f with ow:=f.ow.filter (λp=>decide (p.l∈jx f)) }:=aj.mk' (uh HO).c5 (uh HO).cl' (λp hp=>(uh HO).ow p (mem_filter.1 hp).1) (uh HO).ap ((uh HO).lf.sublist (filter_sublist.map _)) (uh HO).kd;have Hc:=ab (lJ (uh hI).fm hOg (zq3 ha (by omega)));clear hte hOg hF ju;go_wp2_with fail
   refine(uh Hc).mono ?_;rintro e w7 ⟨rfl,av7,ov7,Uk,Ew⟩;have vS:=(uh hI).step (x':=⟨A3,RV f,av7,ov7⟩) Uk Ew;have HN:Hid (J9 w (RV f) A3 w7):=ab ⟨av7,ov7,vS.fm,λk hk=>zq3 (uh eO).size (vS.ge k hk),(uh eO).trans (vS.bw.mono (uh eO).size)⟩;clear Uk Ew vS Hc;go_wp2_with fail
   go_ret;exact⟨A3,rfl,uh HN⟩
end
section
variable {w:World} {A:Nat} {f:CF} {av ov:Value} {B:Nat} {v:Value} {L:List FE}
theorem Lh(h:eP w A f av ov)(hf:Td f)(hL:Fl w B v L)(hT:∀x∈L,Td x.f):Calls prog 256 #[v,.pointer (some ⟨A,0,none⟩)] w λe w'=>e=.returned (.bool (XW (L.map (·.f)) f))/\Below w.heap.size w w':=by
 obtain⟨R,hR⟩:∃R,R=XW (L.map (·.f)) f:=⟨_,rfl⟩;rw[<-hR];have HR:=ab hR;obtain⟨la,lc,it,EE,ym⟩:=am hL.row;subst it;have H:=ab h;have HL:=ab hL;have HTf:=ab hf;have HT:=ab hT;have cF:Hid (Below w.heap.size w w/\∀i,i<0->∀x,L[i]?=some x->Mx f x.f=false):=ab ⟨Below.refl _ _,λi hi=>by omega⟩;clear h hf hL hT hR;go_enter func256,ntmps256;go_wp2_with fail
 go_loopg [9] L.length (λgn iv wx=>∃(k:Nat),k+gn=L.length/\iv=.int .i64 k/\Hid (Below w.heap.size w wx/\∀i,i<k->∀x,L[i]?=some x->Mx f x.f=false))
 case atStart=>exact⟨0,by omega,rfl,cF⟩
 case round =>
  clear cF;obtain⟨k,gu,rfl,hI⟩:=hrel;obtain⟨G,hG⟩:∃G,G=gk:=⟨_,rfl⟩;by_cases au:k<L.length
  .have hd:decide ((k:Int)<(L.length:Int))=true:=(by simp;omega);have ZI:=(uh HL).below (uh hI).1;obtain⟨g2,cap2,db,ax⟩:=ZI.pend.cell au;simp only[Value.slice.injEq,true_and]at db;obtain⟨rfl,rfl⟩:=db;have hx:=ZI.fm _ (getElem_mem au);have htx:=uh HT _ (getElem_mem au);have hg:L[k]?=some L[k]:=getElem?_eq_getElem au;obtain⟨x,tO⟩:∃x,x=L[k]:=⟨_,rfl⟩;rw[<-tO]at ax hx htx hg;have AM:x.p=.pointer (some ⟨x.A,0,none⟩):=rfl;rw[AM]at ax;have yF:=ab (Re ((uh H).below (uh hI).1) hx.is (zq3 (uh HTf).ln (by omega)) (zq3 (uh HTf).ok.owLen (by omega)) (zq3 htx.ln (by omega)) (zq3 htx.ok.owLen (by omega)));have HG:=ab hg;have i1:(0:Int)<=(k:Int):=(by omega);have i2:(k:Int)<(L.length:Int):=(by omega);clear ZI hx htx hg tO AM;go_wp2_with fail
   refine(uh yF).mono ?_;rintro e w3 ⟨rfl,dx⟩;have tA:=ab ((uh hI).1.trans (dx.mono (uh hI).1.size));clear dx yF;cases Ga:Mx f x.f
   .go_wp2_with fail
    go_roundg (G-1)
    case rel=>exact⟨k+1,by omega,by go_num,ab ⟨uh tA,λi hi y hy=>by
     by_cases e:i=k
     .rw[e,uh HG]at hy;injection hy with hy;rw[<-hy];exact Ga
     .exact(uh hI).2 i (by omega) y hy⟩⟩
    case measure=>omega
   .have HE:Hid (R=false):=ab (by
     rw[uh HR];unfold XW;have:(L.map (·.f)).any (λg=>Mx f g)=true:=by
      rw[any_eq_true];exact⟨x.f,mem_map_of_mem (mem_of_getElem? (uh HG)),Ga⟩
     rw[this];rfl)
    clear Ga;go_wp2_with fail
    go_ret;exact⟨aC (uh HE).symm,uh tA⟩
  .have hd:decide ((k:Int)<(L.length:Int))=false:=(by simp;omega);have HE:Hid (R=true):=ab (by
    rw[uh HR];unfold XW;have:(L.map (·.f)).any (λg=>Mx f g)=false:=by
     rw[any_eq_false];intro g hg;obtain⟨x,hx,rfl⟩:=mem_map.1 hg;obtain⟨i,hi,rfl⟩:=mem_iff_getElem.1 hx;rw[(uh hI).2 i (by omega) _ (getElem?_eq_getElem hi)];simp
    rw[this];rfl)
   go_wp2_with fail
   go_ret;exact⟨aC (uh HE).symm,(uh hI).1⟩
end
def qt(c0 hv:Value)(lp:Bool)(kv wv:Value)(bd:Bool)(lf lo:Int)(fu:Bool):List Value:=[c0,hv,.bool lp,kv,wv,.bool bd,.int .i64 lf,.int .i64 lo,.bool fu]
section
variable {w:World} {S:Nat} {c0 hv kv wv:Value} {lp bd fu:Bool} {lf lo:Int}
theorem zO(h:Bk w S 229 (qt c0 hv lp kv wv bd lf lo fu)):Calls prog 232 #[.pointer (some ⟨S,0,none⟩)] w λe w'=>e=.returned (.tuple #[])/\Bk w' S 229 (qt c0 hv lp kv wv bd (wrap64 (lf-1)) lo (fu||(decide (wrap64 (lf-1)<0)&&bd)))/\ar [S] w [S] w':=by
 have c6:=h.cell 6 rfl;have z6:=h.frz 6;have hq:IntKind.i64.wrap (lf-1)=wrap64 (lf-1):=by rw[IntKind.wrap_i64,wrap64]
 obtain⟨l',hl'⟩:∃l',l'=wrap64 (lf-1):=⟨_,rfl⟩;rw[<-hl']at hq ⊢;have h2:=h.set 6 (.int .i64 l');have d6:=h2.cell 6 rfl;have d5:=h2.cell 5 rfl;have d8:=h2.cell 8 rfl;have z8:=h2.frz 8;have gS:ar [S] w [S] (w.setCell ⟨S,6,none⟩ (.int .i64 l')):=(ar.refl _ _).setCell (p:=⟨S,6,none⟩) (zq0 (by simp)) _;have gi:ar [S] w [S] ((w.setCell ⟨S,6,none⟩ (.int .i64 l')).setCell ⟨S,8,none⟩ (.bool true)):=gS.setCell (p:=⟨S,8,none⟩) (zq0 (by simp)) _;have H2:=ab h2;have H3:=ab (h2.set 8 (.bool true));have dg:=ab gS;have iT:=ab gi;clear h h2 gS gi hl';by_cases hn:l'<0
 .have d0:decide (l'<(0:Int))=true:=by simpa using hn
  cases bd
  .have HE:Hid ((fu||(decide (l'<0)&&false))=fu):=ab (by simp);clear hn;go_enter func232,ntmps232;go_wp2_with fail
   go_end0
   exact⟨rfl,by rw[uh HE];exact uh H2,uh dg⟩
  .have HE:Hid ((fu||(decide (l'<0)&&true))=true):=ab (by simp[hn]);clear hn;go_enter func232,ntmps232;go_wp2_with fail
   go_end0
   exact⟨rfl,by rw[uh HE];exact uh H3,uh iT⟩
 .have d0:decide (l'<(0:Int))=false:=by simpa using hn
  have HE:Hid ((fu||(decide (l'<0)&&bd))=fu):=ab (by rw[d0];simp);clear hn;go_enter func232,ntmps232;go_wp2_with fail
  go_end0
  exact⟨rfl,by rw[uh HE];exact uh H2,uh dg⟩
theorem Qa(h:Bk w S 229 (qt c0 hv lp kv wv bd lf lo fu))(n:Nat):Calls prog 230 #[.pointer (some ⟨S,0,none⟩),.int .i64 n] w λe w'=>e=.returned (.tuple #[])/\Bk w' S 229 (qt c0 hv lp kv wv bd lf (wrap64 (lo-n)) (fu||(decide (wrap64 (lo-n)<0)&&bd)))/\ar [S] w [S] w':=by
 have c6:=h.cell 7 rfl;have z6:=h.frz 7;have hq:IntKind.i64.wrap (lo-(n:Int))=wrap64 (lo-n):=by rw[IntKind.wrap_i64,wrap64]
 obtain⟨l',hl'⟩:∃l',l'=wrap64 (lo-n):=⟨_,rfl⟩;rw[<-hl']at hq ⊢;have h2:=h.set 7 (.int .i64 l');have d6:=h2.cell 7 rfl;have d5:=h2.cell 5 rfl;have d8:=h2.cell 8 rfl;have z8:=h2.frz 8;have gS:ar [S] w [S] (w.setCell ⟨S,7,none⟩ (.int .i64 l')):=(ar.refl _ _).setCell (p:=⟨S,7,none⟩) (zq0 (by simp)) _;have gi:ar [S] w [S] ((w.setCell ⟨S,7,none⟩ (.int .i64 l')).setCell ⟨S,8,none⟩ (.bool true)):=gS.setCell (p:=⟨S,8,none⟩) (zq0 (by simp)) _;have H2:=ab h2;have H3:=ab (h2.set 8 (.bool true));have dg:=ab gS;have iT:=ab gi;clear h h2 gS gi hl';by_cases hn:l'<0
 .have d0:decide (l'<(0:Int))=true:=by simpa using hn
  cases bd
  .have HE:Hid ((fu||(decide (l'<0)&&false))=fu):=ab (by simp);clear hn;go_enter func230,ntmps230;go_wp2_with fail
   go_end0
   exact⟨rfl,by rw[uh HE];exact uh H2,uh dg⟩
  .have HE:Hid ((fu||(decide (l'<0)&&true))=true):=ab (by simp[hn]);clear hn;go_enter func230,ntmps230;go_wp2_with fail
   go_end0
   exact⟨rfl,by rw[uh HE];exact uh H3,uh iT⟩
 .have d0:decide (l'<(0:Int))=false:=by simpa using hn
  have HE:Hid ((fu||(decide (l'<0)&&bd))=fu):=ab (by rw[d0];simp);clear hn;go_enter func230,ntmps230;go_wp2_with fail
  go_end0
  exact⟨rfl,by rw[uh HE];exact uh H2,uh dg⟩
end
theorem mW{c:Cd}{r:List CF × Sr}{g:CF}(h:(l7 c r g).2.ok=true):r.2.ok=true/\(XW r.1 (aQ g)=true->r.1.length<=il):=by
 unfold l7 at h;split at h
 .have h1:(r.2.ok&&decide (r.1.length<=il))=true:=h;rw[Bool.and_eq_true,decide_eq_true_eq]at h1;exact⟨h1.1,λ_=>h1.2⟩
 .rename_i hn;exact⟨h,λe=>absurd e hn⟩
theorem gb{β:Type}(g:List CF × Sr->β->List CF × Sr)(hg:∀r b,(g r b).2.ok=true->r.2.ok=true):∀(l:List β) {r:List CF × Sr},(l.foldl g r).2.ok=true->r.2.ok=true
 |[],_,h=>h
 |b::l,r,h=>hg r b (gb g hg l h)
theorem vI{c:Cd}{f:CF}{i:Nat}(r:List CF × Sr)(a:Nat)(h:(oS c f i r a).2.ok=true):r.2.ok=true:=by
 unfold oS at h;split at h
 .exact gb (l7 c) (λr b h=>(mW h).1) _ h
 .exact h
structure Fn(w W:World)(B:Nat)(F0:List Nat)(S:Nat)(cs:List Value)(X:Nat)(f:CF)(v:Value)(L:List FE):Prop where
 fl:Fl W B v L
 bs:Bk W S 229 cs
 xb:Ob W 240 24 X (dl (EP f))
 ns:∀k∈be v L,k≠S/\k≠X
 sx:S≠X
 st:ar F0 w (S::be v L) W
 s0:S∈F0
 bb:B<=W.heap.size
section
variable {w W W':World} {B S X:Nat} {F0:List Nat} {cs cs':List Value} {f:CF} {v:Value} {L:List FE}
theorem Fn.xl(h:Fn w W B F0 S cs X f v L):X<W.heap.size:=(ownsRow.lt h.xb X rfl).2
theorem Fn.below(h:Fn w W B F0 S cs X f v L)(hb:Below W.heap.size W W'):Fn w W' B F0 S cs X f v L :=
 ⟨h.fl.below hb,h.bs.below hb,h.xb.of_eq (hb.block X h.xl),h.ns,h.sx,⟨hb.os.trans h.st.os,hb.tape.trans h.st.tape,hb.output.trans h.st.output,zq3 h.st.size hb.size,λk hk hn=>(hb.block k (zq6 hk h.st.size)).trans (h.st.block k hk hn),h.st.foot⟩,h.s0,zq3 h.bb hb.size⟩
theorem Fn.spend(h:Fn w W B F0 S cs X f v L)(hb:Bk W' S 229 cs')(hs:ar [S] W [S] W'):Fn w W' B F0 S cs' X f v L:=by
 refine⟨h.fl.stp hs (λk hk hn=>(h.ns k hk).1 (by simpa using hn)),hb,h.xb.of_eq (hs.block X h.xl (by simpa using λe=>h.sx e.symm)),h.ns,h.sx,⟨hs.os.trans h.st.os,hs.tape.trans h.st.tape,hs.output.trans h.st.output,zq3 h.st.size hs.size,λk hk hn=>(hs.block k (zq6 hk h.st.size) (λe=>hn (by rw[mem_singleton]at e;rw[e];exact h.s0))).trans (h.st.block k hk hn),h.st.foot⟩,h.s0,zq3 h.bb hs.size⟩
theorem Fn.side{F F':List Nat}(h:Fn w W B F0 S cs X f v L)(hs:ar F W F' W')(hd:∀k∈F,k ∉ be v L/\k≠S/\k≠X/\w.heap.size<=k):Fn w W' B F0 S cs X f v L :=
 ⟨h.fl.stp hs (λk hk hn=>(hd k hn).1 hk),h.bs.stp hs (λhn=>(hd S hn).2.1 rfl),h.xb.of_eq (hs.block X h.xl (λhn=>(hd X hn).2.2.1 rfl)),h.ns,h.sx,⟨hs.os.trans h.st.os,hs.tape.trans h.st.tape,hs.output.trans h.st.output,zq3 h.st.size hs.size,λk hk hn=>(hs.block k (zq6 hk h.st.size) (λe=>by have:=(hd k e).2.2.2;omega)).trans (h.st.block k hk hn),h.st.foot⟩,h.s0,zq3 h.bb hs.size⟩
theorem Fn.app {g1 c1:Nat} {o:Obj} {x:FE} {W1:World} (h:Fn w W B F0 S cs X f v L) (hx:Fm W x.A x.f x.av x.ov) (hd:∀k∈x.bs,k ∉ be v L/\k≠S/\k≠X/\w.heap.size<=k/\B<=k)
  (aL:W1.ownsRow B 126 1 (.slice (some ⟨g1,0,none⟩) (L.length+1) c1) (L.length+1) (L.map FE.p++[x.p])) (hg:(W.alloc o).grownBy W1 v.ownBlock) (cB:some g1=v.ownBlock\/g1=(W.alloc o).heap.size) :
  Fn w W1 B F0 S cs X f (.slice (some ⟨g1,0,none⟩) (L.length+1) c1) (L++[x]):=by
 obtain⟨a1,a2,a3⟩:=h.fl.app hx (λk hk=>(hd k hk).2.2.2.2) (λk hk=>(hd k hk).1) h.bb aL hg cB;have hv:∀k∈v.ownBlock.toList,k∈be v L:=λk hk=>mem_append_left _ hk;refine⟨a1,h.bs.stp a2 (λhn=>(h.ns S (hv S hn)).1 rfl),h.xb.of_eq (a2.block X h.xl (λhn=>(h.ns X (hv X hn)).2 rfl)),λk hk=>?_,h.sx,?_,h.s0,zq3 h.bb a2.size⟩
 .rcases a3 k hk with q|q|q
  .exact h.ns k q
  .exact⟨(hd k q).2.1,(hd k q).2.2.1⟩
  .exact⟨λe=>by have:=h.bs.lt;omega,λe=>by have:=h.xl;omega⟩
 .have h2:=h.st;refine⟨a2.os.trans h2.os,a2.tape.trans h2.tape,a2.output.trans h2.output,zq3 h2.size a2.size,λk hk hn=>?_,λk hk=>?_⟩
  .rw[a2.block k (zq6 hk h2.size) (λhm=>?_)]
   .exact h2.block k hk hn
   .rcases h2.foot k (mem_cons_of_mem _ (hv k hm)) with q|q
    .exact hn q
    .omega
  .rcases mem_cons.1 hk with rfl|hk
   .exact h2.foot k (by simp)
   .rcases a3 k hk with q|q|q
    .exact h2.foot k (mem_cons_of_mem _ q)
    .exact zq1 (hd k q).2.2.2.1
    .exact zq1 (zq3 h2.size q)
end
theorem aaZ{f g:CF}{a i:Nat}(h:g∈eM f a i):g.ap.length=f.ap.length:=by
 unfold eM at h;rcases mem_append.1 h with h|h
 .split at h
  .simp at h
  .rw[mem_singleton]at h;subst h;show(f.ap.map _).length=_;rw[length_map]
 .split at h
  .rw[mem_singleton]at h;subst h;rfl
  .simp at h
section
variable {w:World} {B S:Nat} {v:Value} {L:List FE} {c0 hv kv wv:Value} {lp:Bool} {lo:Int} {x:FE} {c:Cd} {s:Sr}
theorem Ku(hS:Bk w S 229 (qt c0 hv lp kv wv c.bd s.lf lo s.fu))(hL:Fl w B v L)(hT:∀y∈L,Td y.f)(hx:x∈L)(hSL:S ∉ be v L)(hB:B<=w.heap.size){i:Nat}(hi:i<x.f.ow.length)(bm:(eU c x.f (L.map (·.f),s) i).2.ok=true):
  Calls prog 234 #[.pointer (some ⟨S,0,none⟩),v,.pointer (some ⟨x.A,0,none⟩),.int .i64 i] w λe w'=>∃v' L',e=.returned v'/\Fl w' B v' (L++L')/\(∀y∈L',Td y.f)/\(L++L').map (·.f)=(eU c x.f (L.map (·.f),s) i).1/\Bk w' S 229 (qt c0 hv lp kv wv c.bd (eU c x.f (L.map (·.f),s) i).2.lf lo (eU c x.f (L.map (·.f),s) i).2.fu)/\S ∉ be v' (L++L')/\ar (S::be v L) w (S::be v' (L++L')) w':=by
 obtain⟨i0,lr,gX,gy,gK⟩:=info_parts infoPF;obtain⟨R,hR⟩:∃R,R=eU c x.f (L.map (·.f),s) i:=⟨_,rfl⟩;rw[<-hR]at bm ⊢;have hxF:=hL.fm x hx;have hxT:=hT x hx;have iH:=hxT.ok.owLen;have Ep:=ab (nH hxF.is hxT.ok);obtain⟨va,vc,it,-,-⟩:=am hL.row;subst it;have HL:=ab hL;have HS:=ab hS;have HX:=ab hx;have HXT:=ab hxT;have HT:=ab hT;have HSL:=ab hSL;have mq:=ab bm;have HRR:=ab hR;have HXP:Hid (∀(W:World) (vv:Value) (E:List FE),Fl W B vv (L++E)->Fm W x.A x.f x.av x.ov):=ab (λW vv E hf=>hf.fm x (mem_append_left _ hx));obtain⟨xa,xf,xav,xov⟩:=x;simp only at hi Ep HXT HXP iH hR HRR ⊢;clear hL hS hx hxF hxT hT hSL bm hR;go_enter func234,ntmps234;go_wp2_with fail
 refine(uh Ep).mono ?_;rintro e w1 ⟨rfl,bz⟩;obtain⟨M,hM,fI,Cl,cd,C4,Cj,cK⟩:=P1 w1 xf;rw[<-hM];have CB:=ab Cl;have eo:=ab cd;have Si:=ab C4;obtain⟨X,gV⟩:∃X,X=w1.heap.size:=⟨_,rfl⟩;obtain⟨W2,jt⟩:∃W2,W2=(w1.alloc (.cells (dl (replicate 24 false)).toArray 240)).setCells w1.heap.size 0 M:=⟨_,rfl⟩;rw[<-jt]at Cj cK;rw[<-gV]at Cj;have aW:=bz.trans (cK.mono bz.size);have hFn:Fn w W2 B (S::be (.slice va L.length vc) L) S (qt c0 hv lp kv wv c.bd s.lf lo s.fu) X xf (.slice va L.length vc) (L++[]):=by
  rw[append_nil];have h1:=uh HL;have h2:=uh HS;refine⟨h1.below aW,h2.below aW,Cj,λk hk=>⟨λe=>uh HSL (by rw[<-e];exact hk),λe=>?_⟩,λe=>?_,(ar.ofBw aW),by simp,zq3 hB aW.size⟩
  .have:=h1.lt k hk;have:=bz.size;omega
  .have:=h2.lt;have:=bz.size;omega
 have cF:Hid (Fn w W2 B (S::be (.slice va L.length vc) L) S (qt c0 hv lp kv wv c.bd s.lf lo s.fu) X xf (.slice va L.length vc) (L++[])/\w.heap.size<=X):=ab ⟨hFn,by rw[gV];exact bz.size⟩;clear Cl cd C4 Cj cK bz aW hM Ep hFn;simp only[dl,replicate,map_cons,map_nil]at jt;go_upto_region 2 with(refine wpList_store_mid rfl 240 (.tmp 9) (.tmp 14) rfl _ 0 M.toArray rfl rfl (uh CB) (uh eo) (uh Si) ?_);rw[<-jt,<-gV];clear jt gV CB eo Si fI;go_wp2_with fail
 go_loopg [1,10] 24 (λgn cv iv wx=>∃(k:Nat) (E:List FE) (s':Sr),k+gn=24/\iv=.int .i64 k/\Hid (Fn w wx B (S::be (.slice va L.length vc) L) S (qt c0 hv lp kv wv c.bd s'.lf lo s'.fu) X xf cv (L++E)/\(∀y∈E,Td y.f)/\(List.range' k (24-k)).foldl (oS c xf i) ((L++E).map (·.f),s')=R/\w.heap.size<=X))
 case atStart=>exact⟨0,[],s,by omega,rfl,ab ⟨(uh cF).1,λy hy=>by simp at hy,by rw[append_nil,uh HRR];unfold eU;rw[range_eq_range'],(uh cF).2⟩⟩
 case round =>
  clear cF;obtain⟨k,E,s',gu,rfl,hI⟩:=hrel;obtain⟨G,hG⟩:∃G,G=gk:=⟨_,rfl⟩;obtain⟨la,lc,it,-,-⟩:=am (uh hI).1.fl.row;subst it;by_cases au:k<24
  .have hd:decide ((k:Int)<(24:Int))=true:=(by simp;omega);have agI:List.range' k (24-k)=k::List.range' (k+1) (24-(k+1)):=(by rw[show 24-k=(24-(k+1))+1 by omega,range'_succ]);have fj:=(uh hI).2.2.1;rw[agI,foldl_cons]at fj;have hF:=(uh HXP wr _ E (uh hI).1.fl);have d1:=(ownsRow.cellAt (uh hI).1.xb k (by omega)).trans (fP (by rw[BG];exact au));rw[BF xf au]at d1;have x0:=hF.is.cls (i:=0) (by omega);unfold gZ at x0;obtain⟨n0,si⟩:∃n0,n0=xf.cl.getD 0 0:=⟨_,rfl⟩;rw[<-si]at x0;have Xv:Kp xf k=(decide (k∈jx xf)&&!decide (k=n0)&&!(cD xf.ow k).isSome):=(by rw[si];rfl);have mQ:=ab (cO k hF.is);have i1:(0:Int)<=(k:Int):=(by omega);have i2:(k:Int)<(24:Int):=(by omega);have SH:Kp xf k=false->(List.range' (k+1) (24-(k+1))).foldl (oS c xf i) ((L++E).map (·.f),s')=R:=λe=>by
    have e2:oS c xf i ((L++E).map (·.f),s') k=((L++E).map (·.f),s'):=(by unfold oS;rw[if_neg (by rw[e];decide)]);rw[e2]at fj;exact fj
   have WM:Hid (Kp xf k=false->Hid (Fn w wr B (S::be (.slice va L.length vc) L) S (qt c0 hv lp kv wv c.bd s'.lf lo s'.fu) X xf (.slice la (L++E).length lc) (L++E)/\(∀y∈E,Td y.f)/\(List.range' (k+1) (24-(k+1))).foldl (oS c xf i) ((L++E).map (·.f),s')=R/\w.heap.size<=X)):=ab (λe=>ab ⟨(uh hI).1,(uh hI).2.1,SH e,(uh hI).2.2.2⟩);have G8:=ab fj;have EW:=ab Xv;clear agI fj hF si Xv SH;rw[length_append]at WM ⊢;by_cases hm:k∈jx xf
   .rw[show decide (k∈jx xf)=true by simpa using hm]at d1 EW;by_cases hc:k=n0
    .have d2:((k:Int)==(n0:Int))=true:=(by simp[hc]);have HN:=ab (uh WM (by rw[uh EW];simp[hc]));clear hm hc WM hI;go_wp2_with fail
     go_roundg (G-1)
     case rel=>exact⟨k+1,E,s',by omega,by go_num,uh HN⟩
     case measure=>omega
    .have d2:((k:Int)==(n0:Int))=false:=(by simp;omega);have hg:=sD (cD xf.ow k);cases hb:cD xf.ow k with
     |some b0 =>
      rw[hb]at hg mQ;have HN:=ab (uh WM (by rw[uh EW,hb];simp));clear hm hc WM hI hb;go_wp2_with fail
      refine(uh mQ).mono ?_;rintro e w3 ⟨rfl,rfl⟩;go_wp2_with fail
      go_roundg (G-1)
      case rel=>exact⟨k+1,E,s',by omega,by go_num,uh HN⟩
      case measure=>omega
     |none =>
      rw[hb]at hg mQ;have hA:Kp xf k=true:=(by rw[uh EW,hb];simp[hc]);have hF:=(uh HXP wr _ E (uh hI).1.fl);have B5:=ab (Gn hF.is (uh HXT).ok (zq3 (uh HXT).ln (by omega)) au hi);have HMO:=ab (Bl (i:=i) (uh HXT).ok au hb);have ur:oS c xf i ((L++E).map (·.f),s') k=(eM xf k i).foldl (l7 c) ((L++E).map (·.f),s'):=(by unfold oS;rw[if_pos hA]);rw[ur]at G8;obtain⟨R1,sZ⟩:∃R1,R1=(eM xf k i).foldl (l7 c) ((L++E).map (·.f),s'):=⟨_,rfl⟩;rw[<-sZ]at G8;have Yw:=ab sZ;have Yv:Hid (R1.2.ok=true):=ab (by
       refine gb (oS c xf i) (λr b h=>vI r b h) (List.range' (k+1) (24-(k+1))) ?_;rw[uh G8];exact uh mq)
      have Ss:=q8 xf k i;have HI:=ab (uh hI);clear hm hc WM hI hb hA hF ur sZ;go_wp2_with fail
      refine(uh mQ).mono ?_;rintro e w3 ⟨rfl,rfl⟩;go_wp2_with fail
      refine(uh B5).mono ?_;rintro e w4 ⟨v2,L2,rfl,Df,tb,nU⟩;have aeZ:=(uh HI).1.below nU;have OT:=Df.pend;have Xs:∀y∈mX v2 L2 0,y ∉ be (.slice la (L++E).length lc) (L++E)/\y≠S/\y≠X/\w.heap.size<=y/\B<=y:=λy hy=>by
       have h1:=OT.geB y hy;exact⟨λhn=>by have h2:=(uh HI).1.fl.lt y hn;omega,λe=>by have h2:=(uh HI).1.bs.lt;omega,λe=>by have h2:=(uh HI).1.xl;omega,zq3 (uh HI).1.st.size h1,zq3 (uh HI).1.bb h1⟩
      obtain⟨B2,C1⟩:∃B2,B2=w3.heap.size:=⟨_,rfl⟩;rw[<-C1]at OT;obtain⟨a2,c2,AJ,-,-⟩:=am OT.row;subst AJ;have EX:=ab tb;have ae7:L2.length<=2:=(by have:=congrArg List.length tb;rw[length_map]at this;omega);have oO:Hid (Fn w w4 B (S::be (.slice va L.length vc) L) S (qt c0 hv lp kv wv c.bd s'.lf lo s'.fu) X xf (.slice la (L.length+E.length) lc) (L++E)/\(∀y∈E,Td y.f)/\gm w4 B2 (.slice a2 L2.length c2) L2 0/\(∀y∈mX (.slice a2 L2.length c2) L2 0,y ∉ be (.slice la (L.length+E.length) lc) (L++E)/\y≠S/\y≠X/\w.heap.size<=y/\B<=y)/\((eM xf k i).drop 0).foldl (l7 c) ((L++E).map (·.f),s')=R1/\w.heap.size<=X):=ab (by
       rw[<-length_append];exact⟨aeZ,(uh HI).2.1,OT,Xs,(uh Yw).symm,(uh HI).2.2.2⟩)
      clear Df tb nU aeZ OT Xs B5 HI C1 Ss d1 x0;go_wp2_with fail
      go_loopg [1,43] L2.length (λgn cv iv wx=>∃(j:Nat) (Ea:List FE) (sa:Sr),j+gn=L2.length/\iv=.int .i64 j/\Hid (Fn w wx B (S::be (.slice va L.length vc) L) S (qt c0 hv lp kv wv c.bd sa.lf lo sa.fu) X xf cv (L++Ea)/\(∀y∈Ea,Td y.f)/\gm wx B2 (.slice a2 L2.length c2) L2 j/\(∀y∈mX (.slice a2 L2.length c2) L2 j,y ∉ be cv (L++Ea)/\y≠S/\y≠X/\w.heap.size<=y/\B<=y)/\((eM xf k i).drop j).foldl (l7 c) ((L++Ea).map (·.f),sa)=R1/\w.heap.size<=X))
      case atStart=>exact⟨0,E,s',by omega,rfl,oO⟩
      case round =>
       clear oO;obtain⟨j,Ea,sa,Co,rfl,hJ⟩:=hrel;obtain⟨G2,FB⟩:∃G2,G2=gk:=⟨_,rfl⟩;obtain⟨lb,ld,it,-,-⟩:=am (uh hJ).1.fl.row;subst it;by_cases fT:j<L2.length
       .have kY:decide ((j:Int)<(L2.length:Int))=true:=(by simp;omega);obtain⟨g2,cap2,db,ax⟩:=(uh hJ).2.2.1.cell fT;simp only[Value.slice.injEq,true_and]at db;obtain⟨rfl,rfl⟩:=db;obtain⟨hy,-,Ck,OU,FF⟩:=(uh hJ).2.2.1.next fT;have s9:j<(eM xf k i).length:=(by rw[<-uh EX,length_map];exact fT);have hfy:L2[j].f=(eM xf k i)[j]:=by
         have:=congrArg (λl=>l[j]?) (uh EX);simp only[getElem?_map,getElem?_eq_getElem fT,getElem?_eq_getElem s9,Option.map_some,Option.some.injEq]at this;exact this
        have gW:L2[j].f∈eM xf k i:=(by rw[hfy];exact getElem_mem s9);have hyO:=uh HMO _ gW;have UT:=aaZ gW;have nX:(eM xf k i).drop j=L2[j].f::(eM xf k i).drop (j+1):=(by rw[hfy];exact drop_eq_getElem_cons s9);have fj:=(uh hJ).2.2.2.2.1;rw[nX,foldl_cons]at fj;have hokG:(l7 c ((L++Ea).map (·.f),sa) L2[j].f).2.ok=true:=gb (l7 c) (λr b h=>(mW h).1) ((eM xf k i).drop (j+1)) (by rw[fj];exact uh Yv);have Pv:=(mW hokG).2;obtain⟨y,hye⟩:∃y,y=L2[j]:=⟨_,rfl⟩;rw[<-hye]at ax hy OU FF hyO UT fj Pv;have hdy:∀q∈y.bs,q ∉ be (.slice lb (L++Ea).length ld) (L++Ea)/\q≠S/\q≠X/\w.heap.size<=q/\B<=q:=λq hq=>(uh hJ).2.2.2.1 q (FF q hq);have Hc:=ab (lJ hy hyO (by rw[UT];exact zq3 (uh HXT).ln (by omega)));have IN:y.p=.pointer (some ⟨y.A,0,none⟩):=rfl;rw[IN]at ax;have HFo:=ab fj;have HMo:=ab Pv;have HPn:=ab Ck;have HPd:=ab OU;have HDy:=ab hdy;have HYO:=ab hyO;have HJ:=ab (uh hJ);have k1:(0:Int)<=(j:Int):=(by omega);have k2:(j:Int)<(L2.length:Int):=(by omega);clear hy Ck OU FF s9 hfy gW hyO UT nX fj hokG Pv hdy IN hye hJ;rw[length_append]at HDy HJ ⊢;go_wp2_with fail
        refine(uh Hc).mono ?_;rintro e w5 ⟨rfl,av5,ov5,C2,gg⟩;have XI:∀q∈aG y.A av5 ov5,q ∉ be (.slice lb (L.length+Ea.length) ld) (L++Ea)/\q≠S/\q≠X/\w.heap.size<=q/\B<=q:=λq hq=>by
         rcases gg.foot q hq with p|p
         .exact uh HDy q p
         .exact⟨λhn=>by have h2:=(uh HJ).1.fl.lt q hn;omega,λe=>by have h2:=(uh HJ).1.bs.lt;omega,λe=>by have h2:=(uh HJ).1.xl;omega,zq3 (uh HJ).1.st.size p,zq3 (uh HJ).1.bb p⟩
        have ZD:=(uh HJ).1.side gg (λq hq=>⟨(uh HDy q hq).1,(uh HDy q hq).2.1,(uh HDy q hq).2.2.1,(uh HDy q hq).2.2.2.1⟩);have hP5:=(uh HPn).stp gg (λq hq hn=>(uh HPd q hq).2 hn);have Xi:∀q∈L++Ea,Td q.f:=λq hq=>by
         rcases mem_append.1 hq with h|h
         .exact uh HT q h
         .exact(uh HJ).2.1 q h
        have HIN:=ab (Lh C2.is (uh HYO).tidy ZD.fl Xi);have afj:∀q∈mX (.slice (some ⟨g2,0,none⟩) L2.length c2) L2 (j+1),(q ∉ be (.slice lb (L.length+Ea.length) ld) (L++Ea)/\q≠S/\q≠X/\w.heap.size<=q/\B<=q)/\q ∉ aG y.A av5 ov5:=λq hq=>⟨(uh HJ).2.2.2.1 q (uh HPd q hq).1,λhn=>by
         rcases gg.foot q hn with p|p
         .exact(uh HPd q hq).2 p
         .have:=(uh HPn).lt q hq;omega⟩
        have Wz:=ab C2;have adO:=ab ZD;have HP5:=ab hP5;have HSd:=ab XI;have EY:=ab afj;clear C2 gg XI ZD hP5 Xi afj Hc ax;go_wp2_with fail
        refine(uh HIN).mono ?_;rintro e w6 ⟨rfl,kS⟩;have KB:=(uh adO).below kS;have HP6:=ab ((uh HP5).below kS);have HF6:=ab ((uh Wz).below kS);clear HIN adO HP5 Wz;cases aH:XW ((L++Ea).map (·.f)) (aQ y.f)
        .have UA:l7 c ((L++Ea).map (·.f),sa) y.f=((L++Ea).map (·.f),sa):=(by unfold l7;rw[if_neg (by rw[aH];decide)]);have HN:Hid (Fn w w6 B (S::be (.slice va L.length vc) L) S (qt c0 hv lp kv wv c.bd sa.lf lo sa.fu) X xf (.slice lb (L.length+Ea.length) ld) (L++Ea)/\(∀y∈Ea,Td y.f)/\gm w6 B2 (.slice (some ⟨g2,0,none⟩) L2.length c2) L2 (j+1)/\(∀y∈mX (.slice (some ⟨g2,0,none⟩) L2.length c2) L2 (j+1),y ∉ be (.slice lb (L.length+Ea.length) ld) (L++Ea)/\y≠S/\y≠X/\w.heap.size<=y/\B<=y)/\((eM xf k i).drop (j+1)).foldl (l7 c) ((L++Ea).map (·.f),sa)=R1/\w.heap.size<=X):=ab ⟨KB,(uh HJ).2.1,uh HP6,λq hq=>(uh EY q hq).1,by have:=uh HFo;rw[UA]at this;exact this,(uh HJ).2.2.2.2.2⟩;clear UA aH KB kS HJ;go_wp2_with fail
         go_roundg (G2-1)
         case rel=>exact⟨j+1,Ea,sa,by omega,by go_num,HN⟩
         case measure=>omega
        .have UA:l7 c ((L++Ea).map (·.f),sa) y.f=((L++Ea).map (·.f)++[aQ y.f],sJ c { sa with ok:=sa.ok&&decide (((L++Ea).map (·.f)).length<=il) }):=(by unfold l7;rw[if_pos aH]);have dN:L.length+Ea.length<=900000:=by
          have:=uh HMo aH;rw[length_map,length_append]at this;unfold il at this;exact this
         have Ti:Hid (w6.ownsRow B 126 1 (.slice lb (L.length+Ea.length) ld) (L.length+Ea.length) ((L++Ea).map FE.p)):=ab (by have:=KB.fl.row;rwa [length_append]at this);have adP:=ab KB;have arj:=KB.bb;have HGG:=ab UA;clear UA aH KB kS;go_wp2_with (at_builtin;refine aS _ rfl (.tmp 52) (.tmp 54) 125 rfl B 126 i0 _ 1 8 underlying125 lr gX gy gK rfl (by decide) _ (L.length+Ea.length) ((L++Ea).map FE.p) rfl ((uh Ti).alloc _) ⟨_,0,none⟩ 1 [.pointer (some ⟨y.A,0,none⟩)] rfl rfl (aN _ _ (by simp) [.pointer (some ⟨y.A,0,none⟩)] _) (by intro u hu;simp only[mem_singleton]at hu;subst hu;rfl) (by omega) (by omega) (by simp;omega) ?_)
         intro g7 cap7 w7 iK dM gh;have zm:=lI dM (by simpa using gh);have Um:=(uh adP).app (x:=⟨y.A,aQ y.f,av5,ov5⟩) (g1:=g7) (c1:=cap7) (uh HF6) (uh HSd) (by rw[length_append,map_append,append_assoc];exact iK) dM (by simpa using gh);have hP7:=(uh HP6).stp zm (λq hq hn=>(uh EY q hq).1.1 (mem_append_left _ hn));have ZB:∀q∈mX (.slice (some ⟨g2,0,none⟩) L2.length c2) L2 (j+1),q ∉ be (.slice (some ⟨g7,0,none⟩) (L.length+Ea.length+1) cap7) (L++(Ea++[⟨y.A,aQ y.f,av5,ov5⟩])):=λq hq hn=>by
          rcases mem_append.1 hn with p|p
          .have e:q=g7:=(by simpa[Value.ownBlock,eq_comm] using p);subst e;rcases gh with e|e
           .exact(uh EY q hq).1.1 (mem_append_left _ (by rw[<-e];simp))
           .have:=(uh HP6).lt q hq;omega
          .rw[<-append_assoc,flatMap_append,mem_append]at p;rcases p with p|p
           .exact(uh EY q hq).1.1 (mem_append_right _ p)
           .simp only[flatMap_cons,flatMap_nil,append_nil]at p;exact(uh EY q hq).2 p
         rw[append_assoc,length_append]at Um;have L5:=ab (zO Um.bs);have adQ:=ab Um;have HP7:=ab hP7;have Yi:=ab ZB;clear iK dM gh zm Um hP7 ZB Ti adP HP6;go_wp2_with fail
         refine(uh L5).mono ?_;rintro e w8 ⟨rfl,O2,II⟩;have ZE:=(uh adQ).spend O2 II;have hP8:=(uh HP7).stp II (λq hq hn=>(uh EY q hq).1.2.1 (by simpa using hn));have hTE:∀q∈Ea++[(⟨y.A,aQ y.f,av5,ov5⟩:FE)],Td q.f:=λq hq=>by
          rcases mem_append.1 hq with h|h
          .exact(uh HJ).2.1 q h
          .rw[mem_singleton]at h;subst h;exact(uh HYO).tidy
         obtain⟨sb,Cu⟩:∃sb,sb=sJ c { sa with ok:=sa.ok&&decide (((L++Ea).map (·.f)).length<=il) }:=⟨_,rfl⟩;have yr:sb.lf=wrap64 (sa.lf-1):=(by rw[Cu];rfl);have hsf:sb.fu=(sa.fu||(decide (wrap64 (sa.lf-1)<0)&&c.bd)):=(by rw[Cu];rfl);rw[<-hsf,<-yr]at ZE;have O9:((eM xf k i).drop (j+1)).foldl (l7 c) ((L++(Ea++[(⟨y.A,aQ y.f,av5,ov5⟩:FE)])).map (·.f),sb)=R1:=by
          have:=uh HFo;rw[uh HGG,<-Cu]at this;rw[<-append_assoc,map_append];exact this
         have HN:=ab (zq2 ZE (zq2 hTE (zq2 hP8 (zq2 (λq hq=>zq2 (uh Yi q hq) (uh EY q hq).1.2) (zq2 O9 (uh HJ).2.2.2.2.2)))));clear O2 II ZE hP8 hTE Cu yr hsf O9 L5 adQ HP7 Yi HJ;go_wp2_with fail
         go_roundg (G2-1)
         case rel=>exact⟨j+1,Ea++[⟨y.A,aQ y.f,av5,ov5⟩],sb,by omega,by go_num,HN⟩
         case measure=>omega
       .have kY:decide ((j:Int)<(L2.length:Int))=false:=(by simp;omega);have s9:(eM xf k i).length<=j:=(by rw[<-uh EX,length_map];omega);have K9:((L++Ea).map (·.f),sa)=R1:=by
         have:=(uh hJ).2.2.2.2.1;rw[drop_eq_nil_of_le s9]at this;exact this
        have HN:Hid (Fn w wr B (S::be (.slice va L.length vc) L) S (qt c0 hv lp kv wv c.bd sa.lf lo sa.fu) X xf (.slice lb (L++Ea).length ld) (L++Ea)/\(∀y∈Ea,Td y.f)/\(List.range' (k+1) (24-(k+1))).foldl (oS c xf i) ((L++Ea).map (·.f),sa)=R/\w.heap.size<=X):=ab ⟨(uh hJ).1,(uh hJ).2.1,by rw[K9];exact uh G8,(uh hJ).2.2.2.2.2⟩;rw[length_append]at HN ⊢;clear s9 K9 hJ;go_wp2_with fail
        go_roundg (G-1)
        case rel=>exact⟨k+1,Ea,sa,by omega,by go_num,HN⟩
        case measure=>omega
   .rw[show decide (k∈jx xf)=false by simpa using hm]at d1 EW;have HN:=ab (uh WM (by rw[uh EW];simp));clear hm WM hI;go_wp2_with fail
    go_roundg (G-1)
    case rel=>exact⟨k+1,E,s',by omega,by go_num,uh HN⟩
    case measure=>omega
  .have hd:decide ((k:Int)<(24:Int))=false:=(by simp;omega);have kE:R=((L++E).map (·.f),s'):=by
    have:=(uh hI).2.2.1;rw[show 24-k=0 by omega]at this;exact this.symm
   have WB:=ab kE;clear kE;go_wp2_with fail
   go_ret;refine⟨_,E,rfl,(uh hI).1.fl,(uh hI).2.1,by rw[uh WB],?_,λhn=>((uh hI).1.ns S hn).1 rfl,(uh hI).1.st⟩;rw[uh WB];exact(uh hI).1.bs
end
