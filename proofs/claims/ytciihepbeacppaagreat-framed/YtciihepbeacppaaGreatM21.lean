import Derived.Test.YtciihepbeacppaaGreatGR
set_option maxRecDepth 100000
set_option maxHeartbeats 0
namespace Go.Proofs.YtciihepbeacppaaGreat
open Tryz Go.RowKit List World Below
set_option linter.unusedVariables false
theorem AV{al:List cn}(ht:rF al){a:cn}(ha:a∈al):(iP (gS al) a).l<24/\(iP (gS al) a).r<24:=by
 have h1:=AJ ht (ht a ha).1;have h2:=AJ ht (ht a ha).2;have e1:(iP (gS al) a).l=(gS al).getD (tm a).l 0:=rfl;have e2:(iP (gS al) a).r=(gS al).getD (tm a).r 0:=rfl;omega
theorem aeA{al:List cn}(ht:rF al):Rm (bf al):=by
 intro p hp;obtain⟨a,ha,rfl⟩:=mem_map.1 hp;exact AV ht (mem_filter.1 ha).1
def Js(A A':Nat):Array Value:=(#[Value.pointer (some ⟨A,0,none⟩),Value.pointer (some ⟨A',0,none⟩)].toList++(replicate 48 (Value.int .i64 0)++[Value.pointer none,Value.slice none 0 0,Value.int .i64 0,Value.slice none 0 0,Value.int .i64 128])).toArray
theorem Do(w:World)(A A':Nat):Sn (w.alloc (.cells (Js A A') 202)) w.heap.size A A' 128 (replicate 24 (.int .i64 0)) (replicate 24 (.int .i64 0)++[.pointer none,.slice none 0 0,.int .i64 0,.slice none 0 0,.int .i64 128]) :=
 ⟨ownsRow_lit (base:=0) (e:=202) (size:=55) w (Js A A') 1 (zq5 _) (by simp[maxLen]) rfl,by simp,_,_,_,_,_,rfl,by simp⟩
section
variable {w:World} {D A D' A':Nat} {s t:CF} {av ov av' ov':Value}
theorem wX(h:rs w D A s av ov)(h':rs w D' A' t av' ov')(hT:Td s)(ZK:Td t):Calls prog 231 #[.pointer (some ⟨D,0,none⟩),.pointer (some ⟨D',0,none⟩)] w λe w'=>e=.returned (.bool (xF s t))/\Below w.heap.size w w':=by
 have HHR:Hid (∀m:Nat,Calls prog 252 #[.pointer (some ⟨D,0,none⟩),.pointer (some ⟨D',0,none⟩)] (w.drewN m) λe w'=>e=.returned (.bool (roB s t))/\∃j,w'=w.drewN j):=ab (λm=>(CI (w:=w.drewN m) (h.of_eq (λ_ _=>rfl)) (h'.of_eq (λ_ _=>rfl)) hT.ok ZK.ok).mono (λe w' hw=>⟨hw.1,by obtain⟨n,rfl⟩:=hw.2;exact⟨_,drewN_drewN _ _ _⟩⟩));have EE:Hid (∀m:Nat,Calls prog 253 #[.pointer (some ⟨D,0,none⟩),.pointer (some ⟨D',0,none⟩)] (w.drewN m) λe w'=>e=.returned (.bool (RW s t))/\∃j,w'=w.drewN j):=ab (λm=>(yc (w:=w.drewN m) (h.of_eq (λ_ _=>rfl)) (h'.of_eq (λ_ _=>rfl))).mono (λe w' hw=>⟨hw.1,by obtain⟨n,rfl⟩:=hw.2;exact⟨_,drewN_drewN _ _ _⟩⟩));have Ir:xF s t=(roB s t&&RW s t&&(match xP s t [0,1,2,3,4] (replicate 24 none) with|none=>false|some an=>(D9 s t an 128).1)):=rfl;obtain⟨R,hR⟩:∃R,R=xF s t:=⟨_,rfl⟩;rw[<-hR];rw[<-hR]at Ir;have HW:=ab Ir;have H:=ab h;have H':=ab h';have HT:=ab hT;have HT':=ab ZK;have f1:=h.fo;have f2:=h'.fo;clear h h' hT ZK Ir hR;go_enter func231,ntmps231;go_wp2_with fail
 refine(uh HHR 0).mono ?_;rintro e w1 ⟨rfl,n1,rfl⟩;cases C3:roB s t
 .have HE:Hid (R=false):=ab (by rw[uh HW,C3];rfl);clear C3;go_wp2_with fail
  go_ret;exact⟨aB (uh HE).symm,gz _ _⟩
 .go_wp2_with fail
  refine(uh EE n1).mono ?_;rintro e w2 ⟨rfl,n2,rfl⟩;cases hlk:RW s t
  .have HE:Hid (R=false):=ab (by rw[uh HW,C3,hlk];rfl);clear C3 hlk;go_wp2_with fail
   go_ret;exact⟨aB (uh HE).symm,gz _ _⟩
  .have HE:Hid (R=(match xP s t [0,1,2,3,4] (replicate 24 none) with|none=>false|some an=>(D9 s t an 128).1)):=ab (by rw[uh HW,C3,hlk];rfl);clear C3 hlk;go_wp2_with fail
   go_region
   obtain⟨W,hW⟩:∃W,W=w.drewN (n2+1):=⟨_,rfl⟩;rw[<-hW];have hbW:Below w.heap.size w W:=(by rw[hW];exact gz w _);have nV:W.heap.size=w.heap.size:=(by rw[hW];rfl);have h1:=(uh H).below hbW;have h1':=(uh H').below hbW;have HNf:Hid (∀k∈aH A av ov,k≠W.heap.size):=ab (λk hk=>by have:=h1.ff.lt k hk;omega);have HNt:Hid (∀k∈aH A' av' ov',k≠W.heap.size):=ab (λk hk=>by have:=h1'.ff.lt k hk;omega);have HDn:Hid (D≠W.heap.size):=ab (by have:=h1.bk.lt;omega);have R8:=ab hbW;have HI:=ab h1;have xd:=ab h1';rw[show w.heap.size=W.heap.size from nV.symm];clear hW hbW nV h1 h1' f1 f2;go_wp2_with fail
   refine(Nz (F:=s) (T:=t) (Do W A A') ((uh HI).ff.alloc _) ((uh xd).ff.alloc _) (uh HNf) (uh HNt) (λi _=>(uh HT').ok.get i)).mono ?_;rintro e w4 ⟨rfl,hsq,aV⟩;have nR:Below W.heap.size W w4:=((au.refl [W.heap.size] W).alloc _).trans aV |>.below (zq4 _) (by simp);have zq:=ab nR;have mp:rs w4 D A s av ov:=((uh HI).below (ah W (.cells (Js A A') 202))).of_eq (λk hk=>aV.blk k (zq6 ((uh HI).lt k hk) (ah W _).size) (by
    rcases mem_cons.1 hk with rfl|hk
    .exact uh HDn
    .exact uh HNf k hk))
   have rU:ew w4 A' t av' ov':=((uh xd).ff.alloc (.cells (Js A A') 202)).of_eq (λk hk=>aV.blk k (((uh xd).ff.alloc _).lt k hk) (uh HNt k hk));have HSQ:=ab hsq;have oJ:=ab mp;have V8:=ab rU;clear hsq aV nR mp rU HI xd;cases kS:xP s t [0,1,2,3,4] (replicate 24 none) with
   |none =>
    rw[kS]at HE HSQ;have yh:Hid (R=false):=ab (uh HE);clear HSQ HE kS;go_wp2_with fail
    go_ret;exact⟨aB (uh yh).symm,(uh R8).trans ((uh zq).mono (uh R8).size)⟩
   |some an =>
    rw[kS]at HE;have yh:Hid (R=(D9 s t an 128).1):=ab (uh HE);have f0:=(uh oJ).fo;have c6:=(uh oJ).ff.c6;have LZ:Se w4 W.heap.size A A' an s t av ov av' ov' 128:=⟨uh HSQ an kS,(uh oJ).ff,uh V8,uh HNf,uh HNt⟩;have iE:=(uh HT).ok.owLen;have ar1:=(uh HT').ok.owLen;have DY:=ab (NZ LZ (uh oJ).ff.ow (λk hk=>uh HNf k (by simp[aH,hk])) (by omega) (by omega) (uh HT').ok.ow (uh HT').ok.ap);obtain⟨oa,oc,gj,-,-⟩:=aj (uh oJ).ff.ow;subst gj;clear LZ HSQ kS HE;go_wp2_with fail
    refine(uh DY).mono ?_;rintro e w5 ⟨rfl,v5,ov5,pv5,-,qC,-⟩;have lH:Hid (Below W.heap.size W w5):=ab ⟨qC.os.trans (uh zq).os,qC.tape.trans (uh zq).tape,qC.output.trans (uh zq).output,zq3 (uh zq).size qC.size,λk hk=>(qC.block k (zq6 hk (uh zq).size) (by simp;omega)).trans ((uh zq).block k hk)⟩;clear qC DY;go_wp2_with fail
    go_ret;exact⟨aB (by rw[uh yh];rfl),(uh R8).trans ((uh lH).mono (uh R8).size)⟩
end
theorem PH(w:World)(f:CF):∃M,M=dd (Ev f)/\M.length=24/\(w.alloc (.cells (dd (replicate 24 false)).toArray 240)).there w.heap.size 0 M.toArray.size/\(prog.info? 240).map (·.size)=some M.toArray.size/\M.toArray.all (·.oneCell')=true /\
  Ob ((w.alloc (.cells (dd (replicate 24 false)).toArray 240)).setCells w.heap.size 0 M) 240 24 w.heap.size (dd (Ev f))/\Below w.heap.size w ((w.alloc (.cells (dd (replicate 24 false)).toArray 240)).setCells w.heap.size 0 M):=by
 have fy:(dd (Ev f)).length=24:=by simp[dd,Ev]
 have hX:=zP w;refine⟨dd (Ev f),rfl,fy,?_,?_,?_,?_,?_⟩
 .intro j hj;rw[size_toArray,fy]at hj;obtain⟨⟨u,hu⟩,hz⟩:=hX.some (j:=j) hj;rw[Nat.zero_add];exact⟨by rw[hu];rfl,hz⟩
 .rw[size_toArray,fy];exact infoB24
 .exact all_oneCell_toArray (by
   intro v hv;obtain⟨o,_,rfl⟩:=mem_map.1 hv;rfl)
 .have h5:=Ob.setCells (dd (Ev f)) 0 hX;have KR:=nI (dd (Ev f)) [] (dd (replicate 24 false)) [] (by rw[fy];rfl);simp only[nil_append,append_nil,length_nil]at KR;rw[KR]at h5;exact h5
 .have Oc:∀(vs:List Value) (o:Nat) (x:World),Below w.heap.size w x->Below w.heap.size w (x.setCells w.heap.size o vs):=by
   intro vs;induction vs with
   |nil=>intro o x h;exact h
   |cons v r ih=>intro o x h;exact ih (o+1) _ (h.setCell (zq4 _) v)
  exact Oc _ 0 _ (ah w _)
theorem AX(f:CF){c:Nat}(hc:c<24):(Ev f).getD c false=decide (c∈pw f):=by
 unfold Ev;rw[getD_eq_getElem?_getD,getElem?_map,getElem?_range hc];rfl
theorem AY(f:CF):(Ev f).length=24:=by simp[Ev]
def BZ(f:CF)(k:Nat):List Nat:=(range k).filter (λi=>!decide ((owA f i).l∈pw f))
theorem PM(f:CF)(k:Nat):BZ f (k+1)=BZ f k++(if (owA f k).l∈pw f then [] else [k]):=by
 unfold BZ;rw[range_succ,filter_append];congr 1;by_cases h:(owA f k).l∈pw f <;> simp[h]
theorem UT(f:CF)(k:Nat):(BZ f k).length<=k:=by
 unfold BZ;exact zq3 (length_filter_le _ _) (by simp)
section
variable {w:World} {A:Nat} {f:CF} {av ov:Value}
theorem vK(h:ew w A f av ov)(hO:aq f):Calls prog 200 #[.pointer (some ⟨A,0,none⟩)] w λe w'=>∃v,e=.returned v/\w'.ownsRow w.heap.size 3 1 v (fj f).length (se (fj f))/\Below w.heap.size w w':=by
 obtain⟨i0,k9,gX,fK,f9⟩:=info_parts infoInt;have iE:=hO.owLen;have D4:=ab (nG h hO);have H:=ab h;have HO:=ab hO;clear h hO;go_enter func200,ntmps200;go_wp2_with fail
 refine(uh D4).mono ?_;rintro e w1 ⟨rfl,bH⟩;obtain⟨M,hM,fy,BM,cg,CG,BJ,cH⟩:=PH w1 f;rw[<-hM];have B7:=ab BM;have d7:=ab cg;have RE:=ab CG;obtain⟨X,gV⟩:∃X,X=w1.heap.size:=⟨_,rfl⟩;obtain⟨W2,jt⟩:∃W2,W2=(w1.alloc (.cells (dd (replicate 24 false)).toArray 240)).setCells w1.heap.size 0 M:=⟨_,rfl⟩;rw[<-jt]at BJ cH;rw[<-gV]at BJ;have aU:=bH.trans (cH.mono bH.size);have St:=ab BJ;have eu:=ab aU;have HXw:Hid (w.heap.size<=X):=ab (by rw[gV];exact bH.size);clear BM cg CG BJ cH bH aU hM D4;simp only[dd,replicate,map_cons,map_nil]at jt;go_upto_region 2 with(refine wpList_store_mid rfl 240 (.tmp 3) (.tmp 7) rfl _ 0 M.toArray rfl rfl (uh B7) (uh d7) (uh RE) ?_);rw[<-jt,<-gV];clear jt gV B7 d7 RE fy;have uC:Hid ((W2.alloc (.cells #[] 3)).ownsRow w.heap.size 3 1 (.slice (some ⟨W2.heap.size,0,none⟩) 0 0) (BZ f 0).length (se (BZ f 0))/\Below W2.heap.size W2 (W2.alloc (.cells #[] 3))):=ab ⟨ej (ownsRow_lit (base:=W2.heap.size) (e:=3) (size:=1) W2 #[] 0 (zq4 _) (by simp[maxLen]) rfl) (uh eu).size,ah W2 _⟩;go_wp2_with fail
 go_loopg [4,5] f.ow.length (λgn lv iv wx=>∃(k:Nat),k+gn=f.ow.length/\iv=.int .i64 k/\Hid (wx.ownsRow w.heap.size 3 1 lv (BZ f k).length (se (BZ f k))/\Below W2.heap.size W2 wx/\∀j,lv.ownBlock=some j->W2.heap.size<=j))
 case atStart=>exact⟨0,by omega,rfl,ab ⟨(uh uC).1,(uh uC).2,λj hj=>by simp only[Value.ownBlock,Option.some.injEq]at hj;omega⟩⟩
 case round =>
  clear uC;obtain⟨k,fJ,rfl,hI⟩:=hrel;obtain⟨G,hG⟩:∃G,G=gk:=⟨_,rfl⟩;obtain⟨la,lc,ic,-,-⟩:=aj (uh hI).1;subst ic;have hF:=((uh H).below (uh eu)).below (uh hI).2.1;have sR:=(uh St).of_eq (w':=wr) ((uh hI).2.1.block X (ownsRow.lt (uh St) X rfl).2);have c6:=hF.c6;obtain⟨oa,oc,gj,-,-⟩:=aj hF.ow;subst gj;by_cases ar:k<f.ow.length
  .have hd:decide ((k:Int)<(f.ow.length:Int))=true:=(by simp;omega);obtain⟨go,gc,oQ,-,-⟩:=aE hF.ow ar;simp only[Value.slice.injEq,true_and]at oQ;obtain⟨rfl,rfl⟩:=oQ;obtain⟨-,y1,-⟩:=aD hF.ow ar;have mK:=((uh HO).ow _ (bG ar)).1;have aV:=PM f k;have hoe:owA f k=f.ow.getD k ax:=rfl;rw[hoe]at aV;obtain⟨p,hp⟩:∃p,p=f.ow.getD k ax:=⟨_,rfl⟩;rw[<-hp]at y1 mK aV;have d1:=(ownsRow.cellAt sR p.l (by omega)).trans (fG (by rw[AY];exact mK));rw[AX f mK]at d1;have i1:(0:Int)<=(k:Int):=(by omega);have i2:(k:Int)<(f.ow.length:Int):=(by omega);have i3:(p.l:Int)<24:=(by omega);have dL:=UT f k;by_cases hm:p.l∈pw f
   .rw[show decide (p.l∈pw f)=true by simpa using hm]at d1;rw[if_pos hm,append_nil]at aV;have HN:Hid (wr.ownsRow w.heap.size 3 1 (.slice la (BZ f k).length lc) (BZ f (k+1)).length (se (BZ f (k+1)))/\Below W2.heap.size W2 wr/\∀j,(Value.slice la (BZ f k).length lc).ownBlock=some j->W2.heap.size<=j):=ab (by rw[aV];exact uh hI);clear hF sR hp aV hoe hm hI;go_wp2_with fail
    go_roundg (G-1)
    case rel=>exact⟨k+1,by omega,by go_num,HN⟩
    case measure=>omega
   .rw[show decide (p.l∈pw f)=false by simpa using hm]at d1;rw[if_neg hm]at aV;have HR:=ab (uh hI).1;have zr:=ab (uh hI).2;have db:=ab aV;have asl:=(uh eu).size;have asf:=(uh hI).2.1.size;obtain⟨L,hL⟩:∃L,L=BZ f k:=⟨_,rfl⟩;rw[<-hL]at HR zr db dL hI ⊢;clear hF sR hp aV hoe hm hI hL;go_wp2_with (at_builtin;refine aS _ rfl (.tmp 29) (.tmp 31) 29 rfl w.heap.size 3 i0 _ 1 8 underlying29 k9 gX fK f9 rfl (by decide) _ L.length (se L) rfl ((uh HR).alloc _) ⟨_,0,none⟩ 1 [.int .i64 (k:Int)] rfl rfl (aN _ _ (by simp) [.int .i64 (k:Int)] _) (by intro u hu;simp only[mem_singleton]at hu;subst hu;rfl) (by omega) (by omega) (by simp;omega) ?_)
    intro g4 cap4 w4 iG eg jG;have HN:Hid (w4.ownsRow w.heap.size 3 1 (.slice (some ⟨g4,0,none⟩) (L.length+1) cap4) (BZ f (k+1)).length (se (BZ f (k+1)))/\Below W2.heap.size W2 w4/\∀j,(Value.slice (some ⟨g4,0,none⟩) (L.length+1) cap4).ownBlock=some j->W2.heap.size<=j):=ab ⟨by
     rw[uh db,length_append,length_singleton];show w4.ownsRow _ _ _ _ _ (List.map _ (L++[k]));rw[map_append];exact iG,by
     have hb:=(uh zr).1.alloc (uh zr).1.size (.cells #[.int .i64 (k:Int)] 3);exact hb.grown eg hb.size (λq hq=>(uh zr).2 q hq),λj hj=>by
     have e:j=g4:=(by simpa[Value.ownBlock,eq_comm] using hj);subst e;rcases jG with q|q
     .exact(uh zr).2 j q.symm
     .omega⟩
    clear iG eg jG HR zr;go_wp2_with fail
    go_roundg (G-1)
    case rel=>exact⟨k+1,by omega,by go_num,HN⟩
    case measure=>omega
  .have hd:decide ((k:Int)<(f.ow.length:Int))=false:=(by simp;omega);have kk:BZ f k=fj f:=(by unfold BZ fj;rw[show k=f.ow.length by omega]);rw[kk]at hI ⊢;clear kk hF sR;go_wp2_with fail
   go_ret;exact⟨_,rfl,(uh hI).1,(uh eu).trans ((uh hI).2.1.mono (uh eu).size)⟩
end
section
variable {w:World} {A:Nat} {f:CF} {av ov:Value}
theorem LF(h:ew w A f av ov)(hO:aq f)(ha:f.ap.length<=40000):Calls prog 233 #[.pointer (some ⟨A,0,none⟩)] w λe w'=>∃A',e=.returned (.pointer (some ⟨A',0,none⟩))/\JO w (VZ f) A' w':=by
 have iE:=hO.owLen;have D4:=ab (nG h hO);have H:=ab h;have HO:=ab hO;clear h hO;go_enter func233,ntmps233;go_wp2_with fail
 refine(uh D4).mono ?_;rintro e w1 ⟨rfl,bH⟩;obtain⟨M,hM,fy,BM,cg,CG,BJ,cH⟩:=PH w1 f;rw[<-hM];have B7:=ab BM;have d7:=ab cg;have RE:=ab CG;obtain⟨X,gV⟩:∃X,X=w1.heap.size:=⟨_,rfl⟩;obtain⟨W2,jt⟩:∃W2,W2=(w1.alloc (.cells (dd (replicate 24 false)).toArray 240)).setCells w1.heap.size 0 M:=⟨_,rfl⟩;rw[<-jt]at BJ cH;rw[<-gV]at BJ;have aU:=bH.trans (cH.mono bH.size);have St:=ab BJ;have eu:=ab aU;have qb:=(uh H).below aU;have kM:=ab (cK qb (uh HO).c5 ha (zq3 iE (by omega)));have xI:=ab qb;clear BM cg CG BJ cH bH aU hM D4 qb;simp only[dd,replicate,map_cons,map_nil]at jt;go_upto_region 2 with(refine wpList_store_mid rfl 240 (.tmp 3) (.tmp 8) rfl _ 0 M.toArray rfl rfl (uh B7) (uh d7) (uh RE) ?_);rw[<-jt,<-gV];clear jt gV B7 d7 RE fy;go_wp2_with fail
 refine(uh kM).mono ?_;rintro e w3 ⟨A3,rfl,BI⟩;obtain⟨av3,ov3,mY⟩:=BI.frf
 -- its owners are dropped
 have cf:=ah w3 (.cells #[] 182);have Pj:=ownsRow_lit (base:=w3.heap.size) (e:=182) (size:=3) w3 #[] 0 (zq4 _) (by simp[maxLen]) rfl;have r8:au ov3.ownBlock.toList w3 (Value.slice (some ⟨w3.heap.size,0,none⟩) 0 0).ownBlock.toList (w3.alloc (.cells #[] 182)):=(au.ofBw (F:=ov3.ownBlock.toList) cf).foots (λj hj=>zq1 (Pj.lt j (by simpa using hj)).1);obtain⟨rU,fh⟩:=mY.fm.newOv (ow':=[]) r8 (v':=.slice (some ⟨w3.heap.size,0,none⟩) 0 0) (λj hj=>by simpa using hj) (ej Pj (zq5 _));obtain⟨W4,xT⟩:∃W4,W4=(w3.alloc (.cells #[] 182)).setCell ⟨A3,6,none⟩ (.slice (some ⟨w3.heap.size,0,none⟩) 0 0):=⟨_,rfl⟩;rw[<-xT]at rU fh;have Ab:=mY.step (x':=⟨A3,{ f with ow:=[] },av3,.slice (some ⟨w3.heap.size,0,none⟩) 0 0⟩) rU fh;have e6:=(mY.fm.below cf).is.c6;have z6:=ownsRow.frozenAt (mY.fm.below cf).is.ob 6;obtain⟨sv,hsv⟩:∃sv,sv=Value.slice (some ⟨w3.heap.size,0,none⟩) 0 0:=⟨_,rfl⟩;rw[<-hsv]at Ab;have cG:Hid (Ml W2 W4 ⟨A3,{ f with ow:=(f.ow.take 0).filter (λp=>decide (p.l∈pw f)) },av3,sv⟩):=ab Ab;have c6:=((uh xI).below Ab.bw).c6;obtain⟨oa,oc,gj,-,-⟩:=aj (uh xI).ow;subst gj;clear BI mY cf Pj r8 rU fh Ab hsv kM;go_upto_region 4 with fail;rw[<-xT];clear xT e6 z6;go_wp2_with fail
 go_loopg [20] f.ow.length (λgn iv wx=>∃(m:Nat) (ow5:Value),m+gn=f.ow.length/\iv=.int .i64 m/\Hid (Ml W2 wx ⟨A3,{ f with ow:=(f.ow.take m).filter (λp=>decide (p.l∈pw f)) },av3,ow5⟩))
 case atStart=>exact⟨0,sv,by omega,rfl,cG⟩
 case round =>
  clear cG c6;obtain⟨m,ow5,hmn,rfl,hI⟩:=hrel;obtain⟨G,hG⟩:∃G,G=gk:=⟨_,rfl⟩;have hF:=(uh xI).below (uh hI).bw;have kT:((f.ow.take m).filter (λp=>decide (p.l∈pw f))).length<=24:=zq3 (length_filter_le _ _) (by rw[length_take];omega);by_cases ar:m<f.ow.length
  .have hd:decide ((m:Int)<(f.ow.length:Int))=true:=(by simp;omega);obtain⟨go,gc,oQ,-,-⟩:=aE hF.ow ar;simp only[Value.slice.injEq,true_and]at oQ;obtain⟨rfl,rfl⟩:=oQ;obtain⟨y0,y1,y2⟩:=aD hF.ow ar;have mK:=((uh HO).ow _ (bG ar)).1;have aV:=yD (P:=λp=>decide (p.l∈pw f)) ar;obtain⟨p,hp⟩:∃p,p=f.ow.getD m ax:=⟨_,rfl⟩;rw[<-hp]at y0 y1 y2 mK aV;obtain⟨W5,sM⟩:∃W5,W5=wr.alloc (.cells #[Value.int .i64 p.k,.int .i64 p.l,.int .i64 p.r] 182):=⟨_,rfl⟩;have cf:Below wr.heap.size wr W5:=(by rw[sM];exact ah wr _);have mX:Bk W5 wr.heap.size 182 [Value.int .i64 p.k,.int .i64 p.l,.int .i64 p.r]:=(by rw[sM];exact Bk.new wr _ _);obtain⟨Y,xo⟩:∃Y,Y=wr.heap.size:=⟨_,rfl⟩;rw[<-xo]at mX;have b0:=mX.cell 0 rfl;have b1:=mX.cell 1 rfl;have b2:=mX.cell 2 rfl;have rV:=(uh hI).below cf;have sR:=(uh St).of_eq (w':=W5) (rV.bw.block X (ownsRow.lt (uh St) X rfl).2);have d1:=(ownsRow.cellAt sR p.l (by omega)).trans (fG (by rw[AY];exact mK));rw[AX f mK]at d1;have i1:(0:Int)<=(m:Int):=(by omega);have i2:(m:Int)<(f.ow.length:Int):=(by omega);have i3:(p.l:Int)<24:=(by omega);have H5:=ab rV;by_cases hm:p.l∈pw f
   .rw[show decide (p.l∈pw f)=true by simpa using hm]at d1 aV;have yi:=ab (qN rV.fm p.k p.l p.r (zq3 kT (by omega)));have db:=ab aV;clear hF hp aV cf mX rV sR hm hI kT;go_upto_region 7 with fail;rw[<-sM,<-xo];clear sM xo;go_wp2_with fail
    refine(uh yi).mono ?_;rintro e w6 ⟨rfl,ov6,TK,Kr⟩;have HN:Hid (Ml W2 w6 ⟨A3,{ f with ow:=(f.ow.take (m+1)).filter (λp=>decide (p.l∈pw f)) },av3,ov6⟩):=ab ((uh H5).step (by rw[uh db];exact TK) Kr);clear TK Kr yi H5;go_wp2_with fail
    go_roundg (G-1)
    case rel=>exact⟨m+1,ov6,by omega,by go_num,HN⟩
    case measure=>omega
   .rw[show decide (p.l∈pw f)=false by simpa using hm]at d1 aV;have HN:Hid (Ml W2 W5 ⟨A3,{ f with ow:=(f.ow.take (m+1)).filter (λp=>decide (p.l∈pw f)) },av3,ow5⟩):=ab (by rw[aV];simpa using rV);clear hF hp aV cf mX rV sR hm hI kT H5;go_upto_region 7 with fail;rw[<-sM,<-xo];clear sM xo;go_wp2_with fail
    go_roundg (G-1)
    case rel=>exact⟨m+1,ow5,by omega,by go_num,HN⟩
    case measure=>omega
  .have hd:decide ((m:Int)<(f.ow.length:Int))=false:=(by simp;omega);have hte:f.ow.take m=f.ow:=take_of_length_le (by omega);rw[hte]at hI kT;have hOg:aq { f with ow:=f.ow.filter (λp=>decide (p.l∈pw f)) }:=aq.mk' (uh HO).c5 (uh HO).cl' (λp hp=>(uh HO).ow p (mem_filter.1 hp).1) (uh HO).ap ((uh HO).lf.sublist (filter_sublist.map _)) (uh HO).kd;have GR:=ab (lD (uh hI).fm hOg (zq3 ha (by omega)));clear hte hOg hF kT;go_wp2_with fail
   refine(uh GR).mono ?_;rintro e w7 ⟨rfl,av7,ov7,TL,Ee⟩;have vq:=(uh hI).step (x':=⟨A3,VZ f,av7,ov7⟩) TL Ee;have HN:Hid (JO w (VZ f) A3 w7):=ab ⟨av7,ov7,vq.fm,λk hk=>zq3 (uh eu).size (vq.ge k hk),(uh eu).trans (vq.bw.mono (uh eu).size)⟩;clear TL Ee vq GR;go_wp2_with fail
   go_ret;exact⟨A3,rfl,uh HN⟩
end
section
variable {w:World} {A:Nat} {f:CF} {av ov:Value} {B:Nat} {v:Value} {L:List FE}
theorem KZ(h:ew w A f av ov)(hf:Td f)(hL:Fl w B v L)(hT:∀x∈L,Td x.f):Calls prog 256 #[v,.pointer (some ⟨A,0,none⟩)] w λe w'=>e=.returned (.bool (neB (L.map (·.f)) f))/\Below w.heap.size w w':=by
 obtain⟨R,hR⟩:∃R,R=neB (L.map (·.f)) f:=⟨_,rfl⟩;rw[<-hR];have HR:=ab hR;obtain⟨la,lc,ic,xB,vt⟩:=aj hL.row;subst ic;have H:=ab h;have HL:=ab hL;have HTf:=ab hf;have HT:=ab hT;have cG:Hid (Below w.heap.size w w/\∀i,i<0->∀x,L[i]?=some x->Vw f x.f=false):=ab ⟨Below.refl _ _,λi hi=>by omega⟩;clear h hf hL hT hR;go_enter func256,ntmps256;go_wp2_with fail
 go_loopg [9] L.length (λgn iv wx=>∃(k:Nat),k+gn=L.length/\iv=.int .i64 k/\Hid (Below w.heap.size w wx/\∀i,i<k->∀x,L[i]?=some x->Vw f x.f=false))
 case atStart=>exact⟨0,by omega,rfl,cG⟩
 case round =>
  clear cG;obtain⟨k,fJ,rfl,hI⟩:=hrel;obtain⟨G,hG⟩:∃G,G=gk:=⟨_,rfl⟩;by_cases ar:k<L.length
  .have hd:decide ((k:Int)<(L.length:Int))=true:=(by simp;omega);have Zx:=(uh HL).below (uh hI).1;obtain⟨g2,cap2,dx,ay⟩:=Zx.pend.cell ar;simp only[Value.slice.injEq,true_and]at dx;obtain⟨rfl,rfl⟩:=dx;have hx:=Zx.fm _ (getElem_mem ar);have htx:=uh HT _ (getElem_mem ar);have hg:L[k]?=some L[k]:=getElem?_eq_getElem ar;obtain⟨x,BX⟩:∃x,x=L[k]:=⟨_,rfl⟩;rw[<-BX]at ay hx htx hg;have Ai:x.p=.pointer (some ⟨x.A,0,none⟩):=rfl;rw[Ai]at ay;have GP:=ab (QQ ((uh H).below (uh hI).1) hx.is (zq3 (uh HTf).ln (by omega)) (zq3 (uh HTf).ok.owLen (by omega)) (zq3 htx.ln (by omega)) (zq3 htx.ok.owLen (by omega)));have HG:=ab hg;have i1:(0:Int)<=(k:Int):=(by omega);have i2:(k:Int)<(L.length:Int):=(by omega);clear Zx hx htx hg BX Ai;go_wp2_with fail
   refine(uh GP).mono ?_;rintro e w3 ⟨rfl,du⟩;have s8:=ab ((uh hI).1.trans (du.mono (uh hI).1.size));clear du GP;cases FM:Vw f x.f
   .go_wp2_with fail
    go_roundg (G-1)
    case rel=>exact⟨k+1,by omega,by go_num,ab ⟨uh s8,λi hi y hy=>by
     by_cases e:i=k
     .rw[e,uh HG]at hy;injection hy with hy;rw[<-hy];exact FM
     .exact(uh hI).2 i (by omega) y hy⟩⟩
    case measure=>omega
   .have HE:Hid (R=false):=ab (by
     rw[uh HR];unfold neB;have:(L.map (·.f)).any (λg=>Vw f g)=true:=by
      rw[any_eq_true];exact⟨x.f,mem_map_of_mem (mem_of_getElem? (uh HG)),FM⟩
     rw[this];rfl)
    clear FM;go_wp2_with fail
    go_ret;exact⟨aB (uh HE).symm,uh s8⟩
  .have hd:decide ((k:Int)<(L.length:Int))=false:=(by simp;omega);have HE:Hid (R=true):=ab (by
    rw[uh HR];unfold neB;have:(L.map (·.f)).any (λg=>Vw f g)=false:=by
     rw[any_eq_false];intro g hg;obtain⟨x,hx,rfl⟩:=mem_map.1 hg;obtain⟨i,hi,rfl⟩:=mem_iff_getElem.1 hx;rw[(uh hI).2 i (by omega) _ (getElem?_eq_getElem hi)];simp
    rw[this];rfl)
   go_wp2_with fail
   go_ret;exact⟨aB (uh HE).symm,(uh hI).1⟩
end
def qi(c0 hv:Value)(lp:Bool)(kv wv:Value)(bd:Bool)(lf lo:Int)(fu:Bool):List Value:=[c0,hv,.bool lp,kv,wv,.bool bd,.int .i64 lf,.int .i64 lo,.bool fu]
section
variable {w:World} {S:Nat} {c0 hv kv wv:Value} {lp bd fu:Bool} {lf lo:Int}
theorem zn(h:Bk w S 229 (qi c0 hv lp kv wv bd lf lo fu)):Calls prog 232 #[.pointer (some ⟨S,0,none⟩)] w λe w'=>e=.returned (.tuple #[])/\Bk w' S 229 (qi c0 hv lp kv wv bd (wrap64 (lf-1)) lo (fu||(decide (wrap64 (lf-1)<0)&&bd)))/\au [S] w [S] w':=by
 have c6:=h.cell 6 rfl;have z6:=h.frz 6;have hq:IntKind.i64.wrap (lf-1)=wrap64 (lf-1):=by rw[IntKind.wrap_i64,wrap64]
 obtain⟨l',RR⟩:∃l',l'=wrap64 (lf-1):=⟨_,rfl⟩;rw[<-RR]at hq ⊢;have h2:=h.set 6 (.int .i64 l');have d6:=h2.cell 6 rfl;have d5:=h2.cell 5 rfl;have d8:=h2.cell 8 rfl;have z8:=h2.frz 8;have gQ:au [S] w [S] (w.setCell ⟨S,6,none⟩ (.int .i64 l')):=(au.refl _ _).setCell (p:=⟨S,6,none⟩) (zq0 (by simp)) _;have f8:au [S] w [S] ((w.setCell ⟨S,6,none⟩ (.int .i64 l')).setCell ⟨S,8,none⟩ (.bool true)):=gQ.setCell (p:=⟨S,8,none⟩) (zq0 (by simp)) _;have H2:=ab h2;have H3:=ab (h2.set 8 (.bool true));have cS:=ab gQ;have gu:=ab f8;clear h h2 gQ f8 RR;by_cases hn:l'<0
 .have d0:decide (l'<(0:Int))=true:=by simpa using hn
  cases bd
  .have HE:Hid ((fu||(decide (l'<0)&&false))=fu):=ab (by simp);clear hn;go_enter func232,ntmps232;go_wp2_with fail
   go_end0
   exact⟨rfl,by rw[uh HE];exact uh H2,uh cS⟩
  .have HE:Hid ((fu||(decide (l'<0)&&true))=true):=ab (by simp[hn]);clear hn;go_enter func232,ntmps232;go_wp2_with fail
   go_end0
   exact⟨rfl,by rw[uh HE];exact uh H3,uh gu⟩
 .have d0:decide (l'<(0:Int))=false:=by simpa using hn
  have HE:Hid ((fu||(decide (l'<0)&&bd))=fu):=ab (by rw[d0];simp);clear hn;go_enter func232,ntmps232;go_wp2_with fail
  go_end0
  exact⟨rfl,by rw[uh HE];exact uh H2,uh cS⟩
theorem PO(h:Bk w S 229 (qi c0 hv lp kv wv bd lf lo fu))(n:Nat):Calls prog 230 #[.pointer (some ⟨S,0,none⟩),.int .i64 n] w λe w'=>e=.returned (.tuple #[])/\Bk w' S 229 (qi c0 hv lp kv wv bd lf (wrap64 (lo-n)) (fu||(decide (wrap64 (lo-n)<0)&&bd)))/\au [S] w [S] w':=by
 have c6:=h.cell 7 rfl;have z6:=h.frz 7;have hq:IntKind.i64.wrap (lo-(n:Int))=wrap64 (lo-n):=by rw[IntKind.wrap_i64,wrap64]
 obtain⟨l',RR⟩:∃l',l'=wrap64 (lo-n):=⟨_,rfl⟩;rw[<-RR]at hq ⊢;have h2:=h.set 7 (.int .i64 l');have d6:=h2.cell 7 rfl;have d5:=h2.cell 5 rfl;have d8:=h2.cell 8 rfl;have z8:=h2.frz 8;have gQ:au [S] w [S] (w.setCell ⟨S,7,none⟩ (.int .i64 l')):=(au.refl _ _).setCell (p:=⟨S,7,none⟩) (zq0 (by simp)) _;have f8:au [S] w [S] ((w.setCell ⟨S,7,none⟩ (.int .i64 l')).setCell ⟨S,8,none⟩ (.bool true)):=gQ.setCell (p:=⟨S,8,none⟩) (zq0 (by simp)) _;have H2:=ab h2;have H3:=ab (h2.set 8 (.bool true));have cS:=ab gQ;have gu:=ab f8;clear h h2 gQ f8 RR;by_cases hn:l'<0
 .have d0:decide (l'<(0:Int))=true:=by simpa using hn
  cases bd
  .have HE:Hid ((fu||(decide (l'<0)&&false))=fu):=ab (by simp);clear hn;go_enter func230,ntmps230;go_wp2_with fail
   go_end0
   exact⟨rfl,by rw[uh HE];exact uh H2,uh cS⟩
  .have HE:Hid ((fu||(decide (l'<0)&&true))=true):=ab (by simp[hn]);clear hn;go_enter func230,ntmps230;go_wp2_with fail
   go_end0
   exact⟨rfl,by rw[uh HE];exact uh H3,uh gu⟩
 .have d0:decide (l'<(0:Int))=false:=by simpa using hn
  have HE:Hid ((fu||(decide (l'<0)&&bd))=fu):=ab (by rw[d0];simp);clear hn;go_enter func230,ntmps230;go_wp2_with fail
  go_end0
  exact⟨rfl,by rw[uh HE];exact uh H2,uh cS⟩
end
theorem mT{c:Cd}{r:List CF × Sr}{g:CF}(h:(oX c r g).2.ok=true):r.2.ok=true/\(neB r.1 (aZ g)=true->r.1.length<=ik):=by
 unfold oX at h;split at h
 .have h1:(r.2.ok&&decide (r.1.length<=ik))=true:=h;rw[Bool.and_eq_true,decide_eq_true_eq]at h1;exact⟨h1.1,λ_=>h1.2⟩
 .rename_i hn;exact⟨h,λe=>absurd e hn⟩
theorem fV{β:Type}(g:List CF × Sr->β->List CF × Sr)(hg:∀r b,(g r b).2.ok=true->r.2.ok=true):∀(l:List β) {r:List CF × Sr},(l.foldl g r).2.ok=true->r.2.ok=true
 |[],_,h=>h
 |b::l,r,h=>hg r b (fV g hg l h)
theorem vb{c:Cd}{f:CF}{i:Nat}(r:List CF × Sr)(a:Nat)(h:(qu c f i r a).2.ok=true):r.2.ok=true:=by
 unfold qu at h;split at h
 .exact fV (oX c) (λr b h=>(mT h).1) _ h
 .exact h
structure Fn(w W:World)(B:Nat)(F0:List Nat)(S:Nat)(cs:List Value)(X:Nat)(f:CF)(v:Value)(L:List FE):Prop where
 fl:Fl W B v L
 bs:Bk W S 229 cs
 xb:Ob W 240 24 X (dd (Ev f))
 ns:∀k∈bn v L,k≠S/\k≠X
 sx:S≠X
 st:au F0 w (S::bn v L) W
 s0:S∈F0
 bb:B<=W.heap.size
section
variable {w W W':World} {B S X:Nat} {F0:List Nat} {cs cs':List Value} {f:CF} {v:Value} {L:List FE}
theorem Fn.xl(h:Fn w W B F0 S cs X f v L):X<W.heap.size:=(ownsRow.lt h.xb X rfl).2
theorem Fn.below(h:Fn w W B F0 S cs X f v L)(hb:Below W.heap.size W W'):Fn w W' B F0 S cs X f v L :=
 ⟨h.fl.below hb,h.bs.below hb,h.xb.of_eq (hb.block X h.xl),h.ns,h.sx,⟨hb.os.trans h.st.os,hb.tape.trans h.st.tape,hb.output.trans h.st.output,zq3 h.st.size hb.size,λk hk hn=>(hb.block k (zq6 hk h.st.size)).trans (h.st.block k hk hn),h.st.foot⟩,h.s0,zq3 h.bb hb.size⟩
theorem Fn.spend(h:Fn w W B F0 S cs X f v L)(hb:Bk W' S 229 cs')(hs:au [S] W [S] W'):Fn w W' B F0 S cs' X f v L:=by
 refine⟨h.fl.stp hs (λk hk hn=>(h.ns k hk).1 (by simpa using hn)),hb,h.xb.of_eq (hs.block X h.xl (by simpa using λe=>h.sx e.symm)),h.ns,h.sx,⟨hs.os.trans h.st.os,hs.tape.trans h.st.tape,hs.output.trans h.st.output,zq3 h.st.size hs.size,λk hk hn=>(hs.block k (zq6 hk h.st.size) (λe=>hn (by rw[mem_singleton]at e;rw[e];exact h.s0))).trans (h.st.block k hk hn),h.st.foot⟩,h.s0,zq3 h.bb hs.size⟩
theorem Fn.side{F F':List Nat}(h:Fn w W B F0 S cs X f v L)(hs:au F W F' W')(hd:∀k∈F,k ∉ bn v L/\k≠S/\k≠X/\w.heap.size<=k):Fn w W' B F0 S cs X f v L :=
 ⟨h.fl.stp hs (λk hk hn=>(hd k hn).1 hk),h.bs.stp hs (λhn=>(hd S hn).2.1 rfl),h.xb.of_eq (hs.block X h.xl (λhn=>(hd X hn).2.2.1 rfl)),h.ns,h.sx,⟨hs.os.trans h.st.os,hs.tape.trans h.st.tape,hs.output.trans h.st.output,zq3 h.st.size hs.size,λk hk hn=>(hs.block k (zq6 hk h.st.size) (λe=>by have:=(hd k e).2.2.2;omega)).trans (h.st.block k hk hn),h.st.foot⟩,h.s0,zq3 h.bb hs.size⟩
theorem Fn.app {g1 c1:Nat} {o:Obj} {x:FE} {W1:World} (h:Fn w W B F0 S cs X f v L) (hx:Fm W x.A x.f x.av x.ov) (hd:∀k∈x.bs,k ∉ bn v L/\k≠S/\k≠X/\w.heap.size<=k/\B<=k)
  (aP:W1.ownsRow B 126 1 (.slice (some ⟨g1,0,none⟩) (L.length+1) c1) (L.length+1) (L.map FE.p++[x.p])) (hg:(W.alloc o).grownBy W1 v.ownBlock) (cj:some g1=v.ownBlock\/g1=(W.alloc o).heap.size) :
  Fn w W1 B F0 S cs X f (.slice (some ⟨g1,0,none⟩) (L.length+1) c1) (L++[x]):=by
 obtain⟨a1,a2,a3⟩:=h.fl.app hx (λk hk=>(hd k hk).2.2.2.2) (λk hk=>(hd k hk).1) h.bb aP hg cj;have hv:∀k∈v.ownBlock.toList,k∈bn v L:=λk hk=>mem_append_left _ hk;refine⟨a1,h.bs.stp a2 (λhn=>(h.ns S (hv S hn)).1 rfl),h.xb.of_eq (a2.block X h.xl (λhn=>(h.ns X (hv X hn)).2 rfl)),λk hk=>?_,h.sx,?_,h.s0,zq3 h.bb a2.size⟩
 .rcases a3 k hk with q|q|q
  .exact h.ns k q
  .exact⟨(hd k q).2.1,(hd k q).2.2.1⟩
  .exact⟨λe=>by have:=h.bs.lt;omega,λe=>by have:=h.xl;omega⟩
 .have h2:=h.st;refine⟨a2.os.trans h2.os,a2.tape.trans h2.tape,a2.output.trans h2.output,zq3 h2.size a2.size,λk hk hn=>?_,λk hk=>?_⟩
  .rw[a2.block k (zq6 hk h2.size) (λhm=>?_)]
   .exact h2.block k hk hn
   .rcases h2.foot k (mem_cons_of_mem _ (hv k hm)) with q|q
    .exact hn q
    .omega
  .rcases mem_cons.1 hk with rfl|hk
   .exact h2.foot k (by simp)
   .rcases a3 k hk with q|q|q
    .exact h2.foot k (mem_cons_of_mem _ q)
    .exact zq1 (hd k q).2.2.2.1
    .exact zq1 (zq3 h2.size q)
end
theorem aa4{f g:CF}{a i:Nat}(h:g∈iM f a i):g.ap.length=f.ap.length:=by
 unfold iM at h;rcases mem_append.1 h with h|h
 .split at h
  .simp at h
  .rw[mem_singleton]at h;subst h;show(f.ap.map _).length=_;rw[length_map]
 .split at h
  .rw[mem_singleton]at h;subst h;rfl
  .simp at h
section
variable {w:World} {B S:Nat} {v:Value} {L:List FE} {c0 hv kv wv:Value} {lp:Bool} {lo:Int} {x:FE} {c:Cd} {s:Sr}
theorem Ke(hS:Bk w S 229 (qi c0 hv lp kv wv c.bd s.lf lo s.fu))(hL:Fl w B v L)(hT:∀y∈L,Td y.f)(hx:x∈L)(hSL:S ∉ bn v L)(hB:B<=w.heap.size){i:Nat}(hi:i<x.f.ow.length)(bD:(gG c x.f (L.map (·.f),s) i).2.ok=true):
  Calls prog 234 #[.pointer (some ⟨S,0,none⟩),v,.pointer (some ⟨x.A,0,none⟩),.int .i64 i] w λe w'=>∃v' L',e=.returned v'/\Fl w' B v' (L++L')/\(∀y∈L',Td y.f)/\(L++L').map (·.f)=(gG c x.f (L.map (·.f),s) i).1/\Bk w' S 229 (qi c0 hv lp kv wv c.bd (gG c x.f (L.map (·.f),s) i).2.lf lo (gG c x.f (L.map (·.f),s) i).2.fu)/\S ∉ bn v' (L++L')/\au (S::bn v L) w (S::bn v' (L++L')) w':=by
 obtain⟨i0,k9,gX,fK,f9⟩:=info_parts infoPF;obtain⟨R,hR⟩:∃R,R=gG c x.f (L.map (·.f),s) i:=⟨_,rfl⟩;rw[<-hR]at bD ⊢;have hxF:=hL.fm x hx;have hxT:=hT x hx;have iE:=hxT.ok.owLen;have D4:=ab (nG hxF.is hxT.ok);obtain⟨va,vc,ic,-,-⟩:=aj hL.row;subst ic;have HL:=ab hL;have HS:=ab hS;have HX:=ab hx;have HXT:=ab hxT;have HT:=ab hT;have HSL:=ab hSL;have kO:=ab bD;have HRR:=ab hR;have HXP:Hid (∀(W:World) (vv:Value) (E:List FE),Fl W B vv (L++E)->Fm W x.A x.f x.av x.ov):=ab (λW vv E hf=>hf.fm x (mem_append_left _ hx));obtain⟨xa,xf,xav,xov⟩:=x;simp only at hi D4 HXT HXP iE hR HRR ⊢;clear hL hS hx hxF hxT hT hSL bD hR;go_enter func234,ntmps234;go_wp2_with fail
 refine(uh D4).mono ?_;rintro e w1 ⟨rfl,bH⟩;obtain⟨M,hM,fy,BM,cg,CG,BJ,cH⟩:=PH w1 xf;rw[<-hM];have B7:=ab BM;have d7:=ab cg;have RE:=ab CG;obtain⟨X,gV⟩:∃X,X=w1.heap.size:=⟨_,rfl⟩;obtain⟨W2,jt⟩:∃W2,W2=(w1.alloc (.cells (dd (replicate 24 false)).toArray 240)).setCells w1.heap.size 0 M:=⟨_,rfl⟩;rw[<-jt]at BJ cH;rw[<-gV]at BJ;have aU:=bH.trans (cH.mono bH.size);have hFn:Fn w W2 B (S::bn (.slice va L.length vc) L) S (qi c0 hv lp kv wv c.bd s.lf lo s.fu) X xf (.slice va L.length vc) (L++[]):=by
  rw[append_nil];have h1:=uh HL;have h2:=uh HS;refine⟨h1.below aU,h2.below aU,BJ,λk hk=>⟨λe=>uh HSL (by rw[<-e];exact hk),λe=>?_⟩,λe=>?_,(au.ofBw aU),by simp,zq3 hB aU.size⟩
  .have:=h1.lt k hk;have:=bH.size;omega
  .have:=h2.lt;have:=bH.size;omega
 have cG:Hid (Fn w W2 B (S::bn (.slice va L.length vc) L) S (qi c0 hv lp kv wv c.bd s.lf lo s.fu) X xf (.slice va L.length vc) (L++[])/\w.heap.size<=X):=ab ⟨hFn,by rw[gV];exact bH.size⟩;clear BM cg CG BJ cH bH aU hM D4 hFn;simp only[dd,replicate,map_cons,map_nil]at jt;go_upto_region 2 with(refine wpList_store_mid rfl 240 (.tmp 9) (.tmp 14) rfl _ 0 M.toArray rfl rfl (uh B7) (uh d7) (uh RE) ?_);rw[<-jt,<-gV];clear jt gV B7 d7 RE fy;go_wp2_with fail
 go_loopg [1,10] 24 (λgn cv iv wx=>∃(k:Nat) (E:List FE) (s':Sr),k+gn=24/\iv=.int .i64 k/\Hid (Fn w wx B (S::bn (.slice va L.length vc) L) S (qi c0 hv lp kv wv c.bd s'.lf lo s'.fu) X xf cv (L++E)/\(∀y∈E,Td y.f)/\(List.range' k (24-k)).foldl (qu c xf i) ((L++E).map (·.f),s')=R/\w.heap.size<=X))
 case atStart=>exact⟨0,[],s,by omega,rfl,ab ⟨(uh cG).1,λy hy=>by simp at hy,by rw[append_nil,uh HRR];unfold gG;rw[range_eq_range'],(uh cG).2⟩⟩
 case round =>
  clear cG;obtain⟨k,E,s',fJ,rfl,hI⟩:=hrel;obtain⟨G,hG⟩:∃G,G=gk:=⟨_,rfl⟩;obtain⟨la,lc,ic,-,-⟩:=aj (uh hI).1.fl.row;subst ic;by_cases ar:k<24
  .have hd:decide ((k:Int)<(24:Int))=true:=(by simp;omega);have agH:List.range' k (24-k)=k::List.range' (k+1) (24-(k+1)):=(by rw[show 24-k=(24-(k+1))+1 by omega,range'_succ]);have eP:=(uh hI).2.2.1;rw[agH,foldl_cons]at eP;have hF:=(uh HXP wr _ E (uh hI).1.fl);have d1:=(ownsRow.cellAt (uh hI).1.xb k (by omega)).trans (fG (by rw[AY];exact ar));rw[AX xf ar]at d1;have x0:=hF.is.cls (i:=0) (by omega);unfold gZ at x0;obtain⟨n0,oS⟩:∃n0,n0=xf.cl.getD 0 0:=⟨_,rfl⟩;rw[<-oS]at x0;have Xg:fnA xf k=(decide (k∈pw xf)&&!decide (k=n0)&&!(cU xf.ow k).isSome):=(by rw[oS];rfl);have mL:=ab (cI k hF.is);have i1:(0:Int)<=(k:Int):=(by omega);have i2:(k:Int)<(24:Int):=(by omega);have hsk:fnA xf k=false->(List.range' (k+1) (24-(k+1))).foldl (qu c xf i) ((L++E).map (·.f),s')=R:=λe=>by
    have e2:qu c xf i ((L++E).map (·.f),s') k=((L++E).map (·.f),s'):=(by unfold qu;rw[if_neg (by rw[e];decide)]);rw[e2]at eP;exact eP
   have Wp:Hid (fnA xf k=false->Hid (Fn w wr B (S::bn (.slice va L.length vc) L) S (qi c0 hv lp kv wv c.bd s'.lf lo s'.fu) X xf (.slice la (L++E).length lc) (L++E)/\(∀y∈E,Td y.f)/\(List.range' (k+1) (24-(k+1))).foldl (qu c xf i) ((L++E).map (·.f),s')=R/\w.heap.size<=X)):=ab (λe=>ab ⟨(uh hI).1,(uh hI).2.1,hsk e,(uh hI).2.2.2⟩);have GM:=ab eP;have ED:=ab Xg;clear agH eP hF oS Xg hsk;rw[length_append]at Wp ⊢;by_cases hm:k∈pw xf
   .rw[show decide (k∈pw xf)=true by simpa using hm]at d1 ED;by_cases hc:k=n0
    .have d2:((k:Int)==(n0:Int))=true:=(by simp[hc]);have HN:=ab (uh Wp (by rw[uh ED];simp[hc]));clear hm hc Wp hI;go_wp2_with fail
     go_roundg (G-1)
     case rel=>exact⟨k+1,E,s',by omega,by go_num,uh HN⟩
     case measure=>omega
    .have d2:((k:Int)==(n0:Int))=false:=(by simp;omega);have hg:=sj (cU xf.ow k);cases hb:cU xf.ow k with
     |some b0 =>
      rw[hb]at hg mL;have HN:=ab (uh Wp (by rw[uh ED,hb];simp));clear hm hc Wp hI hb;go_wp2_with fail
      refine(uh mL).mono ?_;rintro e w3 ⟨rfl,rfl⟩;go_wp2_with fail
      go_roundg (G-1)
      case rel=>exact⟨k+1,E,s',by omega,by go_num,uh HN⟩
      case measure=>omega
     |none =>
      rw[hb]at hg mL;have hA:fnA xf k=true:=(by rw[uh ED,hb];simp[hc]);have hF:=(uh HXP wr _ E (uh hI).1.fl);have Bw:=ab (F8 hF.is (uh HXT).ok (zq3 (uh HXT).ln (by omega)) ar hi);have HMO:=ab (IT (i:=i) (uh HXT).ok ar hb);have xZ:qu c xf i ((L++E).map (·.f),s') k=(iM xf k i).foldl (oX c) ((L++E).map (·.f),s'):=(by unfold qu;rw[if_pos hA]);rw[xZ]at GM;obtain⟨R1,sL⟩:∃R1,R1=(iM xf k i).foldl (oX c) ((L++E).map (·.f),s'):=⟨_,rfl⟩;rw[<-sL]at GM;have Yk:=ab sL;have Yj:Hid (R1.2.ok=true):=ab (by
       refine fV (qu c xf i) (λr b h=>vb r b h) (List.range' (k+1) (24-(k+1))) ?_;rw[uh GM];exact uh kO)
      have ZC:=qS xf k i;have HI:=ab (uh hI);clear hm hc Wp hI hb hA hF xZ sL;go_wp2_with fail
      refine(uh mL).mono ?_;rintro e w3 ⟨rfl,rfl⟩;go_wp2_with fail
      refine(uh Bw).mono ?_;rintro e w4 ⟨v2,L2,rfl,CQ,rz,nR⟩;have aeW:=(uh HI).1.below nR;have hP4:=CQ.pend;have Xf:∀y∈mU v2 L2 0,y ∉ bn (.slice la (L++E).length lc) (L++E)/\y≠S/\y≠X/\w.heap.size<=y/\B<=y:=λy hy=>by
       have h1:=hP4.geB y hy;exact⟨λhn=>by have h2:=(uh HI).1.fl.lt y hn;omega,λe=>by have h2:=(uh HI).1.bs.lt;omega,λe=>by have h2:=(uh HI).1.xl;omega,zq3 (uh HI).1.st.size h1,zq3 (uh HI).1.bb h1⟩
      obtain⟨B2,Fh⟩:∃B2,B2=w3.heap.size:=⟨_,rfl⟩;rw[<-Fh]at hP4;obtain⟨a2,c2,Em,-,-⟩:=aj hP4.row;subst Em;have EF:=ab rz;have ae4:L2.length<=2:=(by have:=congrArg List.length rz;rw[length_map]at this;omega);have oK:Hid (Fn w w4 B (S::bn (.slice va L.length vc) L) S (qi c0 hv lp kv wv c.bd s'.lf lo s'.fu) X xf (.slice la (L.length+E.length) lc) (L++E)/\(∀y∈E,Td y.f)/\gi w4 B2 (.slice a2 L2.length c2) L2 0/\(∀y∈mU (.slice a2 L2.length c2) L2 0,y ∉ bn (.slice la (L.length+E.length) lc) (L++E)/\y≠S/\y≠X/\w.heap.size<=y/\B<=y)/\((iM xf k i).drop 0).foldl (oX c) ((L++E).map (·.f),s')=R1/\w.heap.size<=X):=ab (by
       rw[<-length_append];exact⟨aeW,(uh HI).2.1,hP4,Xf,(uh Yk).symm,(uh HI).2.2.2⟩)
      clear CQ rz nR aeW hP4 Xf Bw HI Fh ZC d1 x0;go_wp2_with fail
      go_loopg [1,43] L2.length (λgn cv iv wx=>∃(j:Nat) (Ea:List FE) (sa:Sr),j+gn=L2.length/\iv=.int .i64 j/\Hid (Fn w wx B (S::bn (.slice va L.length vc) L) S (qi c0 hv lp kv wv c.bd sa.lf lo sa.fu) X xf cv (L++Ea)/\(∀y∈Ea,Td y.f)/\gi wx B2 (.slice a2 L2.length c2) L2 j/\(∀y∈mU (.slice a2 L2.length c2) L2 j,y ∉ bn cv (L++Ea)/\y≠S/\y≠X/\w.heap.size<=y/\B<=y)/\((iM xf k i).drop j).foldl (oX c) ((L++Ea).map (·.f),sa)=R1/\w.heap.size<=X))
      case atStart=>exact⟨0,E,s',by omega,rfl,oK⟩
      case round =>
       clear oK;obtain⟨j,Ea,sa,BO,rfl,hJ⟩:=hrel;obtain⟨G2,Fi⟩:∃G2,G2=gk:=⟨_,rfl⟩;obtain⟨lb,ld,ic,-,-⟩:=aj (uh hJ).1.fl.row;subst ic;by_cases f7:j<L2.length
       .have kj:decide ((j:Int)<(L2.length:Int))=true:=(by simp;omega);obtain⟨g2,cap2,dx,ay⟩:=(uh hJ).2.2.1.cell f7;simp only[Value.slice.injEq,true_and]at dx;obtain⟨rfl,rfl⟩:=dx;obtain⟨hy,-,BK,Ow,Fo⟩:=(uh hJ).2.2.1.next f7;have sP:j<(iM xf k i).length:=(by rw[<-uh EF,length_map];exact f7);have hfy:L2[j].f=(iM xf k i)[j]:=by
         have:=congrArg (λl=>l[j]?) (uh EF);simp only[getElem?_map,getElem?_eq_getElem f7,getElem?_eq_getElem sP,Option.map_some,Option.some.injEq]at this;exact this
        have j6:L2[j].f∈iM xf k i:=(by rw[hfy];exact getElem_mem sP);have hyO:=uh HMO _ j6;have hya:=aa4 j6;have kS:(iM xf k i).drop j=L2[j].f::(iM xf k i).drop (j+1):=(by rw[hfy];exact drop_eq_getElem_cons sP);have eP:=(uh hJ).2.2.2.2.1;rw[kS,foldl_cons]at eP;have hokG:(oX c ((L++Ea).map (·.f),sa) L2[j].f).2.ok=true:=fV (oX c) (λr b h=>(mT h).1) ((iM xf k i).drop (j+1)) (by rw[eP];exact uh Yj);have O6:=(mT hokG).2;obtain⟨y,hye⟩:∃y,y=L2[j]:=⟨_,rfl⟩;rw[<-hye]at ay hy Ow Fo hyO hya eP O6;have hdy:∀q∈y.bs,q ∉ bn (.slice lb (L++Ea).length ld) (L++Ea)/\q≠S/\q≠X/\w.heap.size<=q/\B<=q:=λq hq=>(uh hJ).2.2.2.1 q (Fo q hq);have GR:=ab (lD hy hyO (by rw[hya];exact zq3 (uh HXT).ln (by omega)));have It:y.p=.pointer (some ⟨y.A,0,none⟩):=rfl;rw[It]at ay;have HFo:=ab eP;have HMo:=ab O6;have HPn:=ab BK;have HPd:=ab Ow;have HDy:=ab hdy;have HYO:=ab hyO;have HJ:=ab (uh hJ);have k1:(0:Int)<=(j:Int):=(by omega);have k2:(j:Int)<(L2.length:Int):=(by omega);clear hy BK Ow Fo sP hfy j6 hyO hya kS eP hokG O6 hdy It hye hJ;rw[length_append]at HDy HJ ⊢;go_wp2_with fail
        refine(uh GR).mono ?_;rintro e w5 ⟨rfl,av5,ov5,CE,fX⟩;have Xw:∀q∈aH y.A av5 ov5,q ∉ bn (.slice lb (L.length+Ea.length) ld) (L++Ea)/\q≠S/\q≠X/\w.heap.size<=q/\B<=q:=λq hq=>by
         rcases fX.foot q hq with p|p
         .exact uh HDy q p
         .exact⟨λhn=>by have h2:=(uh HJ).1.fl.lt q hn;omega,λe=>by have h2:=(uh HJ).1.bs.lt;omega,λe=>by have h2:=(uh HJ).1.xl;omega,zq3 (uh HJ).1.st.size p,zq3 (uh HJ).1.bb p⟩
        have Zs:=(uh HJ).1.side fX (λq hq=>⟨(uh HDy q hq).1,(uh HDy q hq).2.1,(uh HDy q hq).2.2.1,(uh HDy q hq).2.2.2.1⟩);have hP5:=(uh HPn).stp fX (λq hq hn=>(uh HPd q hq).2 hn);have WU:∀q∈L++Ea,Td q.f:=λq hq=>by
         rcases mem_append.1 hq with h|h
         .exact uh HT q h
         .exact(uh HJ).2.1 q h
        have HIN:=ab (KZ CE.is (uh HYO).tidy Zs.fl WU);have afg:∀q∈mU (.slice (some ⟨g2,0,none⟩) L2.length c2) L2 (j+1),(q ∉ bn (.slice lb (L.length+Ea.length) ld) (L++Ea)/\q≠S/\q≠X/\w.heap.size<=q/\B<=q)/\q ∉ aH y.A av5 ov5:=λq hq=>⟨(uh HJ).2.2.2.1 q (uh HPd q hq).1,λhn=>by
         rcases fX.foot q hn with p|p
         .exact(uh HPd q hq).2 p
         .have:=(uh HPn).lt q hq;omega⟩
        have V9:=ab CE;have adR:=ab Zs;have HP5:=ab hP5;have HSd:=ab Xw;have EG:=ab afg;clear CE fX Xw Zs hP5 WU afg GR ay;go_wp2_with fail
        refine(uh HIN).mono ?_;rintro e w6 ⟨rfl,kG⟩;have Kn:=(uh adR).below kG;have HP6:=ab ((uh HP5).below kG);have HF6:=ab ((uh V9).below kG);clear HIN adR HP5 V9;cases aL:neB ((L++Ea).map (·.f)) (aZ y.f)
        .have T7:oX c ((L++Ea).map (·.f),sa) y.f=((L++Ea).map (·.f),sa):=(by unfold oX;rw[if_neg (by rw[aL];decide)]);have HN:Hid (Fn w w6 B (S::bn (.slice va L.length vc) L) S (qi c0 hv lp kv wv c.bd sa.lf lo sa.fu) X xf (.slice lb (L.length+Ea.length) ld) (L++Ea)/\(∀y∈Ea,Td y.f)/\gi w6 B2 (.slice (some ⟨g2,0,none⟩) L2.length c2) L2 (j+1)/\(∀y∈mU (.slice (some ⟨g2,0,none⟩) L2.length c2) L2 (j+1),y ∉ bn (.slice lb (L.length+Ea.length) ld) (L++Ea)/\y≠S/\y≠X/\w.heap.size<=y/\B<=y)/\((iM xf k i).drop (j+1)).foldl (oX c) ((L++Ea).map (·.f),sa)=R1/\w.heap.size<=X):=ab ⟨Kn,(uh HJ).2.1,uh HP6,λq hq=>(uh EG q hq).1,by have:=uh HFo;rw[T7]at this;exact this,(uh HJ).2.2.2.2.2⟩;clear T7 aL Kn kG HJ;go_wp2_with fail
         go_roundg (G2-1)
         case rel=>exact⟨j+1,Ea,sa,by omega,by go_num,HN⟩
         case measure=>omega
        .have T7:oX c ((L++Ea).map (·.f),sa) y.f=((L++Ea).map (·.f)++[aZ y.f],pU c { sa with ok:=sa.ok&&decide (((L++Ea).map (·.f)).length<=ik) }):=(by unfold oX;rw[if_pos aL]);have dL:L.length+Ea.length<=900000:=by
          have:=uh HMo aL;rw[length_map,length_append]at this;unfold ik at this;exact this
         have Sv:Hid (w6.ownsRow B 126 1 (.slice lb (L.length+Ea.length) ld) (L.length+Ea.length) ((L++Ea).map FE.p)):=ab (by have:=Kn.fl.row;rwa [length_append]at this);have adS:=ab Kn;have arm:=Kn.bb;have HGG:=ab T7;clear T7 aL Kn kG;go_wp2_with (at_builtin;refine aS _ rfl (.tmp 52) (.tmp 54) 125 rfl B 126 i0 _ 1 8 underlying125 k9 gX fK f9 rfl (by decide) _ (L.length+Ea.length) ((L++Ea).map FE.p) rfl ((uh Sv).alloc _) ⟨_,0,none⟩ 1 [.pointer (some ⟨y.A,0,none⟩)] rfl rfl (aN _ _ (by simp) [.pointer (some ⟨y.A,0,none⟩)] _) (by intro u hu;simp only[mem_singleton]at hu;subst hu;rfl) (by omega) (by omega) (by simp;omega) ?_)
         intro g7 cap7 w7 iH dF fY;have yP:=lB dF (by simpa using fY);have TN:=(uh adS).app (x:=⟨y.A,aZ y.f,av5,ov5⟩) (g1:=g7) (c1:=cap7) (uh HF6) (uh HSd) (by rw[length_append,map_append,append_assoc];exact iH) dF (by simpa using fY);have hP7:=(uh HP6).stp yP (λq hq hn=>(uh EG q hq).1.1 (mem_append_left _ hn));have hD7:∀q∈mU (.slice (some ⟨g2,0,none⟩) L2.length c2) L2 (j+1),q ∉ bn (.slice (some ⟨g7,0,none⟩) (L.length+Ea.length+1) cap7) (L++(Ea++[⟨y.A,aZ y.f,av5,ov5⟩])):=λq hq hn=>by
          rcases mem_append.1 hn with p|p
          .have e:q=g7:=(by simpa[Value.ownBlock,eq_comm] using p);subst e;rcases fY with e|e
           .exact(uh EG q hq).1.1 (mem_append_left _ (by rw[<-e];simp))
           .have:=(uh HP6).lt q hq;omega
          .rw[<-append_assoc,flatMap_append,mem_append]at p;rcases p with p|p
           .exact(uh EG q hq).1.1 (mem_append_right _ p)
           .simp only[flatMap_cons,flatMap_nil,append_nil]at p;exact(uh EG q hq).2 p
         rw[append_assoc,length_append]at TN;have LO:=ab (zn TN.bs);have adT:=ab TN;have HP7:=ab hP7;have HD7:=ab hD7;clear iH dF fY yP TN hP7 hD7 Sv adS HP6;go_wp2_with fail
         refine(uh LO).mono ?_;rintro e w8 ⟨rfl,OF,Io⟩;have Zt:=(uh adT).spend OF Io;have hP8:=(uh HP7).stp Io (λq hq hn=>(uh EG q hq).1.2.1 (by simpa using hn));have hTE:∀q∈Ea++[(⟨y.A,aZ y.f,av5,ov5⟩:FE)],Td q.f:=λq hq=>by
          rcases mem_append.1 hq with h|h
          .exact(uh HJ).2.1 q h
          .rw[mem_singleton]at h;subst h;exact(uh HYO).tidy
         obtain⟨sb,BV⟩:∃sb,sb=pU c { sa with ok:=sa.ok&&decide (((L++Ea).map (·.f)).length<=ik) }:=⟨_,rfl⟩;have KR:sb.lf=wrap64 (sa.lf-1):=(by rw[BV];rfl);have hsf:sb.fu=(sa.fu||(decide (wrap64 (sa.lf-1)<0)&&c.bd)):=(by rw[BV];rfl);rw[<-hsf,<-KR]at Zt;have OP:((iM xf k i).drop (j+1)).foldl (oX c) ((L++(Ea++[(⟨y.A,aZ y.f,av5,ov5⟩:FE)])).map (·.f),sb)=R1:=by
          have:=uh HFo;rw[uh HGG,<-BV]at this;rw[<-append_assoc,map_append];exact this
         have HN:=ab (zq2 Zt (zq2 hTE (zq2 hP8 (zq2 (λq hq=>zq2 (uh HD7 q hq) (uh EG q hq).1.2) (zq2 OP (uh HJ).2.2.2.2.2)))));clear OF Io Zt hP8 hTE BV KR hsf OP LO adT HP7 HD7 HJ;go_wp2_with fail
         go_roundg (G2-1)
         case rel=>exact⟨j+1,Ea++[⟨y.A,aZ y.f,av5,ov5⟩],sb,by omega,by go_num,HN⟩
         case measure=>omega
       .have kj:decide ((j:Int)<(L2.length:Int))=false:=(by simp;omega);have sP:(iM xf k i).length<=j:=(by rw[<-uh EF,length_map];omega);have KQ:((L++Ea).map (·.f),sa)=R1:=by
         have:=(uh hJ).2.2.2.2.1;rw[drop_eq_nil_of_le sP]at this;exact this
        have HN:Hid (Fn w wr B (S::bn (.slice va L.length vc) L) S (qi c0 hv lp kv wv c.bd sa.lf lo sa.fu) X xf (.slice lb (L++Ea).length ld) (L++Ea)/\(∀y∈Ea,Td y.f)/\(List.range' (k+1) (24-(k+1))).foldl (qu c xf i) ((L++Ea).map (·.f),sa)=R/\w.heap.size<=X):=ab ⟨(uh hJ).1,(uh hJ).2.1,by rw[KQ];exact uh GM,(uh hJ).2.2.2.2.2⟩;rw[length_append]at HN ⊢;clear sP KQ hJ;go_wp2_with fail
        go_roundg (G-1)
        case rel=>exact⟨k+1,Ea,sa,by omega,by go_num,HN⟩
        case measure=>omega
   .rw[show decide (k∈pw xf)=false by simpa using hm]at d1 ED;have HN:=ab (uh Wp (by rw[uh ED];simp));clear hm Wp hI;go_wp2_with fail
    go_roundg (G-1)
    case rel=>exact⟨k+1,E,s',by omega,by go_num,uh HN⟩
    case measure=>omega
  .have hd:decide ((k:Int)<(24:Int))=false:=(by simp;omega);have kk:R=((L++E).map (·.f),s'):=by
    have:=(uh hI).2.2.1;rw[show 24-k=0 by omega]at this;exact this.symm
   have Wc:=ab kk;clear kk;go_wp2_with fail
   go_ret;refine⟨_,E,rfl,(uh hI).1.fl,(uh hI).2.1,by rw[uh Wc],?_,λhn=>((uh hI).1.ns S hn).1 rfl,(uh hI).1.st⟩;rw[uh Wc];exact(uh hI).1.bs
end
