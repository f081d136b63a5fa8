import Derived.Test.YtciihepbeacppaaGreatGR
set_option maxRecDepth 100000
set_option maxHeartbeats 0
namespace Go.Proofs.YtciihepbeacppaaGreat
open Tryz Go.RowKit List World Below
set_option linter.unusedVariables false
theorem rU{al:List bt}(ht:ij al){a:bt}(ha:a∈al):(gT (iY al) a).l<24/\(gT (iY al) a).r<24:=by
 have h1:=j5 ht (ht a ha).1;have h2:=j5 ht (ht a ha).2;have e1:(gT (iY al) a).l=(iY al).getD (tm a).l 0:=rfl;have e2:(gT (iY al) a).r=(iY al).getD (tm a).r 0:=rfl;omega
theorem Vj{al:List bt}(ht:ij al):Rm (bL al):=by
 intro p hp;obtain⟨a,ha,rfl⟩:=mem_map.1 hp;exact rU ht (mem_filter.1 ha).1
theorem Xv{al:List bt}(ht:ij al):RmA (bL al):=by
 intro p hp;obtain⟨a,ha,rfl⟩:=mem_map.1 hp;exact rU ht (mem_filter.1 ha).1
theorem acr{al:List bt}(ht:ij al)(i:Nat)(hi:i<5):(bL al).cl.getD i 0<24:=by
 rw[kO hi];have:=j5 ht (i:=i) (by omega);omega
theorem acs(al:List bt):(bL al).ow.length<=al.length:=by
 show(List.map _ _).length<=_;rw[length_map];exact length_filter_le _ _
def Hq(A A':Nat):Array Value:=(#[Value.pointer (some ⟨A,0,none⟩),Value.pointer (some ⟨A',0,none⟩)].toList++(replicate 48 (Value.int .i64 0)++[Value.pointer none,Value.slice none 0 0,Value.int .i64 0,Value.slice none 0 0,Value.int .i64 128])).toArray
theorem BS(w:World)(A A':Nat):Sn (w.alloc (.cells (Hq A A') 202)) w.heap.size A A' 128 (replicate 24 (.int .i64 0)) (replicate 24 (.int .i64 0)++[.pointer none,.slice none 0 0,.int .i64 0,.slice none 0 0,.int .i64 128]) :=
 ⟨ownsRow_lit (base:=0) (e:=202) (size:=55) w (Hq A A') 1 (zq5 _) (by simp[maxLen]) rfl,by simp,_,_,_,_,_,rfl,by simp⟩
section
variable {w:World} {D A D' A':Nat} {s t:CF} {av ov av' ov':Value}
theorem uE(h:oY w D A s av ov)(h':oY w D' A' t av' ov')(hT:Td s)(Yi:Td t):Calls prog 231 #[.pointer (some ⟨D,0,none⟩),.pointer (some ⟨D',0,none⟩)] w λe w'=>e=.returned (.bool (C3 s t))/\Below w.heap.size w w':=by
 have HHR:Hid (∀m:Nat,Calls prog 252 #[.pointer (some ⟨D,0,none⟩),.pointer (some ⟨D',0,none⟩)] (w.drewN m) λe w'=>e=.returned (.bool (ZW s t))/\∃j,w'=w.drewN j):=ab (λm=>(A9 (w:=w.drewN m) (h.of_eq (λ_ _=>rfl)) (h'.of_eq (λ_ _=>rfl)) hT.ok Yi.ok).mono (λe w' hw=>⟨hw.1,by obtain⟨n,rfl⟩:=hw.2;exact⟨_,drewN_drewN _ _ _⟩⟩));have Ie:Hid (∀m:Nat,Calls prog 253 #[.pointer (some ⟨D,0,none⟩),.pointer (some ⟨D',0,none⟩)] (w.drewN m) λe w'=>e=.returned (.bool (Qn s t))/\∃j,w'=w.drewN j):=ab (λm=>(vN (w:=w.drewN m) (h.of_eq (λ_ _=>rfl)) (h'.of_eq (λ_ _=>rfl))).mono (λe w' hw=>⟨hw.1,by obtain⟨n,rfl⟩:=hw.2;exact⟨_,drewN_drewN _ _ _⟩⟩));have Gv:C3 s t=(ZW s t&&Qn s t&&(match yg s t [0,1,2,3,4] (replicate 24 none) with|none=>false|some an=>(fit s t an 128).1)):=rfl;obtain⟨R,hR⟩:∃R,R=C3 s t:=⟨_,rfl⟩;rw[<-hR];rw[<-hR]at Gv;have HW:=ab Gv;have H:=ab h;have H':=ab h';have HT:=ab hT;have HT':=ab Yi;have f1:=h.fo;have f2:=h'.fo;clear h h' hT Yi Gv hR;go_enter func231,ntmps231;go_wp2_with fail
 refine(uh HHR 0).mono ?_;rintro e w1 ⟨rfl,n1,rfl⟩;cases SW:ZW s t
 .have HE:Hid (R=false):=ab (by rw[uh HW,SW];rfl);clear SW;go_wp2_with fail
  go_ret;exact⟨aw (uh HE).symm,kM _ _⟩
 .go_wp2_with fail
  refine(uh Ie n1).mono ?_;rintro e w2 ⟨rfl,n2,rfl⟩;cases Qh:Qn s t
  .have HE:Hid (R=false):=ab (by rw[uh HW,SW,Qh];rfl);clear SW Qh;go_wp2_with fail
   go_ret;exact⟨aw (uh HE).symm,kM _ _⟩
  .have HE:Hid (R=(match yg s t [0,1,2,3,4] (replicate 24 none) with|none=>false|some an=>(fit s t an 128).1)):=ab (by rw[uh HW,SW,Qh];rfl);clear SW Qh;go_wp2_with fail
   go_region
   obtain⟨W,hW⟩:∃W,W=w.drewN (n2+1):=⟨_,rfl⟩;rw[<-hW];have hbW:Below w.heap.size w W:=(by rw[hW];exact kM w _);have jO:W.heap.size=w.heap.size:=(by rw[hW];rfl);have h1:=(uh H).below hbW;have h1':=(uh H').below hbW;have Ig:Hid (∀k∈aG A av ov,k≠W.heap.size):=ab (λk hk=>by have:=h1.ff.lt k hk;omega);have HNt:Hid (∀k∈aG A' av' ov',k≠W.heap.size):=ab (λk hk=>by have:=h1'.ff.lt k hk;omega);have HDn:Hid (D≠W.heap.size):=ab (by have:=h1.bk.lt;omega);have Kz:=ab hbW;have HI:=ab h1;have uH:=ab h1';rw[show w.heap.size=W.heap.size from jO.symm];clear hW hbW jO h1 h1' f1 f2;go_wp2_with fail
   refine(LK (F:=s) (T:=t) (BS W A A') ((uh HI).ff.alloc _) ((uh uH).ff.alloc _) (uh Ig) (uh HNt) (λi _=>(uh HT').ok.get i)).mono ?_;rintro e w4 ⟨rfl,hsq,aE⟩;have gX:Below W.heap.size W w4:=((am.refl [W.heap.size] W).alloc _).trans aE |>.below (zq4 _) (by simp);have uY:=ab gX;have ko:oY w4 D A s av ov:=((uh HI).below (af W (.cells (Hq A A') 202))).of_eq (λk hk=>aE.blk k (zq6 ((uh HI).lt k hk) (af W _).size) (by
    rcases mem_cons.1 hk with rfl|hk
    .exact uh HDn
    .exact uh Ig k hk))
   have pL:dm w4 A' t av' ov':=((uh uH).ff.alloc (.cells (Hq A A') 202)).of_eq (λk hk=>aE.blk k (((uh uH).ff.alloc _).lt k hk) (uh HNt k hk));have HSQ:=ab hsq;have mh:=ab ko;have UR:=ab pL;clear hsq aE gX ko pL HI uH;cases lO:yg s t [0,1,2,3,4] (replicate 24 none) with
   |none =>
    rw[lO]at HE HSQ;have ig:Hid (R=false):=ab (uh HE);clear HSQ HE lO;go_wp2_with fail
    go_ret;exact⟨aw (uh ig).symm,(uh Kz).trans ((uh uY).mono (uh Kz).size)⟩
   |some an =>
    rw[lO]at HE;have ig:Hid (R=(fit s t an 128).1):=ab (uh HE);have f0:=(uh mh).fo;have c6:=(uh mh).ff.c6;have P5:Se w4 W.heap.size A A' an s t av ov av' ov' 128:=⟨uh HSQ an lO,(uh mh).ff,uh UR,uh Ig,uh HNt⟩;have f8:=(uh HT).ok.owLen;have aqr:=(uh HT').ok.owLen;have CA:=ab (Mf P5 (uh mh).ff.ow (λk hk=>uh Ig k (by simp[aG,hk])) (by omega) (by omega) (uh HT').ok.ow (uh HT').ok.ap);obtain⟨oa,oc,dB,-,-⟩:=ah (uh mh).ff.ow;subst dB;clear P5 HSQ lO HE;go_wp2_with fail
    refine(uh CA).mono ?_;rintro e w5 ⟨rfl,v5,ov5,pv5,-,f9,-⟩;have gH:Hid (Below W.heap.size W w5):=ab ⟨f9.os.trans (uh uY).os,f9.tape.trans (uh uY).tape,f9.output.trans (uh uY).output,zq3 (uh uY).size f9.size,λk hk=>(f9.block k (zq6 hk (uh uY).size) (by simp;omega)).trans ((uh uY).block k hk)⟩;clear f9 CA;go_wp2_with fail
    go_ret;exact⟨aw (by rw[uh ig];rfl),(uh Kz).trans ((uh gH).mono (uh Kz).size)⟩
end
theorem NP(w:World)(f:CF):∃M,M=cK (CZ f)/\M.length=24/\(w.alloc (.cells (cK (replicate 24 false)).toArray 240)).there w.heap.size 0 M.toArray.size/\(prog.info? 240).map (·.size)=some M.toArray.size/\M.toArray.all (·.oneCell')=true /\
  Ob ((w.alloc (.cells (cK (replicate 24 false)).toArray 240)).setCells w.heap.size 0 M) 240 24 w.heap.size (cK (CZ f))/\Below w.heap.size w ((w.alloc (.cells (cK (replicate 24 false)).toArray 240)).setCells w.heap.size 0 M):=by
 have dl:(cK (CZ f)).length=24:=by simp[cK,CZ]
 have hX:=yi w;refine⟨cK (CZ f),rfl,dl,?_,?_,?_,?_,?_⟩
 .intro j hj;rw[size_toArray,dl]at hj;obtain⟨⟨u,hu⟩,hz⟩:=hX.some (j:=j) hj;rw[Nat.zero_add];exact⟨by rw[hu];rfl,hz⟩
 .rw[size_toArray,dl];exact infoB24
 .exact all_oneCell_toArray (by
   intro v hv;obtain⟨o,_,rfl⟩:=mem_map.1 hv;rfl)
 .have h5:=Ob.setCells (cK (CZ f)) 0 hX;have Bv:=lC (cK (CZ f)) [] (cK (replicate 24 false)) [] (by rw[dl];rfl);simp only[nil_append,append_nil,length_nil]at Bv;rw[Bv]at h5;exact h5
 .have vp:∀(vs:List Value) (o:Nat) (x:World),Below w.heap.size w x->Below w.heap.size w (x.setCells w.heap.size o vs):=by
   intro vs;induction vs with
   |nil=>intro o x h;exact h
   |cons v r ih=>intro o x h;exact ih (o+1) _ (h.setCell (zq4 _) v)
  exact vp _ 0 _ (af w _)
theorem zj(f:CF){c:Nat}(hc:c<24):(CZ f).getD c false=decide (c∈mL f):=by
 unfold CZ;rw[getD_eq_getElem?_getD,getElem?_map,getElem?_range hc];rfl
theorem zl(f:CF):(CZ f).length=24:=by simp[CZ]
def Ae(f:CF)(k:Nat):List Nat:=(range k).filter (λi=>!decide ((owA f i).l∈mL f))
theorem NW(f:CF)(k:Nat):Ae f (k+1)=Ae f k++(if (owA f k).l∈mL f then [] else [k]):=by
 unfold Ae;rw[range_succ,filter_append];congr 1;by_cases h:(owA f k).l∈mL f <;> simp[h]
theorem Tq(f:CF)(k:Nat):(Ae f k).length<=k:=by
 unfold Ae;exact zq3 (length_filter_le _ _) (by simp)
section
variable {w:World} {A:Nat} {f:CF} {av ov:Value}
theorem tJ(h:dm w A f av ov)(hO:au f):Calls prog 200 #[.pointer (some ⟨A,0,none⟩)] w λe w'=>∃v,e=.returned v/\w'.ownsRow w.heap.size 3 1 v (fJ f).length (pU (fJ f))/\Below w.heap.size w w':=by
 obtain⟨i0,iy,dG,du,ef⟩:=info_parts infoInt;have f8:=hO.owLen;have CE:=ab (lA h hO);have H:=ab h;have HO:=ab hO;clear h hO;go_enter func200,ntmps200;go_wp2_with fail
 refine(uh CE).mono ?_;rintro e w1 ⟨rfl,aO⟩;obtain⟨M,hM,dl,qO,bT,s7,zT,bP⟩:=NP w1 f;rw[<-hM];have rl:=ab qO;have db:=ab bT;have C7:=ab s7;obtain⟨X,fy⟩:∃X,X=w1.heap.size:=⟨_,rfl⟩;obtain⟨W2,d9⟩:∃W2,W2=(w1.alloc (.cells (cK (replicate 24 false)).toArray 240)).setCells w1.heap.size 0 M:=⟨_,rfl⟩;rw[<-d9]at zT bP;rw[<-fy]at zT;have ax:=aO.trans (bP.mono aO.size);have QK:=ab zT;have bu:=ab ax;have HXw:Hid (w.heap.size<=X):=ab (by rw[fy];exact aO.size);clear qO bT s7 zT bP aO ax hM CE;simp only[cK,replicate,map_cons,map_nil]at d9;go_upto_region 2 with(refine wpList_store_mid rfl 240 (.tmp 3) (.tmp 7) rfl _ 0 M.toArray rfl rfl (uh rl) (uh db) (uh C7) ?_);rw[<-d9,<-fy];clear d9 fy rl db C7 dl;have px:Hid ((W2.alloc (.cells #[] 3)).ownsRow w.heap.size 3 1 (.slice (some ⟨W2.heap.size,0,none⟩) 0 0) (Ae f 0).length (pU (Ae f 0))/\Below W2.heap.size W2 (W2.alloc (.cells #[] 3))):=ab ⟨bW (ownsRow_lit (base:=W2.heap.size) (e:=3) (size:=1) W2 #[] 0 (zq4 _) (by simp[maxLen]) rfl) (uh bu).size,af W2 _⟩;go_wp2_with fail
 go_loopg [4,5] f.ow.length (λgn lv iv wx=>∃(k:Nat),k+gn=f.ow.length/\iv=.int .i64 k/\Hid (wx.ownsRow w.heap.size 3 1 lv (Ae f k).length (pU (Ae f k))/\Below W2.heap.size W2 wx/\∀j,lv.ownBlock=some j->W2.heap.size<=j))
 case atStart=>exact⟨0,by omega,rfl,ab ⟨(uh px).1,(uh px).2,λj hj=>by simp only[Value.ownBlock,Option.some.injEq]at hj;omega⟩⟩
 case round =>
  clear px;obtain⟨k,fC,rfl,hI⟩:=hrel;obtain⟨G,hG⟩:∃G,G=gk:=⟨_,rfl⟩;obtain⟨la,lc,gF,-,-⟩:=ah (uh hI).1;subst gF;have hF:=((uh H).below (uh bu)).below (uh hI).2.1;have m7:=(uh QK).of_eq (w':=wr) ((uh hI).2.1.block X (ownsRow.lt (uh QK) X rfl).2);have c6:=hF.c6;obtain⟨oa,oc,dB,-,-⟩:=ah hF.ow;subst dB;by_cases ar:k<f.ow.length
  .have hd:decide ((k:Int)<(f.ow.length:Int))=true:=(by simp;omega);obtain⟨go,gc,iP,-,-⟩:=aC hF.ow ar;simp only[Value.slice.injEq,true_and]at iP;obtain⟨rfl,rfl⟩:=iP;obtain⟨-,y1,-⟩:=aA hF.ow ar;have er:=((uh HO).ow _ (cy ar)).1;have aE:=NW f k;have hoe:owA f k=f.ow.getD k az:=rfl;rw[hoe]at aE;obtain⟨p,hp⟩:∃p,p=f.ow.getD k az:=⟨_,rfl⟩;rw[<-hp]at y1 er aE;have d1:=(ownsRow.cellAt m7 p.l (by omega)).trans (eC (by rw[zl];exact er));rw[zj f er]at d1;have i1:(0:Int)<=(k:Int):=(by omega);have i2:(k:Int)<(f.ow.length:Int):=(by omega);have i3:(p.l:Int)<24:=(by omega);have dg:=Tq f k;by_cases hm:p.l∈mL f
   .rw[show decide (p.l∈mL f)=true by simpa using hm]at d1;rw[if_pos hm,append_nil]at aE;have HN:Hid (wr.ownsRow w.heap.size 3 1 (.slice la (Ae f k).length lc) (Ae f (k+1)).length (pU (Ae f (k+1)))/\Below W2.heap.size W2 wr/\∀j,(Value.slice la (Ae f k).length lc).ownBlock=some j->W2.heap.size<=j):=ab (by rw[aE];exact uh hI);clear hF m7 hp aE hoe hm hI;go_wp2_with fail
    go_roundg (G-1)
    case rel=>exact⟨k+1,by omega,by go_num,HN⟩
    case measure=>omega
   .rw[show decide (p.l∈mL f)=false by simpa using hm]at d1;rw[if_neg hm]at aE;have HR:=ab (uh hI).1;have Cx:=ab (uh hI).2;have bA:=ab aE;have aqI:=(uh bu).size;have aqD:=(uh hI).2.1.size;obtain⟨L,hL⟩:∃L,L=Ae f k:=⟨_,rfl⟩;rw[<-hL]at HR Cx bA dg hI ⊢;clear hF m7 hp aE hoe hm hI hL;go_wp2_with (at_builtin;refine aK _ rfl (.tmp 29) (.tmp 31) 29 rfl w.heap.size 3 i0 _ 1 8 underlying29 iy dG du ef rfl (by decide) _ L.length (pU L) rfl ((uh HR).alloc _) ⟨_,0,none⟩ 1 [.int .i64 (k:Int)] rfl rfl (aJ _ _ (by simp) [.int .i64 (k:Int)] _) (by intro u hu;simp only[mem_singleton]at hu;subst hu;rfl) (by omega) (by omega) (by simp;omega) ?_)
    intro g4 cap4 w4 dO bU gi;have HN:Hid (w4.ownsRow w.heap.size 3 1 (.slice (some ⟨g4,0,none⟩) (L.length+1) cap4) (Ae f (k+1)).length (pU (Ae f (k+1)))/\Below W2.heap.size W2 w4/\∀j,(Value.slice (some ⟨g4,0,none⟩) (L.length+1) cap4).ownBlock=some j->W2.heap.size<=j):=ab ⟨by
     rw[uh bA,length_append,length_singleton];show w4.ownsRow _ _ _ _ _ (List.map _ (L++[k]));rw[map_append];exact dO,by
     have hb:=(uh Cx).1.alloc (uh Cx).1.size (.cells #[.int .i64 (k:Int)] 3);exact hb.grown bU hb.size (λq hq=>(uh Cx).2 q hq),λj hj=>by
     have e:j=g4:=(by simpa[Value.ownBlock,eq_comm] using hj);subst e;rcases gi with q|q
     .exact(uh Cx).2 j q.symm
     .omega⟩
    clear dO bU gi HR Cx;go_wp2_with fail
    go_roundg (G-1)
    case rel=>exact⟨k+1,by omega,by go_num,HN⟩
    case measure=>omega
  .have hd:decide ((k:Int)<(f.ow.length:Int))=false:=(by simp;omega);have iz:Ae f k=fJ f:=(by unfold Ae fJ;rw[show k=f.ow.length by omega]);rw[iz]at hI ⊢;clear iz hF m7;go_wp2_with fail
   go_ret;exact⟨_,rfl,(uh hI).1,(uh bu).trans ((uh hI).2.1.mono (uh bu).size)⟩
end
section
variable {w:World} {A:Nat} {f:CF} {av ov:Value}
theorem JZ(h:dm w A f av ov)(hO:au f)(ha:f.ap.length<=40000):Calls prog 233 #[.pointer (some ⟨A,0,none⟩)] w λe w'=>∃A',e=.returned (.pointer (some ⟨A',0,none⟩))/\Il w (UH f) A' w':=by
 have f8:=hO.owLen;have CE:=ab (lA h hO);have H:=ab h;have HO:=ab hO;clear h hO;go_enter func233,ntmps233;go_wp2_with fail
 refine(uh CE).mono ?_;rintro e w1 ⟨rfl,aO⟩;obtain⟨M,hM,dl,qO,bT,s7,zT,bP⟩:=NP w1 f;rw[<-hM];have rl:=ab qO;have db:=ab bT;have C7:=ab s7;obtain⟨X,fy⟩:∃X,X=w1.heap.size:=⟨_,rfl⟩;obtain⟨W2,d9⟩:∃W2,W2=(w1.alloc (.cells (cK (replicate 24 false)).toArray 240)).setCells w1.heap.size 0 M:=⟨_,rfl⟩;rw[<-d9]at zT bP;rw[<-fy]at zT;have ax:=aO.trans (bP.mono aO.size);have QK:=ab zT;have bu:=ab ax;have mE:=(uh H).below ax;have jk:=ab (cn mE (uh HO).c5 ha (zq3 f8 (by omega)));have se:=ab mE;clear qO bT s7 zT bP aO ax hM CE mE;simp only[cK,replicate,map_cons,map_nil]at d9;go_upto_region 2 with(refine wpList_store_mid rfl 240 (.tmp 3) (.tmp 8) rfl _ 0 M.toArray rfl rfl (uh rl) (uh db) (uh C7) ?_);rw[<-d9,<-fy];clear d9 fy rl db C7 dl;go_wp2_with fail
 refine(uh jk).mono ?_;rintro e w3 ⟨A3,rfl,qN⟩;obtain⟨av3,ov3,kX⟩:=qN.frf
 -- its owners are dropped
 have aT:=af w3 (.cells #[] 182);have oe:=ownsRow_lit (base:=w3.heap.size) (e:=182) (size:=3) w3 #[] 0 (zq4 _) (by simp[maxLen]) rfl;have Gs:am ov3.ownBlock.toList w3 (Value.slice (some ⟨w3.heap.size,0,none⟩) 0 0).ownBlock.toList (w3.alloc (.cells #[] 182)):=(am.ofBw (F:=ov3.ownBlock.toList) aT).foots (λj hj=>zq1 (oe.lt j (by simpa using hj)).1);obtain⟨pL,dA⟩:=kX.fm.newOv (ow':=[]) Gs (v':=.slice (some ⟨w3.heap.size,0,none⟩) 0 0) (λj hj=>by simpa using hj) (bW oe (zq5 _));obtain⟨W4,vu⟩:∃W4,W4=(w3.alloc (.cells #[] 182)).setCell ⟨A3,6,none⟩ (.slice (some ⟨w3.heap.size,0,none⟩) 0 0):=⟨_,rfl⟩;rw[<-vu]at pL dA;have yB:=kX.step (x':=⟨A3,{ f with ow:=[] },av3,.slice (some ⟨w3.heap.size,0,none⟩) 0 0⟩) pL dA;have e6:=(kX.fm.below aT).is.c6;have z6:=ownsRow.frozenAt (kX.fm.below aT).is.ob 6;obtain⟨sv,Nz⟩:∃sv,sv=Value.slice (some ⟨w3.heap.size,0,none⟩) 0 0:=⟨_,rfl⟩;rw[<-Nz]at yB;have bR:Hid (Kv W2 W4 ⟨A3,{ f with ow:=(f.ow.take 0).filter (λp=>decide (p.l∈mL f)) },av3,sv⟩):=ab yB;have c6:=((uh se).below yB.bw).c6;obtain⟨oa,oc,dB,-,-⟩:=ah (uh se).ow;subst dB;clear qN kX aT oe Gs pL dA yB Nz jk;go_upto_region 4 with fail;rw[<-vu];clear vu e6 z6;go_wp2_with fail
 go_loopg [20] f.ow.length (λgn iv wx=>∃(m:Nat) (ow5:Value),m+gn=f.ow.length/\iv=.int .i64 m/\Hid (Kv W2 wx ⟨A3,{ f with ow:=(f.ow.take m).filter (λp=>decide (p.l∈mL f)) },av3,ow5⟩))
 case atStart=>exact⟨0,sv,by omega,rfl,bR⟩
 case round =>
  clear bR c6;obtain⟨m,ow5,YT,rfl,hI⟩:=hrel;obtain⟨G,hG⟩:∃G,G=gk:=⟨_,rfl⟩;have hF:=(uh se).below (uh hI).bw;have jN:((f.ow.take m).filter (λp=>decide (p.l∈mL f))).length<=24:=zq3 (length_filter_le _ _) (by rw[length_take];omega);by_cases ar:m<f.ow.length
  .have hd:decide ((m:Int)<(f.ow.length:Int))=true:=(by simp;omega);obtain⟨go,gc,iP,-,-⟩:=aC hF.ow ar;simp only[Value.slice.injEq,true_and]at iP;obtain⟨rfl,rfl⟩:=iP;obtain⟨y0,y1,y2⟩:=aA hF.ow ar;have er:=((uh HO).ow _ (cy ar)).1;have aE:=wE (P:=λp=>decide (p.l∈mL f)) ar;obtain⟨p,hp⟩:∃p,p=f.ow.getD m az:=⟨_,rfl⟩;rw[<-hp]at y0 y1 y2 er aE;obtain⟨W5,jl⟩:∃W5,W5=wr.alloc (.cells #[Value.int .i64 p.k,.int .i64 p.l,.int .i64 p.r] 182):=⟨_,rfl⟩;have aT:Below wr.heap.size wr W5:=(by rw[jl];exact af wr _);have ir:Bk W5 wr.heap.size 182 [Value.int .i64 p.k,.int .i64 p.l,.int .i64 p.r]:=(by rw[jl];exact Bk.new wr _ _);obtain⟨Y,mF⟩:∃Y,Y=wr.heap.size:=⟨_,rfl⟩;rw[<-mF]at ir;have b0:=ir.cell 0 rfl;have b1:=ir.cell 1 rfl;have b2:=ir.cell 2 rfl;have pM:=(uh hI).below aT;have m7:=(uh QK).of_eq (w':=W5) (pM.bw.block X (ownsRow.lt (uh QK) X rfl).2);have d1:=(ownsRow.cellAt m7 p.l (by omega)).trans (eC (by rw[zl];exact er));rw[zj f er]at d1;have i1:(0:Int)<=(m:Int):=(by omega);have i2:(m:Int)<(f.ow.length:Int):=(by omega);have i3:(p.l:Int)<24:=(by omega);have H5:=ab pM;by_cases hm:p.l∈mL f
   .rw[show decide (p.l∈mL f)=true by simpa using hm]at d1 aE;have vW:=ab (oB pM.fm p.k p.l p.r (zq3 jN (by omega)));have bA:=ab aE;clear hF hp aE aT ir pM m7 hm hI jN;go_upto_region 7 with fail;rw[<-jl,<-mF];clear jl mF;go_wp2_with fail
    refine(uh vW).mono ?_;rintro e w6 ⟨rfl,ov6,R4,IR⟩;have HN:Hid (Kv W2 w6 ⟨A3,{ f with ow:=(f.ow.take (m+1)).filter (λp=>decide (p.l∈mL f)) },av3,ov6⟩):=ab ((uh H5).step (by rw[uh bA];exact R4) IR);clear R4 IR vW H5;go_wp2_with fail
    go_roundg (G-1)
    case rel=>exact⟨m+1,ov6,by omega,by go_num,HN⟩
    case measure=>omega
   .rw[show decide (p.l∈mL f)=false by simpa using hm]at d1 aE;have HN:Hid (Kv W2 W5 ⟨A3,{ f with ow:=(f.ow.take (m+1)).filter (λp=>decide (p.l∈mL f)) },av3,ow5⟩):=ab (by rw[aE];simpa using pM);clear hF hp aE aT ir pM m7 hm hI jN H5;go_upto_region 7 with fail;rw[<-jl,<-mF];clear jl mF;go_wp2_with fail
    go_roundg (G-1)
    case rel=>exact⟨m+1,ow5,by omega,by go_num,HN⟩
    case measure=>omega
  .have hd:decide ((m:Int)<(f.ow.length:Int))=false:=(by simp;omega);have V2:f.ow.take m=f.ow:=take_of_length_le (by omega);rw[V2]at hI jN;have hOg:au { f with ow:=f.ow.filter (λp=>decide (p.l∈mL f)) }:=au.mk' (uh HO).c5 (uh HO).cl' (λp hp=>(uh HO).ow p (mem_filter.1 hp).1) (uh HO).ap ((uh HO).lf.sublist (filter_sublist.map _)) (uh HO).kd;have Fp:=ab (jK (uh hI).fm hOg (zq3 ha (by omega)));clear V2 hOg hF jN;go_wp2_with fail
   refine(uh Fp).mono ?_;rintro e w7 ⟨rfl,av7,ov7,R5,CN⟩;have ti:=(uh hI).step (x':=⟨A3,UH f,av7,ov7⟩) R5 CN;have HN:Hid (Il w (UH f) A3 w7):=ab ⟨av7,ov7,ti.fm,λk hk=>zq3 (uh bu).size (ti.ge k hk),(uh bu).trans (ti.bw.mono (uh bu).size)⟩;clear R5 CN ti Fp;go_wp2_with fail
   go_ret;exact⟨A3,rfl,uh HN⟩
end
section
variable {w:World} {A:Nat} {f:CF} {av ov:Value} {B:Nat} {v:Value} {L:List FE}
theorem Jx(h:dm w A f av ov)(hf:Td f)(hL:Fl w B v L)(hT:∀x∈L,Td x.f):Calls prog 256 #[v,.pointer (some ⟨A,0,none⟩)] w λe w'=>e=.returned (.bool (Zz (L.map (·.f)) f))/\Below w.heap.size w w':=by
 obtain⟨R,hR⟩:∃R,R=Zz (L.map (·.f)) f:=⟨_,rfl⟩;rw[<-hR];have HR:=ab hR;obtain⟨la,lc,gF,uO,uQ⟩:=ah hL.row;subst gF;have H:=ab h;have HL:=ab hL;have HTf:=ab hf;have HT:=ab hT;have bR:Hid (Below w.heap.size w w/\∀i,i<0->∀x,L[i]?=some x->T5 f x.f=false):=ab ⟨Below.refl _ _,λi hi=>by omega⟩;clear h hf hL hT hR;go_enter func256,ntmps256;go_wp2_with fail
 go_loopg [9] L.length (λgn iv wx=>∃(k:Nat),k+gn=L.length/\iv=.int .i64 k/\Hid (Below w.heap.size w wx/\∀i,i<k->∀x,L[i]?=some x->T5 f x.f=false))
 case atStart=>exact⟨0,by omega,rfl,bR⟩
 case round =>
  clear bR;obtain⟨k,fC,rfl,hI⟩:=hrel;obtain⟨G,hG⟩:∃G,G=gk:=⟨_,rfl⟩;by_cases ar:k<L.length
  .have hd:decide ((k:Int)<(L.length:Int))=true:=(by simp;omega);have X6:=(uh HL).below (uh hI).1;obtain⟨g2,cap2,cS,aq⟩:=X6.pend.cell ar;simp only[Value.slice.injEq,true_and]at cS;obtain⟨rfl,rfl⟩:=cS;have hx:=X6.fm _ (getElem_mem ar);have htx:=uh HT _ (getElem_mem ar);have hg:L[k]?=some L[k]:=getElem?_eq_getElem ar;obtain⟨x,Ab⟩:∃x,x=L[k]:=⟨_,rfl⟩;rw[<-Ab]at aq hx htx hg;have yH:x.p=.pointer (some ⟨x.A,0,none⟩):=rfl;rw[yH]at aq;have Fo:=ab (OZ ((uh H).below (uh hI).1) hx.is (zq3 (uh HTf).ln (by omega)) (zq3 (uh HTf).ok.owLen (by omega)) (zq3 htx.ln (by omega)) (zq3 htx.ok.owLen (by omega)));have HG:=ab hg;have i1:(0:Int)<=(k:Int):=(by omega);have i2:(k:Int)<(L.length:Int):=(by omega);clear X6 hx htx hg Ab yH;go_wp2_with fail
   refine(uh Fo).mono ?_;rintro e w3 ⟨rfl,bF⟩;have mN:=ab ((uh hI).1.trans (bF.mono (uh hI).1.size));clear bF Fo;cases tB:T5 f x.f
   .go_wp2_with fail
    go_roundg (G-1)
    case rel=>exact⟨k+1,by omega,by go_num,ab ⟨uh mN,λi hi y hy=>by
     by_cases e:i=k
     .rw[e,uh HG]at hy;injection hy with hy;rw[<-hy];exact tB
     .exact(uh hI).2 i (by omega) y hy⟩⟩
    case measure=>omega
   .have HE:Hid (R=false):=ab (by
     rw[uh HR];unfold Zz;have:(L.map (·.f)).any (λg=>T5 f g)=true:=by
      rw[any_eq_true];exact⟨x.f,mem_map_of_mem (mem_of_getElem? (uh HG)),tB⟩
     rw[this];rfl)
    clear tB;go_wp2_with fail
    go_ret;exact⟨aw (uh HE).symm,uh mN⟩
  .have hd:decide ((k:Int)<(L.length:Int))=false:=(by simp;omega);have HE:Hid (R=true):=ab (by
    rw[uh HR];unfold Zz;have:(L.map (·.f)).any (λg=>T5 f g)=false:=by
     rw[any_eq_false];intro g hg;obtain⟨x,hx,rfl⟩:=mem_map.1 hg;obtain⟨i,hi,rfl⟩:=mem_iff_getElem.1 hx;rw[(uh hI).2 i (by omega) _ (getElem?_eq_getElem hi)];simp
    rw[this];rfl)
   go_wp2_with fail
   go_ret;exact⟨aw (uh HE).symm,(uh hI).1⟩
end
def nH(c0 hv:Value)(lp:Bool)(kv wv:Value)(bd:Bool)(lf lo:Int)(fu:Bool):List Value:=[c0,hv,.bool lp,kv,wv,.bool bd,.int .i64 lf,.int .i64 lo,.bool fu]
section
variable {w:World} {S:Nat} {c0 hv kv wv:Value} {lp bd fu:Bool} {lf lo:Int}
theorem xE(h:Bk w S 229 (nH c0 hv lp kv wv bd lf lo fu)):Calls prog 232 #[.pointer (some ⟨S,0,none⟩)] w λe w'=>e=.returned (.tuple #[])/\Bk w' S 229 (nH c0 hv lp kv wv bd (wrap64 (lf-1)) lo (fu||(decide (wrap64 (lf-1)<0)&&bd)))/\am [S] w [S] w':=by
 have c6:=h.cell 6 rfl;have z6:=h.frz 6;have hq:IntKind.i64.wrap (lf-1)=wrap64 (lf-1):=by rw[IntKind.wrap_i64,wrap64]
 obtain⟨l',hl'⟩:∃l',l'=wrap64 (lf-1):=⟨_,rfl⟩;rw[<-hl']at hq ⊢;have h2:=h.set 6 (.int .i64 l');have d6:=h2.cell 6 rfl;have d5:=h2.cell 5 rfl;have d8:=h2.cell 8 rfl;have z8:=h2.frz 8;have ce:am [S] w [S] (w.setCell ⟨S,6,none⟩ (.int .i64 l')):=(am.refl _ _).setCell (p:=⟨S,6,none⟩) (zq0 (by simp)) _;have dP:am [S] w [S] ((w.setCell ⟨S,6,none⟩ (.int .i64 l')).setCell ⟨S,8,none⟩ (.bool true)):=ce.setCell (p:=⟨S,8,none⟩) (zq0 (by simp)) _;have H2:=ab h2;have H3:=ab (h2.set 8 (.bool true));have bz:=ab ce;have dd:=ab dP;clear h h2 ce dP hl';by_cases hn:l'<0
 .have d0:decide (l'<(0:Int))=true:=by simpa using hn
  cases bd
  .have HE:Hid ((fu||(decide (l'<0)&&false))=fu):=ab (by simp);clear hn;go_enter func232,ntmps232;go_wp2_with fail
   go_end0
   exact⟨rfl,by rw[uh HE];exact uh H2,uh bz⟩
  .have HE:Hid ((fu||(decide (l'<0)&&true))=true):=ab (by simp[hn]);clear hn;go_enter func232,ntmps232;go_wp2_with fail
   go_end0
   exact⟨rfl,by rw[uh HE];exact uh H3,uh dd⟩
 .have d0:decide (l'<(0:Int))=false:=by simpa using hn
  have HE:Hid ((fu||(decide (l'<0)&&bd))=fu):=ab (by rw[d0];simp);clear hn;go_enter func232,ntmps232;go_wp2_with fail
  go_end0
  exact⟨rfl,by rw[uh HE];exact uh H2,uh bz⟩
theorem NY(h:Bk w S 229 (nH c0 hv lp kv wv bd lf lo fu))(n:Nat):Calls prog 230 #[.pointer (some ⟨S,0,none⟩),.int .i64 n] w λe w'=>e=.returned (.tuple #[])/\Bk w' S 229 (nH c0 hv lp kv wv bd lf (wrap64 (lo-n)) (fu||(decide (wrap64 (lo-n)<0)&&bd)))/\am [S] w [S] w':=by
 have c6:=h.cell 7 rfl;have z6:=h.frz 7;have hq:IntKind.i64.wrap (lo-(n:Int))=wrap64 (lo-n):=by rw[IntKind.wrap_i64,wrap64]
 obtain⟨l',hl'⟩:∃l',l'=wrap64 (lo-n):=⟨_,rfl⟩;rw[<-hl']at hq ⊢;have h2:=h.set 7 (.int .i64 l');have d6:=h2.cell 7 rfl;have d5:=h2.cell 5 rfl;have d8:=h2.cell 8 rfl;have z8:=h2.frz 8;have ce:am [S] w [S] (w.setCell ⟨S,7,none⟩ (.int .i64 l')):=(am.refl _ _).setCell (p:=⟨S,7,none⟩) (zq0 (by simp)) _;have dP:am [S] w [S] ((w.setCell ⟨S,7,none⟩ (.int .i64 l')).setCell ⟨S,8,none⟩ (.bool true)):=ce.setCell (p:=⟨S,8,none⟩) (zq0 (by simp)) _;have H2:=ab h2;have H3:=ab (h2.set 8 (.bool true));have bz:=ab ce;have dd:=ab dP;clear h h2 ce dP hl';by_cases hn:l'<0
 .have d0:decide (l'<(0:Int))=true:=by simpa using hn
  cases bd
  .have HE:Hid ((fu||(decide (l'<0)&&false))=fu):=ab (by simp);clear hn;go_enter func230,ntmps230;go_wp2_with fail
   go_end0
   exact⟨rfl,by rw[uh HE];exact uh H2,uh bz⟩
  .have HE:Hid ((fu||(decide (l'<0)&&true))=true):=ab (by simp[hn]);clear hn;go_enter func230,ntmps230;go_wp2_with fail
   go_end0
   exact⟨rfl,by rw[uh HE];exact uh H3,uh dd⟩
 .have d0:decide (l'<(0:Int))=false:=by simpa using hn
  have HE:Hid ((fu||(decide (l'<0)&&bd))=fu):=ab (by rw[d0];simp);clear hn;go_enter func230,ntmps230;go_wp2_with fail
  go_end0
  exact⟨rfl,by rw[uh HE];exact uh H2,uh bz⟩
end
theorem kT{c:Cd}{r:List CF × Sr}{g:CF}(h:(mD c r g).2.ok=true):r.2.ok=true/\(Zz r.1 (bJ g)=true->r.1.length<=fN):=by
 unfold mD at h;split at h
 .have h1:(r.2.ok&&decide (r.1.length<=fN))=true:=h;rw[Bool.and_eq_true,decide_eq_true_eq]at h1;exact⟨h1.1,λ_=>h1.2⟩
 .rename_i hn;exact⟨h,λe=>absurd e hn⟩
theorem eN{β:Type}(g:List CF × Sr->β->List CF × Sr)(hg:∀r b,(g r b).2.ok=true->r.2.ok=true):∀(l:List β) {r:List CF × Sr},(l.foldl g r).2.ok=true->r.2.ok=true
 |[],_,h=>h
 |b::l,r,h=>hg r b (eN g hg l h)
theorem sV{c:Cd}{f:CF}{i:Nat}(r:List CF × Sr)(a:Nat)(h:(nS c f i r a).2.ok=true):r.2.ok=true:=by
 unfold nS at h;split at h
 .exact eN (mD c) (λr b h=>(kT h).1) _ h
 .exact h
structure Fn(w W:World)(B:Nat)(F0:List Nat)(S:Nat)(cs:List Value)(X:Nat)(f:CF)(v:Value)(L:List FE):Prop where
 fl:Fl W B v L
 bs:Bk W S 229 cs
 xb:Ob W 240 24 X (cK (CZ f))
 ns:∀k∈a6 v L,k≠S/\k≠X
 sx:S≠X
 st:am F0 w (S::a6 v L) W
 s0:S∈F0
 bb:B<=W.heap.size
section
variable {w W W':World} {B S X:Nat} {F0:List Nat} {cs cs':List Value} {f:CF} {v:Value} {L:List FE}
theorem Fn.xl(h:Fn w W B F0 S cs X f v L):X<W.heap.size:=(ownsRow.lt h.xb X rfl).2
theorem Fn.below(h:Fn w W B F0 S cs X f v L)(hb:Below W.heap.size W W'):Fn w W' B F0 S cs X f v L :=
 ⟨h.fl.below hb,h.bs.below hb,h.xb.of_eq (hb.block X h.xl),h.ns,h.sx,⟨hb.os.trans h.st.os,hb.tape.trans h.st.tape,hb.output.trans h.st.output,zq3 h.st.size hb.size,λk hk hn=>(hb.block k (zq6 hk h.st.size)).trans (h.st.block k hk hn),h.st.foot⟩,h.s0,zq3 h.bb hb.size⟩
theorem Fn.spend(h:Fn w W B F0 S cs X f v L)(hb:Bk W' S 229 cs')(hs:am [S] W [S] W'):Fn w W' B F0 S cs' X f v L:=by
 refine⟨h.fl.stp hs (λk hk hn=>(h.ns k hk).1 (by simpa using hn)),hb,h.xb.of_eq (hs.block X h.xl (by simpa using λe=>h.sx e.symm)),h.ns,h.sx,⟨hs.os.trans h.st.os,hs.tape.trans h.st.tape,hs.output.trans h.st.output,zq3 h.st.size hs.size,λk hk hn=>(hs.block k (zq6 hk h.st.size) (λe=>hn (by rw[mem_singleton]at e;rw[e];exact h.s0))).trans (h.st.block k hk hn),h.st.foot⟩,h.s0,zq3 h.bb hs.size⟩
theorem Fn.side{F F':List Nat}(h:Fn w W B F0 S cs X f v L)(hs:am F W F' W')(hd:∀k∈F,k ∉ a6 v L/\k≠S/\k≠X/\w.heap.size<=k):Fn w W' B F0 S cs X f v L :=
 ⟨h.fl.stp hs (λk hk hn=>(hd k hn).1 hk),h.bs.stp hs (λhn=>(hd S hn).2.1 rfl),h.xb.of_eq (hs.block X h.xl (λhn=>(hd X hn).2.2.1 rfl)),h.ns,h.sx,⟨hs.os.trans h.st.os,hs.tape.trans h.st.tape,hs.output.trans h.st.output,zq3 h.st.size hs.size,λk hk hn=>(hs.block k (zq6 hk h.st.size) (λe=>by have:=(hd k e).2.2.2;omega)).trans (h.st.block k hk hn),h.st.foot⟩,h.s0,zq3 h.bb hs.size⟩
theorem Fn.app {g1 c1:Nat} {o:Obj} {x:FE} {W1:World} (h:Fn w W B F0 S cs X f v L) (hx:Fm W x.A x.f x.av x.ov) (hd:∀k∈x.bs,k ∉ a6 v L/\k≠S/\k≠X/\w.heap.size<=k/\B<=k)
  (aN:W1.ownsRow B 126 1 (.slice (some ⟨g1,0,none⟩) (L.length+1) c1) (L.length+1) (L.map FE.p++[x.p])) (hg:(W.alloc o).grownBy W1 v.ownBlock) (b7:some g1=v.ownBlock\/g1=(W.alloc o).heap.size) :
  Fn w W1 B F0 S cs X f (.slice (some ⟨g1,0,none⟩) (L.length+1) c1) (L++[x]):=by
 obtain⟨a1,a2,a3⟩:=h.fl.app hx (λk hk=>(hd k hk).2.2.2.2) (λk hk=>(hd k hk).1) h.bb aN hg b7;have hv:∀k∈v.ownBlock.toList,k∈a6 v L:=λk hk=>mem_append_left _ hk;refine⟨a1,h.bs.stp a2 (λhn=>(h.ns S (hv S hn)).1 rfl),h.xb.of_eq (a2.block X h.xl (λhn=>(h.ns X (hv X hn)).2 rfl)),λk hk=>?_,h.sx,?_,h.s0,zq3 h.bb a2.size⟩
 .rcases a3 k hk with q|q|q
  .exact h.ns k q
  .exact⟨(hd k q).2.1,(hd k q).2.2.1⟩
  .exact⟨λe=>by have:=h.bs.lt;omega,λe=>by have:=h.xl;omega⟩
 .have h2:=h.st;refine⟨a2.os.trans h2.os,a2.tape.trans h2.tape,a2.output.trans h2.output,zq3 h2.size a2.size,λk hk hn=>?_,λk hk=>?_⟩
  .rw[a2.block k (zq6 hk h2.size) (λhm=>?_)]
   .exact h2.block k hk hn
   .rcases h2.foot k (mem_cons_of_mem _ (hv k hm)) with q|q
    .exact hn q
    .omega
  .rcases mem_cons.1 hk with rfl|hk
   .exact h2.foot k (by simp)
   .rcases a3 k hk with q|q|q
    .exact h2.foot k (mem_cons_of_mem _ q)
    .exact zq1 (hd k q).2.2.2.1
    .exact zq1 (zq3 h2.size q)
end
theorem Zr{f g:CF}{a i:Nat}(h:g∈gt f a i):g.ap.length=f.ap.length:=by
 unfold gt at h;rcases mem_append.1 h with h|h
 .split at h
  .simp at h
  .rw[mem_singleton]at h;subst h;show(f.ap.map _).length=_;rw[length_map]
 .split at h
  .rw[mem_singleton]at h;subst h;rfl
  .simp at h
section
variable {w:World} {B S:Nat} {v:Value} {L:List FE} {c0 hv kv wv:Value} {lp:Bool} {lo:Int} {x:FE} {c:Cd} {s:Sr}
theorem IH(hS:Bk w S 229 (nH c0 hv lp kv wv c.bd s.lf lo s.fu))(hL:Fl w B v L)(hT:∀y∈L,Td y.f)(hx:x∈L)(hSL:S ∉ a6 v L)(hB:B<=w.heap.size){i:Nat}(hi:i<x.f.ow.length)(aY:(eZ c x.f (L.map (·.f),s) i).2.ok=true):
  Calls prog 234 #[.pointer (some ⟨S,0,none⟩),v,.pointer (some ⟨x.A,0,none⟩),.int .i64 i] w λe w'=>∃v' L',e=.returned v'/\Fl w' B v' (L++L')/\(∀y∈L',Td y.f)/\(L++L').map (·.f)=(eZ c x.f (L.map (·.f),s) i).1/\Bk w' S 229 (nH c0 hv lp kv wv c.bd (eZ c x.f (L.map (·.f),s) i).2.lf lo (eZ c x.f (L.map (·.f),s) i).2.fu)/\S ∉ a6 v' (L++L')/\am (S::a6 v L) w (S::a6 v' (L++L')) w':=by
 obtain⟨i0,iy,dG,du,ef⟩:=info_parts infoPF;obtain⟨R,hR⟩:∃R,R=eZ c x.f (L.map (·.f),s) i:=⟨_,rfl⟩;rw[<-hR]at aY ⊢;have hxF:=hL.fm x hx;have hxT:=hT x hx;have f8:=hxT.ok.owLen;have CE:=ab (lA hxF.is hxT.ok);obtain⟨va,vc,gF,-,-⟩:=ah hL.row;subst gF;have HL:=ab hL;have HS:=ab hS;have HX:=ab hx;have HXT:=ab hxT;have HT:=ab hT;have HSL:=ab hSL;have kj:=ab aY;have HRR:=ab hR;have HXP:Hid (∀(W:World) (vv:Value) (E:List FE),Fl W B vv (L++E)->Fm W x.A x.f x.av x.ov):=ab (λW vv E hf=>hf.fm x (mem_append_left _ hx));obtain⟨xa,xf,xav,xov⟩:=x;simp only at hi CE HXT HXP f8 hR HRR ⊢;clear hL hS hx hxF hxT hT hSL aY hR;go_enter func234,ntmps234;go_wp2_with fail
 refine(uh CE).mono ?_;rintro e w1 ⟨rfl,aO⟩;obtain⟨M,hM,dl,qO,bT,s7,zT,bP⟩:=NP w1 xf;rw[<-hM];have rl:=ab qO;have db:=ab bT;have C7:=ab s7;obtain⟨X,fy⟩:∃X,X=w1.heap.size:=⟨_,rfl⟩;obtain⟨W2,d9⟩:∃W2,W2=(w1.alloc (.cells (cK (replicate 24 false)).toArray 240)).setCells w1.heap.size 0 M:=⟨_,rfl⟩;rw[<-d9]at zT bP;rw[<-fy]at zT;have ax:=aO.trans (bP.mono aO.size);have hFn:Fn w W2 B (S::a6 (.slice va L.length vc) L) S (nH c0 hv lp kv wv c.bd s.lf lo s.fu) X xf (.slice va L.length vc) (L++[]):=by
  rw[append_nil];have h1:=uh HL;have h2:=uh HS;refine⟨h1.below ax,h2.below ax,zT,λk hk=>⟨λe=>uh HSL (by rw[<-e];exact hk),λe=>?_⟩,λe=>?_,(am.ofBw ax),by simp,zq3 hB ax.size⟩
  .have:=h1.lt k hk;have:=aO.size;omega
  .have:=h2.lt;have:=aO.size;omega
 have bR:Hid (Fn w W2 B (S::a6 (.slice va L.length vc) L) S (nH c0 hv lp kv wv c.bd s.lf lo s.fu) X xf (.slice va L.length vc) (L++[])/\w.heap.size<=X):=ab ⟨hFn,by rw[fy];exact aO.size⟩;clear qO bT s7 zT bP aO ax hM CE hFn;simp only[cK,replicate,map_cons,map_nil]at d9;go_upto_region 2 with(refine wpList_store_mid rfl 240 (.tmp 9) (.tmp 14) rfl _ 0 M.toArray rfl rfl (uh rl) (uh db) (uh C7) ?_);rw[<-d9,<-fy];clear d9 fy rl db C7 dl;go_wp2_with fail
 go_loopg [1,10] 24 (λgn cv iv wx=>∃(k:Nat) (E:List FE) (s':Sr),k+gn=24/\iv=.int .i64 k/\Hid (Fn w wx B (S::a6 (.slice va L.length vc) L) S (nH c0 hv lp kv wv c.bd s'.lf lo s'.fu) X xf cv (L++E)/\(∀y∈E,Td y.f)/\(List.range' k (24-k)).foldl (nS c xf i) ((L++E).map (·.f),s')=R/\w.heap.size<=X))
 case atStart=>exact⟨0,[],s,by omega,rfl,ab ⟨(uh bR).1,λy hy=>by simp at hy,by rw[append_nil,uh HRR];unfold eZ;rw[range_eq_range'],(uh bR).2⟩⟩
 case round =>
  clear bR;obtain⟨k,E,s',fC,rfl,hI⟩:=hrel;obtain⟨G,hG⟩:∃G,G=gk:=⟨_,rfl⟩;obtain⟨la,lc,gF,-,-⟩:=ah (uh hI).1.fl.row;subst gF;by_cases ar:k<24
  .have hd:decide ((k:Int)<(24:Int))=true:=(by simp;omega);have Jk:List.range' k (24-k)=k::List.range' (k+1) (24-(k+1)):=(by rw[show 24-k=(24-(k+1))+1 by omega,range'_succ]);have gJ:=(uh hI).2.2.1;rw[Jk,foldl_cons]at gJ;have hF:=(uh HXP wr _ E (uh hI).1.fl);have d1:=(ownsRow.cellAt (uh hI).1.xb k (by omega)).trans (eC (by rw[zl];exact ar));rw[zj xf ar]at d1;have x0:=hF.is.cls (i:=0) (by omega);unfold eR at x0;obtain⟨n0,qt⟩:∃n0,n0=xf.cl.getD 0 0:=⟨_,rfl⟩;rw[<-qt]at x0;have VI:fnA xf k=(decide (k∈mL xf)&&!decide (k=n0)&&!(dJ xf.ow k).isSome):=(by rw[qt];rfl);have kK:=ab (cj k hF.is);have i1:(0:Int)<=(k:Int):=(by omega);have i2:(k:Int)<(24:Int):=(by omega);have hsk:fnA xf k=false->(List.range' (k+1) (24-(k+1))).foldl (nS c xf i) ((L++E).map (·.f),s')=R:=λe=>by
    have e2:nS c xf i ((L++E).map (·.f),s') k=((L++E).map (·.f),s'):=(by unfold nS;rw[if_neg (by rw[e];decide)]);rw[e2]at gJ;exact gJ
   have U5:Hid (fnA xf k=false->Hid (Fn w wr B (S::a6 (.slice va L.length vc) L) S (nH c0 hv lp kv wv c.bd s'.lf lo s'.fu) X xf (.slice la (L++E).length lc) (L++E)/\(∀y∈E,Td y.f)/\(List.range' (k+1) (24-(k+1))).foldl (nS c xf i) ((L++E).map (·.f),s')=R/\w.heap.size<=X)):=ab (λe=>ab ⟨(uh hI).1,(uh hI).2.1,hsk e,(uh hI).2.2.2⟩);have Fh:=ab gJ;have C6:=ab VI;clear Jk gJ hF qt VI hsk;rw[length_append]at U5 ⊢;by_cases hm:k∈mL xf
   .rw[show decide (k∈mL xf)=true by simpa using hm]at d1 C6;by_cases hc:k=n0
    .have d2:((k:Int)==(n0:Int))=true:=(by simp[hc]);have HN:=ab (uh U5 (by rw[uh C6];simp[hc]));clear hm hc U5 hI;go_wp2_with fail
     go_roundg (G-1)
     case rel=>exact⟨k+1,E,s',by omega,by go_num,uh HN⟩
     case measure=>omega
    .have d2:((k:Int)==(n0:Int))=false:=(by simp;omega);have hg:=pX (dJ xf.ow k);cases hb:dJ xf.ow k with
     |some b0 =>
      rw[hb]at hg kK;have HN:=ab (uh U5 (by rw[uh C6,hb];simp));clear hm hc U5 hI hb;go_wp2_with fail
      refine(uh kK).mono ?_;rintro e w3 ⟨rfl,rfl⟩;go_wp2_with fail
      go_roundg (G-1)
      case rel=>exact⟨k+1,E,s',by omega,by go_num,uh HN⟩
      case measure=>omega
     |none =>
      rw[hb]at hg kK;have hA:fnA xf k=true:=(by rw[uh C6,hb];simp[hc]);have hF:=(uh HXP wr _ E (uh hI).1.fl);have uI:=ab (Ey hF.is (uh HXT).ok (zq3 (uh HXT).ln (by omega)) ar hi);have HMO:=ab (GS (i:=i) (uh HXT).ok ar hb);have k7:nS c xf i ((L++E).map (·.f),s') k=(gt xf k i).foldl (mD c) ((L++E).map (·.f),s'):=(by unfold nS;rw[if_pos hA]);rw[k7]at Fh;obtain⟨R1,wO⟩:∃R1,R1=(gt xf k i).foldl (mD c) ((L++E).map (·.f),s'):=⟨_,rfl⟩;rw[<-wO]at Fh;have zK:=ab wO;have WU:Hid (R1.2.ok=true):=ab (by
       refine eN (nS c xf i) (λr b h=>sV r b h) (List.range' (k+1) (24-(k+1))) ?_;rw[uh Fh];exact uh kj)
      have Vx:=oE xf k i;have HI:=ab (uh hI);clear hm hc U5 hI hb hA hF k7 wO;go_wp2_with fail
      refine(uh kK).mono ?_;rintro e w3 ⟨rfl,rfl⟩;go_wp2_with fail
      refine(uh uI).mono ?_;rintro e w4 ⟨v2,L2,rfl,Bh,qs,gX⟩;have acL:=(uh HI).1.below gX;have hP4:=Bh.pend;have Qb:∀y∈kU v2 L2 0,y ∉ a6 (.slice la (L++E).length lc) (L++E)/\y≠S/\y≠X/\w.heap.size<=y/\B<=y:=λy hy=>by
       have h1:=hP4.geB y hy;exact⟨λhn=>by have h2:=(uh HI).1.fl.lt y hn;omega,λe=>by have h2:=(uh HI).1.bs.lt;omega,λe=>by have h2:=(uh HI).1.xl;omega,zq3 (uh HI).1.st.size h1,zq3 (uh HI).1.bb h1⟩
      obtain⟨B2,DM⟩:∃B2,B2=w3.heap.size:=⟨_,rfl⟩;rw[<-DM]at hP4;obtain⟨a2,c2,tE,-,-⟩:=ah hP4.row;subst tE;have Ah:=ab qs;have acX:L2.length<=2:=(by have:=congrArg List.length qs;rw[length_map]at this;omega);have mi:Hid (Fn w w4 B (S::a6 (.slice va L.length vc) L) S (nH c0 hv lp kv wv c.bd s'.lf lo s'.fu) X xf (.slice la (L.length+E.length) lc) (L++E)/\(∀y∈E,Td y.f)/\eQ w4 B2 (.slice a2 L2.length c2) L2 0/\(∀y∈kU (.slice a2 L2.length c2) L2 0,y ∉ a6 (.slice la (L.length+E.length) lc) (L++E)/\y≠S/\y≠X/\w.heap.size<=y/\B<=y)/\((gt xf k i).drop 0).foldl (mD c) ((L++E).map (·.f),s')=R1/\w.heap.size<=X):=ab (by
       rw[<-length_append];exact⟨acL,(uh HI).2.1,hP4,Qb,(uh zK).symm,(uh HI).2.2.2⟩)
      clear Bh qs gX acL hP4 Qb uI HI DM Vx d1 x0;go_wp2_with fail
      go_loopg [1,43] L2.length (λgn cv iv wx=>∃(j:Nat) (Ea:List FE) (sa:Sr),j+gn=L2.length/\iv=.int .i64 j/\Hid (Fn w wx B (S::a6 (.slice va L.length vc) L) S (nH c0 hv lp kv wv c.bd sa.lf lo sa.fu) X xf cv (L++Ea)/\(∀y∈Ea,Td y.f)/\eQ wx B2 (.slice a2 L2.length c2) L2 j/\(∀y∈kU (.slice a2 L2.length c2) L2 j,y ∉ a6 cv (L++Ea)/\y≠S/\y≠X/\w.heap.size<=y/\B<=y)/\((gt xf k i).drop j).foldl (mD c) ((L++Ea).map (·.f),sa)=R1/\w.heap.size<=X))
      case atStart=>exact⟨0,E,s',by omega,rfl,mi⟩
      case round =>
       clear mi;obtain⟨j,Ea,sa,wU,rfl,hJ⟩:=hrel;obtain⟨G2,AY⟩:∃G2,G2=gk:=⟨_,rfl⟩;obtain⟨lb,ld,gF,-,-⟩:=ah (uh hJ).1.fl.row;subst gF;by_cases eh:j<L2.length
       .have gx:decide ((j:Int)<(L2.length:Int))=true:=(by simp;omega);obtain⟨g2,cap2,cS,aq⟩:=(uh hJ).2.2.1.cell eh;simp only[Value.slice.injEq,true_and]at cS;obtain⟨rfl,rfl⟩:=cS;obtain⟨hy,-,MK,MI,MJ⟩:=(uh hJ).2.2.1.next eh;have qp:j<(gt xf k i).length:=(by rw[<-uh Ah,length_map];exact eh);have hfy:L2[j].f=(gt xf k i)[j]:=by
         have:=congrArg (λl=>l[j]?) (uh Ah);simp only[getElem?_map,getElem?_eq_getElem eh,getElem?_eq_getElem qp,Option.map_some,Option.some.injEq]at this;exact this
        have iB:L2[j].f∈gt xf k i:=(by rw[hfy];exact getElem_mem qp);have hyO:=uh HMO _ iB;have hya:=Zr iB;have lO:(gt xf k i).drop j=L2[j].f::(gt xf k i).drop (j+1):=(by rw[hfy];exact drop_eq_getElem_cons qp);have gJ:=(uh hJ).2.2.2.2.1;rw[lO,foldl_cons]at gJ;have hokG:(mD c ((L++Ea).map (·.f),sa) L2[j].f).2.ok=true:=eN (mD c) (λr b h=>(kT h).1) ((gt xf k i).drop (j+1)) (by rw[gJ];exact uh WU);have Nm:=(kT hokG).2;obtain⟨y,hye⟩:∃y,y=L2[j]:=⟨_,rfl⟩;rw[<-hye]at aq hy MI MJ hyO hya gJ Nm;have hdy:∀q∈y.bs,q ∉ a6 (.slice lb (L++Ea).length ld) (L++Ea)/\q≠S/\q≠X/\w.heap.size<=q/\B<=q:=λq hq=>(uh hJ).2.2.2.1 q (MJ q hq);have Fp:=ab (jK hy hyO (by rw[hya];exact zq3 (uh HXT).ln (by omega)));have Gw:y.p=.pointer (some ⟨y.A,0,none⟩):=rfl;rw[Gw]at aq;have KD:=ab gJ;have HMo:=ab Nm;have HPn:=ab MK;have HPd:=ab MI;have HDy:=ab hdy;have HYO:=ab hyO;have HJ:=ab (uh hJ);have k1:(0:Int)<=(j:Int):=(by omega);have k2:(j:Int)<(L2.length:Int):=(by omega);clear hy MK MI MJ qp hfy iB hyO hya lO gJ hokG Nm hdy Gw hye hJ;rw[length_append]at HDy HJ ⊢;go_wp2_with fail
        refine(uh Fp).mono ?_;rintro e w5 ⟨rfl,av5,ov5,AX,ep⟩;have V1:∀q∈aG y.A av5 ov5,q ∉ a6 (.slice lb (L.length+Ea.length) ld) (L++Ea)/\q≠S/\q≠X/\w.heap.size<=q/\B<=q:=λq hq=>by
         rcases ep.foot q hq with p|p
         .exact uh HDy q p
         .exact⟨λhn=>by have h2:=(uh HJ).1.fl.lt q hn;omega,λe=>by have h2:=(uh HJ).1.bs.lt;omega,λe=>by have h2:=(uh HJ).1.xl;omega,zq3 (uh HJ).1.st.size p,zq3 (uh HJ).1.bb p⟩
        have XZ:=(uh HJ).1.side ep (λq hq=>⟨(uh HDy q hq).1,(uh HDy q hq).2.1,(uh HDy q hq).2.2.1,(uh HDy q hq).2.2.2.1⟩);have hP5:=(uh HPn).stp ep (λq hq hn=>(uh HPd q hq).2 hn);have VA:∀q∈L++Ea,Td q.f:=λq hq=>by
         rcases mem_append.1 hq with h|h
         .exact uh HT q h
         .exact(uh HJ).2.1 q h
        have HIN:=ab (Jx AX.is (uh HYO).tidy XZ.fl VA);have ac8:∀q∈kU (.slice (some ⟨g2,0,none⟩) L2.length c2) L2 (j+1),(q ∉ a6 (.slice lb (L.length+Ea.length) ld) (L++Ea)/\q≠S/\q≠X/\w.heap.size<=q/\B<=q)/\q ∉ aG y.A av5 ov5:=λq hq=>⟨(uh HJ).2.2.2.1 q (uh HPd q hq).1,λhn=>by
         rcases ep.foot q hn with p|p
         .exact(uh HPd q hq).2 p
         .have:=(uh HPn).lt q hq;omega⟩
        have US:=ab AX;have abD:=ab XZ;have HP5:=ab hP5;have HSd:=ab V1;have C8:=ab ac8;clear AX ep V1 XZ hP5 VA ac8 Fp aq;go_wp2_with fail
        refine(uh HIN).mono ?_;rintro e w6 ⟨rfl,gh⟩;have IN:=(uh abD).below gh;have HP6:=ab ((uh HP5).below gh);have HF6:=ab ((uh US).below gh);clear HIN abD HP5 US;cases aM:Zz ((L++Ea).map (·.f)) (bJ y.f)
        .have SB:mD c ((L++Ea).map (·.f),sa) y.f=((L++Ea).map (·.f),sa):=(by unfold mD;rw[if_neg (by rw[aM];decide)]);have HN:Hid (Fn w w6 B (S::a6 (.slice va L.length vc) L) S (nH c0 hv lp kv wv c.bd sa.lf lo sa.fu) X xf (.slice lb (L.length+Ea.length) ld) (L++Ea)/\(∀y∈Ea,Td y.f)/\eQ w6 B2 (.slice (some ⟨g2,0,none⟩) L2.length c2) L2 (j+1)/\(∀y∈kU (.slice (some ⟨g2,0,none⟩) L2.length c2) L2 (j+1),y ∉ a6 (.slice lb (L.length+Ea.length) ld) (L++Ea)/\y≠S/\y≠X/\w.heap.size<=y/\B<=y)/\((gt xf k i).drop (j+1)).foldl (mD c) ((L++Ea).map (·.f),sa)=R1/\w.heap.size<=X):=ab ⟨IN,(uh HJ).2.1,uh HP6,λq hq=>(uh C8 q hq).1,by have:=uh KD;rw[SB]at this;exact this,(uh HJ).2.2.2.2.2⟩;clear SB aM IN gh HJ;go_wp2_with fail
         go_roundg (G2-1)
         case rel=>exact⟨j+1,Ea,sa,by omega,by go_num,HN⟩
         case measure=>omega
        .have SB:mD c ((L++Ea).map (·.f),sa) y.f=((L++Ea).map (·.f)++[bJ y.f],re c { sa with ok:=sa.ok&&decide (((L++Ea).map (·.f)).length<=fN) }):=(by unfold mD;rw[if_pos aM]);have dg:L.length+Ea.length<=900000:=by
          have:=uh HMo aM;rw[length_map,length_append]at this;unfold fN at this;exact this
         have QL:Hid (w6.ownsRow B 126 1 (.slice lb (L.length+Ea.length) ld) (L.length+Ea.length) ((L++Ea).map FE.p)):=ab (by have:=IN.fl.row;rwa [length_append]at this);have abE:=ab IN;have apO:=IN.bb;have HGG:=ab SB;clear SB aM IN gh;go_wp2_with (at_builtin;refine aK _ rfl (.tmp 52) (.tmp 54) 125 rfl B 126 i0 _ 1 8 underlying125 iy dG du ef rfl (by decide) _ (L.length+Ea.length) ((L++Ea).map FE.p) rfl ((uh QL).alloc _) ⟨_,0,none⟩ 1 [.pointer (some ⟨y.A,0,none⟩)] rfl rfl (aJ _ _ (by simp) [.pointer (some ⟨y.A,0,none⟩)] _) (by intro u hu;simp only[mem_singleton]at hu;subst hu;rfl) (by omega) (by omega) (by simp;omega) ?_)
         intro g7 cap7 w7 gp cX eO;have tA:=jI cX (by simpa using eO);have R7:=(uh abE).app (x:=⟨y.A,bJ y.f,av5,ov5⟩) (g1:=g7) (c1:=cap7) (uh HF6) (uh HSd) (by rw[length_append,map_append,append_assoc];exact gp) cX (by simpa using eO);have hP7:=(uh HP6).stp tA (λq hq hn=>(uh C8 q hq).1.1 (mem_append_left _ hn));have hD7:∀q∈kU (.slice (some ⟨g2,0,none⟩) L2.length c2) L2 (j+1),q ∉ a6 (.slice (some ⟨g7,0,none⟩) (L.length+Ea.length+1) cap7) (L++(Ea++[⟨y.A,bJ y.f,av5,ov5⟩])):=λq hq hn=>by
          rcases mem_append.1 hn with p|p
          .have e:q=g7:=(by simpa[Value.ownBlock,eq_comm] using p);subst e;rcases eO with e|e
           .exact(uh C8 q hq).1.1 (mem_append_left _ (by rw[<-e];simp))
           .have:=(uh HP6).lt q hq;omega
          .rw[<-append_assoc,flatMap_append,mem_append]at p;rcases p with p|p
           .exact(uh C8 q hq).1.1 (mem_append_right _ p)
           .simp only[flatMap_cons,flatMap_nil,append_nil]at p;exact(uh C8 q hq).2 p
         rw[append_assoc,length_append]at R7;have Da:=ab (xE R7.bs);have abF:=ab R7;have HP7:=ab hP7;have HD7:=ab hD7;clear gp cX eO tA R7 hP7 hD7 QL abE HP6;go_wp2_with fail
         refine(uh Da).mono ?_;rintro e w8 ⟨rfl,MR,Gt⟩;have X0:=(uh abF).spend MR Gt;have hP8:=(uh HP7).stp Gt (λq hq hn=>(uh C8 q hq).1.2.1 (by simpa using hn));have hTE:∀q∈Ea++[(⟨y.A,bJ y.f,av5,ov5⟩:FE)],Td q.f:=λq hq=>by
          rcases mem_append.1 hq with h|h
          .exact(uh HJ).2.1 q h
          .rw[mem_singleton]at h;subst h;exact(uh HYO).tidy
         obtain⟨sb,zZ⟩:∃sb,sb=re c { sa with ok:=sa.ok&&decide (((L++Ea).map (·.f)).length<=fN) }:=⟨_,rfl⟩;have Bv:sb.lf=wrap64 (sa.lf-1):=(by rw[zZ];rfl);have hsf:sb.fu=(sa.fu||(decide (wrap64 (sa.lf-1)<0)&&c.bd)):=(by rw[zZ];rfl);rw[<-hsf,<-Bv]at X0;have M0:((gt xf k i).drop (j+1)).foldl (mD c) ((L++(Ea++[(⟨y.A,bJ y.f,av5,ov5⟩:FE)])).map (·.f),sb)=R1:=by
          have:=uh KD;rw[uh HGG,<-zZ]at this;rw[<-append_assoc,map_append];exact this
         have HN:=ab (zq2 X0 (zq2 hTE (zq2 hP8 (zq2 (λq hq=>zq2 (uh HD7 q hq) (uh C8 q hq).1.2) (zq2 M0 (uh HJ).2.2.2.2.2)))));clear MR Gt X0 hP8 hTE zZ Bv hsf M0 Da abF HP7 HD7 HJ;go_wp2_with fail
         go_roundg (G2-1)
         case rel=>exact⟨j+1,Ea++[⟨y.A,bJ y.f,av5,ov5⟩],sb,by omega,by go_num,HN⟩
         case measure=>omega
       .have gx:decide ((j:Int)<(L2.length:Int))=false:=(by simp;omega);have qp:(gt xf k i).length<=j:=(by rw[<-uh Ah,length_map];omega);have Jl:((L++Ea).map (·.f),sa)=R1:=by
         have:=(uh hJ).2.2.2.2.1;rw[drop_eq_nil_of_le qp]at this;exact this
        have HN:Hid (Fn w wr B (S::a6 (.slice va L.length vc) L) S (nH c0 hv lp kv wv c.bd sa.lf lo sa.fu) X xf (.slice lb (L++Ea).length ld) (L++Ea)/\(∀y∈Ea,Td y.f)/\(List.range' (k+1) (24-(k+1))).foldl (nS c xf i) ((L++Ea).map (·.f),sa)=R/\w.heap.size<=X):=ab ⟨(uh hJ).1,(uh hJ).2.1,by rw[Jl];exact uh Fh,(uh hJ).2.2.2.2.2⟩;rw[length_append]at HN ⊢;clear qp Jl hJ;go_wp2_with fail
        go_roundg (G-1)
        case rel=>exact⟨k+1,Ea,sa,by omega,by go_num,HN⟩
        case measure=>omega
   .rw[show decide (k∈mL xf)=false by simpa using hm]at d1 C6;have HN:=ab (uh U5 (by rw[uh C6];simp));clear hm U5 hI;go_wp2_with fail
    go_roundg (G-1)
    case rel=>exact⟨k+1,E,s',by omega,by go_num,uh HN⟩
    case measure=>omega
  .have hd:decide ((k:Int)<(24:Int))=false:=(by simp;omega);have iz:R=((L++E).map (·.f),s'):=by
    have:=(uh hI).2.2.1;rw[show 24-k=0 by omega]at this;exact this.symm
   have UW:=ab iz;clear iz;go_wp2_with fail
   go_ret;refine⟨_,E,rfl,(uh hI).1.fl,(uh hI).2.1,by rw[uh UW],?_,λhn=>((uh hI).1.ns S hn).1 rfl,(uh hI).1.st⟩;rw[uh UW];exact(uh hI).1.bs
end
