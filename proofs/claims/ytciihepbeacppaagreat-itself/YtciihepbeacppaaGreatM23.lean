import Derived.Test.YtciihepbeacppaaGreatM22
set_option maxRecDepth 100000
set_option maxHeartbeats 0
namespace Go.Proofs.YtciihepbeacppaaGreat
open Tryz Go.RowKit List World Below
set_option linter.unusedVariables false
theorem aak{f g:CF}{a i:Nat}(h:g∈gP f a i):g.ap.length=f.ap.length:=by
 unfold gP at h;rcases mem_append.1 h with h|h
 .split at h
  .simp at h
  .rw[mem_singleton]at h;subst h;show(f.ap.map _).length=_;rw[length_map]
 .split at h
  .rw[mem_singleton]at h;subst h;rfl
  .simp at h
section
variable {w:World} {B S:Nat} {v:Value} {L:List FE} {c0 hv kv wv:Value} {lp:Bool} {lo:Int} {x:FE} {c:Cd} {s:Sr}
theorem Jw(hS:Bk w S 229 (oW c0 hv lp kv wv c.bd s.lf lo s.fu))(hL:Fl w B v L)(hT:∀y∈L,Td y.f)(hx:x∈L)(hSL:S ∉ a9 v L)(hB:B<=w.heap.size){i:Nat}(hi:i<x.f.ow.length)(bf:(fI c x.f (L.map (·.f),s) i).2.ok=true):
  Calls prog 234 #[.pointer (some ⟨S,0,none⟩),v,.pointer (some ⟨x.A,0,none⟩),.int .i64 i] w λe w'=>∃v' L',e=.returned v'/\Fl w' B v' (L++L')/\(∀y∈L',Td y.f)/\(L++L').map (·.f)=(fI c x.f (L.map (·.f),s) i).1/\Bk w' S 229 (oW c0 hv lp kv wv c.bd (fI c x.f (L.map (·.f),s) i).2.lf lo (fI c x.f (L.map (·.f),s) i).2.fu)/\S ∉ a9 v' (L++L')/\ar (S::a9 v L) w (S::a9 v' (L++L')) w':=by
 obtain⟨i0,iL,eo,ep,eK⟩:=info_parts infoPF;obtain⟨R,hR⟩:∃R,R=fI c x.f (L.map (·.f),s) i:=⟨_,rfl⟩;rw[<-hR]at bf ⊢;have hxF:=hL.fm x hx;have hxT:=hT x hx;have gl:=hxT.ok.owLen;have C6:=ab (mj hxF.is hxT.ok);obtain⟨va,vc,dX,-,-⟩:=aj hL.row;subst dX;have HL:=ab hL;have HS:=ab hS;have HX:=ab hx;have HXT:=ab hxT;have HT:=ab hT;have HSL:=ab hSL;have kW:=ab bf;have HRR:=ab hR;have HXP:Hid (∀(W:World) (vv:Value) (E:List FE),Fl W B vv (L++E)->Fm W x.A x.f x.av x.ov):=ab (λW vv E hf=>hf.fm x (mem_append_left _ hx));obtain⟨xa,xf,xav,xov⟩:=x;simp only at hi C6 HXT HXP gl hR HRR ⊢;clear hL hS hx hxF hxT hT hSL bf hR;go_enter func234,ntmps234;go_wp2_with fail
 refine(uh C6).mono ?_;rintro e w1 ⟨rfl,a7⟩;obtain⟨M,hM,dJ,rZ,bP,t0,Ay,bS⟩:=OK w1 xf;rw[<-hM];have sy:=ab rZ;have dc:=ab bP;have DD:=ab t0;obtain⟨X,fS⟩:∃X,X=w1.heap.size:=⟨_,rfl⟩;obtain⟨W2,ey⟩:∃W2,W2=(w1.alloc (.cells (cS (replicate 24 false)).toArray 240)).setCells w1.heap.size 0 M:=⟨_,rfl⟩;rw[<-ey]at Ay bS;rw[<-fS]at Ay;have aL:=a7.trans (bS.mono a7.size);have hFn:Fn w W2 B (S::a9 (.slice va L.length vc) L) S (oW c0 hv lp kv wv c.bd s.lf lo s.fu) X xf (.slice va L.length vc) (L++[]):=by
  rw[append_nil];have h1:=uh HL;have h2:=uh HS;refine⟨h1.below aL,h2.below aL,Ay,λk hk=>⟨λe=>uh HSL (by rw[<-e];exact hk),λe=>?_⟩,λe=>?_,(ar.ofBw aL),by simp,zq3 hB aL.size⟩
  .have:=h1.lt k hk;have:=a7.size;omega
  .have:=h2.lt;have:=a7.size;omega
 have bX:Hid (Fn w W2 B (S::a9 (.slice va L.length vc) L) S (oW c0 hv lp kv wv c.bd s.lf lo s.fu) X xf (.slice va L.length vc) (L++[])/\w.heap.size<=X):=ab ⟨hFn,by rw[fS];exact a7.size⟩;clear rZ bP t0 Ay bS a7 aL hM C6 hFn;simp only[cS,replicate,map_cons,map_nil]at ey;go_upto_region 2 with(refine wpList_store_mid rfl 240 (.tmp 9) (.tmp 14) rfl _ 0 M.toArray rfl rfl (uh sy) (uh dc) (uh DD) ?_);rw[<-ey,<-fS];clear ey fS sy dc DD dJ;go_wp2_with fail
 go_loopg [1,10] 24 (λgn cv iv wx=>∃(k:Nat) (E:List FE) (s':Sr),k+gn=24/\iv=.int .i64 k/\Hid (Fn w wx B (S::a9 (.slice va L.length vc) L) S (oW c0 hv lp kv wv c.bd s'.lf lo s'.fu) X xf cv (L++E)/\(∀y∈E,Td y.f)/\(List.range' k (24-k)).foldl (pm c xf i) ((L++E).map (·.f),s')=R/\w.heap.size<=X))
 case atStart=>exact⟨0,[],s,by omega,rfl,ab ⟨(uh bX).1,λy hy=>by simp at hy,by rw[append_nil,uh HRR];unfold fI;rw[range_eq_range'],(uh bX).2⟩⟩
 case round =>
  clear bX;obtain⟨k,E,s',eV,rfl,hI⟩:=hrel;obtain⟨G,hG⟩:∃G,G=gk:=⟨_,rfl⟩;obtain⟨la,lc,dX,-,-⟩:=aj (uh hI).1.fl.row;subst dX;by_cases aq:k<24
  .have hd:decide ((k:Int)<(24:Int))=true:=(by simp;omega);have J1:List.range' k (24-k)=k::List.range' (k+1) (24-(k+1)):=(by rw[show 24-k=(24-(k+1))+1 by omega,range'_succ]);have fs:=(uh hI).2.2.1;rw[J1,foldl_cons]at fs;have hF:=(uh HXP wr _ E (uh hI).1.fl);have d1:=(ownsRow.cellAt (uh hI).1.xb k (by omega)).trans (eH (by rw[zK];exact aq));rw[zJ xf aq]at d1;have x0:=hF.is.cls (i:=0) (by omega);unfold fH at x0;obtain⟨n0,oq⟩:∃n0,n0=xf.cl.getD 0 0:=⟨_,rfl⟩;rw[<-oq]at x0;have Wr:fnA xf k=(decide (k∈oJ xf)&&!decide (k=n0)&&!(cR xf.ow k).isSome):=(by rw[oq];rfl);have kV:=ab (bU k hF.is);have i1:(0:Int)<=(k:Int):=(by omega);have i2:(k:Int)<(24:Int):=(by omega);have hsk:fnA xf k=false->(List.range' (k+1) (24-(k+1))).foldl (pm c xf i) ((L++E).map (·.f),s')=R:=λe=>by
    have e2:pm c xf i ((L++E).map (·.f),s') k=((L++E).map (·.f),s'):=(by unfold pm;rw[if_neg (by rw[e];decide)]);rw[e2]at fs;exact fs
   have VI:Hid (fnA xf k=false->Hid (Fn w wr B (S::a9 (.slice va L.length vc) L) S (oW c0 hv lp kv wv c.bd s'.lf lo s'.fu) X xf (.slice la (L++E).length lc) (L++E)/\(∀y∈E,Td y.f)/\(List.range' (k+1) (24-(k+1))).foldl (pm c xf i) ((L++E).map (·.f),s')=R/\w.heap.size<=X)):=ab (λe=>ab ⟨(uh hI).1,(uh hI).2.1,hsk e,(uh hI).2.2.2⟩);have FD:=ab fs;have DB:=ab Wr;clear J1 fs hF oq Wr hsk;rw[length_append]at VI ⊢;by_cases hm:k∈oJ xf
   .rw[show decide (k∈oJ xf)=true by simpa using hm]at d1 DB;by_cases hc:k=n0
    .have d2:((k:Int)==(n0:Int))=true:=(by simp[hc]);have HN:=ab (uh VI (by rw[uh DB];simp[hc]));clear hm hc VI hI;go_wp2_with fail
     go_roundg (G-1)
     case rel=>exact⟨k+1,E,s',by omega,by go_num,uh HN⟩
     case measure=>omega
    .have d2:((k:Int)==(n0:Int))=false:=(by simp;omega);have hg:=rd (cR xf.ow k);cases hb:cR xf.ow k with
     |some b0 =>
      rw[hb]at hg kV;have HN:=ab (uh VI (by rw[uh DB,hb];simp));clear hm hc VI hI hb;go_wp2_with fail
      refine(uh kV).mono ?_;rintro e w3 ⟨rfl,rfl⟩;go_wp2_with fail
      go_roundg (G-1)
      case rel=>exact⟨k+1,E,s',by omega,by go_num,uh HN⟩
      case measure=>omega
     |none =>
      rw[hb]at hg kV;have hA:fnA xf k=true:=(by rw[uh DB,hb];simp[hc]);have hF:=(uh HXP wr _ E (uh hI).1.fl);have Af:=ab (EO hF.is (uh HXT).ok (zq3 (uh HXT).ln (by omega)) aq hi);have HMO:=ab (Hs (i:=i) (uh HXT).ok aq hb);have ou:pm c xf i ((L++E).map (·.f),s') k=(gP xf k i).foldl (ny c) ((L++E).map (·.f),s'):=(by unfold pm;rw[if_pos hA]);rw[ou]at FD;obtain⟨R1,xx⟩:∃R1,R1=(gP xf k i).foldl (ny c) ((L++E).map (·.f),s'):=⟨_,rfl⟩;rw[<-xx]at FD;have XK:=ab xx;have XH:Hid (R1.2.ok=true):=ab (by
       refine eS (pm c xf i) (λr b h=>tW r b h) (List.range' (k+1) (24-(k+1))) ?_;rw[uh FD];exact uh kW)
      have We:=pM xf k i;have HI:=ab (uh hI);clear hm hc VI hI hb hA hF ou xx;go_wp2_with fail
      refine(uh kV).mono ?_;rintro e w3 ⟨rfl,rfl⟩;go_wp2_with fail
      refine(uh Af).mono ?_;rintro e w4 ⟨v2,L2,rfl,BV,sR,mA⟩;have aep:=(uh HI).1.below mA;have hP4:=BV.pend;have Wq:∀y∈lU v2 L2 0,y ∉ a9 (.slice la (L++E).length lc) (L++E)/\y≠S/\y≠X/\w.heap.size<=y/\B<=y:=λy hy=>by
       have h1:=hP4.geB y hy;exact⟨λhn=>by have h2:=(uh HI).1.fl.lt y hn;omega,λe=>by have h2:=(uh HI).1.bs.lt;omega,λe=>by have h2:=(uh HI).1.xl;omega,zq3 (uh HI).1.st.size h1,zq3 (uh HI).1.bb h1⟩
      obtain⟨B2,Ei⟩:∃B2,B2=w3.heap.size:=⟨_,rfl⟩;rw[<-Ei]at hP4;obtain⟨a2,c2,GS,-,-⟩:=aj hP4.row;subst GS;have DC:=ab sR;have aex:L2.length<=2:=(by have:=congrArg List.length sR;rw[length_map]at this;omega);have mV:Hid (Fn w w4 B (S::a9 (.slice va L.length vc) L) S (oW c0 hv lp kv wv c.bd s'.lf lo s'.fu) X xf (.slice la (L.length+E.length) lc) (L++E)/\(∀y∈E,Td y.f)/\fh w4 B2 (.slice a2 L2.length c2) L2 0/\(∀y∈lU (.slice a2 L2.length c2) L2 0,y ∉ a9 (.slice la (L.length+E.length) lc) (L++E)/\y≠S/\y≠X/\w.heap.size<=y/\B<=y)/\((gP xf k i).drop 0).foldl (ny c) ((L++E).map (·.f),s')=R1/\w.heap.size<=X):=ab (by
       rw[<-length_append];exact⟨aep,(uh HI).2.1,hP4,Wq,(uh XK).symm,(uh HI).2.2.2⟩)
      clear BV sR mA aep hP4 Wq Af HI Ei We d1 x0;go_wp2_with fail
      go_loopg [1,43] L2.length (λgn cv iv wx=>∃(j:Nat) (Ea:List FE) (sa:Sr),j+gn=L2.length/\iv=.int .i64 j/\Hid (Fn w wx B (S::a9 (.slice va L.length vc) L) S (oW c0 hv lp kv wv c.bd sa.lf lo sa.fu) X xf cv (L++Ea)/\(∀y∈Ea,Td y.f)/\fh wx B2 (.slice a2 L2.length c2) L2 j/\(∀y∈lU (.slice a2 L2.length c2) L2 j,y ∉ a9 cv (L++Ea)/\y≠S/\y≠X/\w.heap.size<=y/\B<=y)/\((gP xf k i).drop j).foldl (ny c) ((L++Ea).map (·.f),sa)=R1/\w.heap.size<=X))
      case atStart=>exact⟨0,E,s',by omega,rfl,mV⟩
      case round =>
       clear mV;obtain⟨j,Ea,sa,xD,rfl,hJ⟩:=hrel;obtain⟨G2,BF⟩:∃G2,G2=gk:=⟨_,rfl⟩;obtain⟨lb,ld,dX,-,-⟩:=aj (uh hJ).1.fl.row;subst dX;by_cases eu:j<L2.length
       .have jb:decide ((j:Int)<(L2.length:Int))=true:=(by simp;omega);obtain⟨g2,cap2,cZ,aw⟩:=(uh hJ).2.2.1.cell eu;simp only[Value.slice.injEq,true_and]at cZ;obtain⟨rfl,rfl⟩:=cZ;obtain⟨hy,-,Nr,Np,Nq⟩:=(uh hJ).2.2.1.next eu;have rG:j<(gP xf k i).length:=(by rw[<-uh DC,length_map];exact eu);have Zl:L2[j].f=(gP xf k i)[j]:=by
         have:=congrArg (λl=>l[j]?) (uh DC);simp only[getElem?_map,getElem?_eq_getElem eu,getElem?_eq_getElem rG,Option.map_some,Option.some.injEq]at this;exact this
        have fx:L2[j].f∈gP xf k i:=(by rw[Zl];exact getElem_mem rG);have hyO:=uh HMO _ fx;have hya:=aak fx;have jm:(gP xf k i).drop j=L2[j].f::(gP xf k i).drop (j+1):=(by rw[Zl];exact drop_eq_getElem_cons rG);have fs:=(uh hJ).2.2.2.2.1;rw[jm,foldl_cons]at fs;have hokG:(ny c ((L++Ea).map (·.f),sa) L2[j].f).2.ok=true:=eS (ny c) (λr b h=>(lT h).1) ((gP xf k i).drop (j+1)) (by rw[fs];exact uh XH);have N8:=(lT hokG).2;obtain⟨y,hye⟩:∃y,y=L2[j]:=⟨_,rfl⟩;rw[<-hye]at aw hy Np Nq hyO hya fs N8;have hdy:∀q∈y.bs,q ∉ a9 (.slice lb (L++Ea).length ld) (L++Ea)/\q≠S/\q≠X/\w.heap.size<=q/\B<=q:=λq hq=>(uh hJ).2.2.2.1 q (Nq q hq);have FK:=ab (kh hy hyO (by rw[hya];exact zq3 (uh HXT).ln (by omega)));have GW:y.p=.pointer (some ⟨y.A,0,none⟩):=rfl;rw[GW]at aw;have HFo:=ab fs;have HMo:=ab N8;have HPn:=ab Nr;have HPd:=ab Np;have HDy:=ab hdy;have HYO:=ab hyO;have HJ:=ab (uh hJ);have k1:(0:Int)<=(j:Int):=(by omega);have k2:(j:Int)<(L2.length:Int):=(by omega);clear hy Nr Np Nq rG Zl fx hyO hya jm fs hokG N8 hdy GW hye hJ;rw[length_append]at HDy HJ ⊢;go_wp2_with fail
        refine(uh FK).mono ?_;rintro e w5 ⟨rfl,av5,ov5,BE,eT⟩;have WL:∀q∈aD y.A av5 ov5,q ∉ a9 (.slice lb (L.length+Ea.length) ld) (L++Ea)/\q≠S/\q≠X/\w.heap.size<=q/\B<=q:=λq hq=>by
         rcases eT.foot q hq with p|p
         .exact uh HDy q p
         .exact⟨λhn=>by have h2:=(uh HJ).1.fl.lt q hn;omega,λe=>by have h2:=(uh HJ).1.bs.lt;omega,λe=>by have h2:=(uh HJ).1.xl;omega,zq3 (uh HJ).1.st.size p,zq3 (uh HJ).1.bb p⟩
        have YI:=(uh HJ).1.side eT (λq hq=>⟨(uh HDy q hq).1,(uh HDy q hq).2.1,(uh HDy q hq).2.2.1,(uh HDy q hq).2.2.2.1⟩);have hP5:=(uh HPn).stp eT (λq hq hn=>(uh HPd q hq).2 hn);have Wh:∀q∈L++Ea,Td q.f:=λq hq=>by
         rcases mem_append.1 hq with h|h
         .exact uh HT q h
         .exact(uh HJ).2.1 q h
        have HIN:=ab (J8 BE.is (uh HYO).tidy YI.fl Wh);have aeL:∀q∈lU (.slice (some ⟨g2,0,none⟩) L2.length c2) L2 (j+1),(q ∉ a9 (.slice lb (L.length+Ea.length) ld) (L++Ea)/\q≠S/\q≠X/\w.heap.size<=q/\B<=q)/\q ∉ aD y.A av5 ov5:=λq hq=>⟨(uh HJ).2.2.2.1 q (uh HPd q hq).1,λhn=>by
         rcases eT.foot q hn with p|p
         .exact(uh HPd q hq).2 p
         .have:=(uh HPn).lt q hq;omega⟩
        have Vt:=ab BE;have ac6:=ab YI;have HP5:=ab hP5;have HSd:=ab WL;have DE:=ab aeL;clear BE eT WL YI hP5 Wh aeL FK aw;go_wp2_with fail
        refine(uh HIN).mono ?_;rintro e w6 ⟨rfl,ib⟩;have JB:=(uh ac6).below ib;have HP6:=ab ((uh HP5).below ib);have HF6:=ab ((uh Vt).below ib);clear HIN ac6 HP5 Vt;cases aJ:neB ((L++Ea).map (·.f)) (bz y.f)
        .have Ts:ny c ((L++Ea).map (·.f),sa) y.f=((L++Ea).map (·.f),sa):=(by unfold ny;rw[if_neg (by rw[aJ];decide)]);have HN:Hid (Fn w w6 B (S::a9 (.slice va L.length vc) L) S (oW c0 hv lp kv wv c.bd sa.lf lo sa.fu) X xf (.slice lb (L.length+Ea.length) ld) (L++Ea)/\(∀y∈Ea,Td y.f)/\fh w6 B2 (.slice (some ⟨g2,0,none⟩) L2.length c2) L2 (j+1)/\(∀y∈lU (.slice (some ⟨g2,0,none⟩) L2.length c2) L2 (j+1),y ∉ a9 (.slice lb (L.length+Ea.length) ld) (L++Ea)/\y≠S/\y≠X/\w.heap.size<=y/\B<=y)/\((gP xf k i).drop (j+1)).foldl (ny c) ((L++Ea).map (·.f),sa)=R1/\w.heap.size<=X):=ab ⟨JB,(uh HJ).2.1,uh HP6,λq hq=>(uh DE q hq).1,by have:=uh HFo;rw[Ts]at this;exact this,(uh HJ).2.2.2.2.2⟩;clear Ts aJ JB ib HJ;go_wp2_with fail
         go_roundg (G2-1)
         case rel=>exact⟨j+1,Ea,sa,by omega,by go_num,HN⟩
         case measure=>omega
        .have Ts:ny c ((L++Ea).map (·.f),sa) y.f=((L++Ea).map (·.f)++[bz y.f],pV c { sa with ok:=sa.ok&&decide (((L++Ea).map (·.f)).length<=gh) }):=(by unfold ny;rw[if_pos aJ]);have cN:L.length+Ea.length<=900000:=by
          have:=uh HMo aJ;rw[length_map,length_append]at this;unfold gh at this;exact this
         have RG:Hid (w6.ownsRow B 126 1 (.slice lb (L.length+Ea.length) ld) (L.length+Ea.length) ((L++Ea).map FE.p)):=ab (by have:=JB.fl.row;rwa [length_append]at this);have ac7:=ab JB;have aqM:=JB.bb;have HGG:=ab Ts;clear Ts aJ JB ib;go_wp2_with (at_builtin;refine aH _ rfl (.tmp 52) (.tmp 54) 125 rfl B 126 i0 _ 1 8 underlying125 iL eo ep eK rfl (by decide) _ (L.length+Ea.length) ((L++Ea).map FE.p) rfl ((uh RG).alloc _) ⟨_,0,none⟩ 1 [.pointer (some ⟨y.A,0,none⟩)] rfl rfl (aP _ _ (by simp) [.pointer (some ⟨y.A,0,none⟩)] _) (by intro u hu;simp only[mem_singleton]at hu;subst hu;rfl) (by omega) (by omega) (by simp;omega) ?_)
         intro g7 cap7 w7 gN di eU;have xG:=kf di (by simpa using eU);have Tb:=(uh ac7).app (x:=⟨y.A,bz y.f,av5,ov5⟩) (g1:=g7) (c1:=cap7) (uh HF6) (uh HSd) (by rw[length_append,map_append,append_assoc];exact gN) di (by simpa using eU);have hP7:=(uh HP6).stp xG (λq hq hn=>(uh DE q hq).1.1 (mem_append_left _ hn));have hD7:∀q∈lU (.slice (some ⟨g2,0,none⟩) L2.length c2) L2 (j+1),q ∉ a9 (.slice (some ⟨g7,0,none⟩) (L.length+Ea.length+1) cap7) (L++(Ea++[⟨y.A,bz y.f,av5,ov5⟩])):=λq hq hn=>by
          rcases mem_append.1 hn with p|p
          .have e:q=g7:=(by simpa[Value.ownBlock,eq_comm] using p);subst e;rcases eU with e|e
           .exact(uh DE q hq).1.1 (mem_append_left _ (by rw[<-e];simp))
           .have:=(uh HP6).lt q hq;omega
          .rw[<-append_assoc,flatMap_append,mem_append]at p;rcases p with p|p
           .exact(uh DE q hq).1.1 (mem_append_right _ p)
           .simp only[flatMap_cons,flatMap_nil,append_nil]at p;exact(uh DE q hq).2 p
         rw[append_assoc,length_append]at Tb;have KJ:=ab (yc Tb.bs);have ac8:=ab Tb;have HP7:=ab hP7;have HD7:=ab hD7;clear gN di eU xG Tb hP7 hD7 RG ac7 HP6;go_wp2_with fail
         refine(uh KJ).mono ?_;rintro e w8 ⟨rfl,NB,GR⟩;have YJ:=(uh ac8).spend NB GR;have hP8:=(uh HP7).stp GR (λq hq hn=>(uh DE q hq).1.2.1 (by simpa using hn));have hTE:∀q∈Ea++[(⟨y.A,bz y.f,av5,ov5⟩:FE)],Td q.f:=λq hq=>by
          rcases mem_append.1 hq with h|h
          .exact(uh HJ).2.1 q h
          .rw[mem_singleton]at h;subst h;exact(uh HYO).tidy
         obtain⟨sb,AG⟩:∃sb,sb=pV c { sa with ok:=sa.ok&&decide (((L++Ea).map (·.f)).length<=gh) }:=⟨_,rfl⟩;have Ot:sb.lf=wrap64 (sa.lf-1):=(by rw[AG];rfl);have hsf:sb.fu=(sa.fu||(decide (wrap64 (sa.lf-1)<0)&&c.bd)):=(by rw[AG];rfl);rw[<-hsf,<-Ot]at YJ;have NK:((gP xf k i).drop (j+1)).foldl (ny c) ((L++(Ea++[(⟨y.A,bz y.f,av5,ov5⟩:FE)])).map (·.f),sb)=R1:=by
          have:=uh HFo;rw[uh HGG,<-AG]at this;rw[<-append_assoc,map_append];exact this
         have HN:=ab (zq2 YJ (zq2 hTE (zq2 hP8 (zq2 (λq hq=>zq2 (uh HD7 q hq) (uh DE q hq).1.2) (zq2 NK (uh HJ).2.2.2.2.2)))));clear NB GR YJ hP8 hTE AG Ot hsf NK KJ ac8 HP7 HD7 HJ;go_wp2_with fail
         go_roundg (G2-1)
         case rel=>exact⟨j+1,Ea++[⟨y.A,bz y.f,av5,ov5⟩],sb,by omega,by go_num,HN⟩
         case measure=>omega
       .have jb:decide ((j:Int)<(L2.length:Int))=false:=(by simp;omega);have rG:(gP xf k i).length<=j:=(by rw[<-uh DC,length_map];omega);have AF:((L++Ea).map (·.f),sa)=R1:=by
         have:=(uh hJ).2.2.2.2.1;rw[drop_eq_nil_of_le rG]at this;exact this
        have HN:Hid (Fn w wr B (S::a9 (.slice va L.length vc) L) S (oW c0 hv lp kv wv c.bd sa.lf lo sa.fu) X xf (.slice lb (L++Ea).length ld) (L++Ea)/\(∀y∈Ea,Td y.f)/\(List.range' (k+1) (24-(k+1))).foldl (pm c xf i) ((L++Ea).map (·.f),sa)=R/\w.heap.size<=X):=ab ⟨(uh hJ).1,(uh hJ).2.1,by rw[AF];exact uh FD,(uh hJ).2.2.2.2.2⟩;rw[length_append]at HN ⊢;clear rG AF hJ;go_wp2_with fail
        go_roundg (G-1)
        case rel=>exact⟨k+1,Ea,sa,by omega,by go_num,HN⟩
        case measure=>omega
   .rw[show decide (k∈oJ xf)=false by simpa using hm]at d1 DB;have HN:=ab (uh VI (by rw[uh DB];simp));clear hm VI hI;go_wp2_with fail
    go_roundg (G-1)
    case rel=>exact⟨k+1,E,s',by omega,by go_num,uh HN⟩
    case measure=>omega
  .have hd:decide ((k:Int)<(24:Int))=false:=(by simp;omega);have gB:R=((L++E).map (·.f),s'):=by
    have:=(uh hI).2.2.1;rw[show 24-k=0 by omega]at this;exact this.symm
   have Vv:=ab gB;clear gB;go_wp2_with fail
   go_ret;refine⟨_,E,rfl,(uh hI).1.fl,(uh hI).2.1,by rw[uh Vv],?_,λhn=>((uh hI).1.ns S hn).1 rfl,(uh hI).1.st⟩;rw[uh Vv];exact(uh hI).1.bs
end
theorem SK{c:Cd}{r:List CF × Sr}{g:CF}(h:(ny c r g).2.ok=true)(hl:r.1.length<=gh+1):(ny c r g).1.length<=gh+1:=by
 have h2:=(lT h).2;unfold ny;split
 .rename_i hn;have:=h2 hn;simp only[length_append,length_cons,length_nil];omega
 .exact hl
theorem tY{β:Type}(g:List CF × Sr->β->List CF × Sr)(hm:∀r b,(g r b).2.ok=true->r.2.ok=true)(hg:∀r b,(g r b).2.ok=true->r.1.length<=gh+1->(g r b).1.length<=gh+1):∀(l:List β) {r:List CF × Sr},(l.foldl g r).2.ok=true->r.1.length<=gh+1->(l.foldl g r).1.length<=gh+1
 |[],_,_,hl=>hl
 |b::l,r,h,hl=>tY g hm hg l h (hg r b (eS g hm l h) hl)
theorem xo{c:Cd}{f:CF}(r:List CF × Sr)(i:Nat)(h:(fI c f r i).2.ok=true):r.2.ok=true:=eS (pm c f i) (λr b h=>tW r b h) _ h
theorem SL{c:Cd}{f:CF}{i:Nat}(r:List CF × Sr)(a:Nat)(h:(pm c f i r a).2.ok=true)(hl:r.1.length<=gh+1):(pm c f i r a).1.length<=gh+1:=by
 unfold pm at h ⊢;split
 .rename_i hn;rw[if_pos hn]at h;exact tY (ny c) (λr b h=>(lT h).1) (λr b h=>SK h) _ h hl
 .exact hl
theorem MW{c:Cd}{f:CF}(r:List CF × Sr)(i:Nat)(h:(fI c f r i).2.ok=true)(hl:r.1.length<=gh+1):(fI c f r i).1.length<=gh+1 :=
 tY (pm c f i) (λr b h=>tW r b h) (λr b h=>SL r b h) _ h hl
theorem MR{c:Cd}{g:CF}{r:List CF × Sr}{res:List CF}(h:(vW c g r res).2.2.ok=true):r.2.ok=true:=by
 unfold vW at h;split at h
 .exact h
 .exact eS (fI c g) (λr b h=>xo r b h) _ h
theorem tT{c:Cd}:∀(n k:Nat) (res:List CF) (r:List CF × Sr),(iF c n k res r).2.ok=true->r.2.ok=true
 |0,_,_,_,h=>by simp[iF]at h
 |n+1,k,res,r,h=>by
  unfold iF at h;split at h
  .exact MR (tT n _ _ _ h)
  .exact h
theorem ar.wider{F F' G G':List Nat}{a b:World}(h:ar F a F' b)(h1:∀k∈F,k∈G)(h2:∀k∈G',k∈F'\/k∈G\/a.heap.size<=k):ar G a G' b :=
 ⟨h.os,h.tape,h.output,h.size,λk hk hn=>h.block k hk (λe=>hn (h1 k e)),λk hk=>by
  rcases h2 k hk with p|p|p
  .rcases h.foot k p with q|q
   .exact zq0 (h1 k q)
   .exact zq1 q
  .exact zq0 p
  .exact zq1 p⟩
structure Fg(w W:World)(B:Nat)(F0:List Nat)(S:Nat)(cs:List Value)(k:Nat)(vC:Value)(LC:List FE)(vR:Value)(LR:List FE):Prop where
 c:Fl W B vC LC
 r:Fl W B vR LR
 bs:Bk W S 229 cs
 sh:∀x∈LR,x∈LC.take k\/∀q∈x.bs,q ∉ a9 vC LC
 rv:∀q∈vR.ownBlock.toList,q ∉ a9 vC LC
 cv:∀q∈vC.ownBlock.toList,q ∉ a9 vR LR
 sc:S ∉ a9 vC LC
 sr:S ∉ a9 vR LR
 st:ar F0 w (S::(a9 vC LC++a9 vR LR)) W
 bb:B<=W.heap.size
theorem D9{v:Value}{L:List FE}(h:(a9 v L).Nodup):(∀q∈v.ownBlock.toList,∀x∈L,q ∉ x.bs)/\∀{k:Nat} (hk:k<L.length),∀x∈L.take k,∀q∈x.bs,q ∉ L[k].bs:=by
 unfold a9 at h;rw[nodup_append]at h;refine⟨λq hq x hx hn=>h.2.2 q hq q (mem_flatMap.2 ⟨x,hx,hn⟩) rfl,fun {k} hk x hx q hq hn=>?_⟩;have h2:=h.2.1;rw[<-take_append_drop k L,flatMap_append,nodup_append]at h2;exact h2.2.2 q (mem_flatMap.2 ⟨x,hx,hq⟩) q (mem_flatMap.2 ⟨L[k],by rw[drop_eq_getElem_cons hk];exact mem_cons_self,hn⟩) rfl
section
variable {w W W':World} {B S k:Nat} {F0:List Nat} {cs cs':List Value} {vC vR:Value} {LC LR:List FE}
theorem Fg.below(h:Fg w W B F0 S cs k vC LC vR LR)(hb:Below W.heap.size W W'):Fg w W' B F0 S cs k vC LC vR LR :=
 ⟨h.c.below hb,h.r.below hb,h.bs.below hb,h.sh,h.rv,h.cv,h.sc,h.sr,h.st.trans (ar.ofBw hb),zq3 h.bb hb.size⟩
theorem Fg.app {g1 c1 k':Nat} {o:Obj} {x:FE} {W1:World} (h:Fg w W B F0 S cs k vC LC vR LR) (hk:k<=k') (hx:Fm W x.A x.f x.av x.ov) (hB:∀q∈x.bs,B<=q) (hd:∀q∈x.bs,q ∉ a9 vR LR/\q≠S/\q ∉ vC.ownBlock.toList) (hs:x∈LC.take k'\/∀q∈x.bs,q ∉ a9 vC LC) (h0:∀q∈x.bs,q∈a9 vC LC\/w.heap.size<=q)
  (aN:W1.ownsRow B 126 1 (.slice (some ⟨g1,0,none⟩) (LR.length+1) c1) (LR.length+1) (LR.map FE.p++[x.p])) (hg:(W.alloc o).grownBy W1 vR.ownBlock) (cd:some g1=vR.ownBlock\/g1=(W.alloc o).heap.size) :
  Fg w W1 B F0 S cs k' vC LC (.slice (some ⟨g1,0,none⟩) (LR.length+1) c1) (LR++[x]):=by
 obtain⟨a1,a2,a3⟩:=h.r.app hx hB (λq hq=>(hd q hq).1) h.bb aN hg cd;have hv:∀q∈vR.ownBlock.toList,q∈a9 vR LR:=λq hq=>mem_append_left _ hq;have KZ:∀q∈[g1],q ∉ a9 vC LC:=λq hq hn=>by
  rcases a2.foot q hq with p|p
  .exact h.rv q p hn
  .have:=h.c.lt q hn;omega
 refine⟨h.c.stp a2 (λq hq hn=>h.rv q hn hq),a1,h.bs.stp a2 (λhn=>h.sr (hv S hn)),λy hy=>?_,λq hq=>KZ q (by simpa[Value.ownBlock,eq_comm] using hq),λq hq hn=>?_,h.sc,λhn=>?_,?_,zq3 h.bb a2.size⟩
 .rcases mem_append.1 hy with p|p
  .rcases h.sh y p with q|q
   .exact zq0 (take_subset_take_left LC hk q)
   .exact zq1 q
  .rw[mem_singleton]at p;subst p;exact hs
 .rcases a3 q hn with p|p|p
  .exact h.cv q hq p
  .exact(hd q p).2.2 hq
  .have:=h.c.lt q (mem_append_left _ hq);omega
 .rcases a3 S hn with p|p|p
  .exact h.sr p
  .exact(hd S p).2.1 rfl
  .have:=h.bs.lt;omega
 .have h2:=h.st;refine⟨a2.os.trans h2.os,a2.tape.trans h2.tape,a2.output.trans h2.output,zq3 h2.size a2.size,λq hq hn=>?_,λq hq=>?_⟩
  .rw[a2.block q (zq6 hq h2.size) (λhm=>?_)]
   .exact h2.block q hq hn
   .rcases h2.foot q (mem_cons_of_mem _ (mem_append_right _ (hv q hm))) with p|p
    .exact hn p
    .omega
  .rcases mem_cons.1 hq with rfl|hq
   .exact h2.foot q (by simp)
   .rcases mem_append.1 hq with hq|hq
    .exact h2.foot q (mem_cons_of_mem _ (mem_append_left _ hq))
    .rcases a3 q hq with p|p|p
     .exact h2.foot q (mem_cons_of_mem _ (mem_append_right _ p))
     .rcases h0 q p with p|p
      .exact h2.foot q (mem_cons_of_mem _ (mem_append_left _ p))
      .exact zq1 p
     .exact zq1 (zq3 h2.size p)
theorem Fg.more{v':Value}{L':List FE}(h:Fg w W B F0 S cs k vC LC vR LR)(hk:k<=LC.length)(hc:Fl W' B v' (LC++L'))(hb:Bk W' S 229 cs')(hS:S ∉ a9 v' (LC++L'))(hs:ar (S::a9 vC LC) W (S::a9 v' (LC++L')) W'):Fg w W' B F0 S cs' k v' (LC++L') vR LR:=by
 have Ez:∀q,q<W.heap.size->q≠S->q ∉ a9 vC LC->q ∉ a9 v' (LC++L'):=λq hq h1 h2 hn=>by
  rcases hs.foot q (mem_cons_of_mem _ hn) with p|p
  .rcases mem_cons.1 p with p|p
   .exact h1 p
   .exact h2 p
  .omega
 have nD:∀q∈a9 vR LR,q<W.heap.size/\q≠S:=λq hq=>⟨h.r.lt q hq,λe=>h.sr (by rw[<-e];exact hq)⟩;have KZ:∀q∈vR.ownBlock.toList,q ∉ a9 v' (LC++L'):=λq hq=>Ez q (nD q (mem_append_left _ hq)).1 (nD q (mem_append_left _ hq)).2 (h.rv q hq);have ir:∀x∈LR,(∀q∈x.bs,q ∉ a9 vC LC)->∀q∈x.bs,q ∉ a9 v' (LC++L'):=λx hx hf q hq=>by
  have hm:q∈a9 vR LR:=mem_append_right _ (mem_flatMap.2 ⟨x,hx,hq⟩);exact Ez q (nD q hm).1 (nD q hm).2 (hf q hq)
 refine⟨hc,⟨ae h.r.row (λq hq=>?_),λx hx=>?_,h.r.ge,h.r.nd⟩,hb,λx hx=>?_,KZ,λq hq hn=>?_,hS,h.sr,?_,zq3 h.bb hs.size⟩
 .have hq':q∈vR.ownBlock.toList:=by simpa using hq
  refine hs.block q (nD q (mem_append_left _ hq')).1 (λhn=>?_);rcases mem_cons.1 hn with p|p
  .exact(nD q (mem_append_left _ hq')).2 p
  .exact h.rv q hq' p
 .rcases h.sh x hx with p|p
  .exact hc.fm x (mem_append_left _ (mem_of_mem_take p))
  .refine(h.r.fm x hx).of_eq (λq hq=>?_);have hm:q∈a9 vR LR:=mem_append_right _ (mem_flatMap.2 ⟨x,hx,hq⟩);refine hs.block q (nD q hm).1 (λhn=>?_);rcases mem_cons.1 hn with e|e
   .exact(nD q hm).2 e
   .exact p q hq e
 .rcases h.sh x hx with p|p
  .exact zq0 (by rw[take_append_of_le_length hk];exact p)
  .exact zq1 (ir x hx p)
 .rcases mem_append.1 hn with p|p
  .exact KZ q p (mem_append_left _ hq)
  .obtain⟨x,hx,p⟩:=mem_flatMap.1 p;rcases h.sh x hx with r|r
   .exact(D9 hc.nd).1 q hq x (mem_append_left _ (mem_of_mem_take r)) p
   .exact ir x hx r q p (mem_append_left _ hq)
 .refine h.st.trans (hs.wider (λq hq=>?_) (λq hq=>?_))
  .rcases mem_cons.1 hq with p|p
   .rw[p];simp
   .exact mem_cons_of_mem _ (mem_append_left _ p)
  .rcases mem_cons.1 hq with p|p
   .rw[p];simp
   .rcases mem_append.1 p with p|p
    .exact zq0 (mem_cons_of_mem _ p)
    .exact zq1 (zq0 (mem_cons_of_mem _ (mem_append_right _ p)))
theorem Fg.apart(h:Fg w W B F0 S cs k vC LC vR LR)(hk:k<LC.length):∀q∈LC[k].bs,q ∉ a9 vR LR/\q≠S/\q ∉ vC.ownBlock.toList:=by
 intro q hq;have hm:q∈a9 vC LC:=mem_append_right _ (mem_flatMap.2 ⟨LC[k],getElem_mem hk,hq⟩);refine⟨λhn=>?_,λe=>h.sc (by rw[<-e];exact hm),λhn=>(D9 h.c.nd).1 q hn _ (getElem_mem hk) hq⟩;rcases mem_append.1 hn with p|p
 .exact h.rv q p hm
 .obtain⟨x,hx,p⟩:=mem_flatMap.1 p;rcases h.sh x hx with r|r
  .exact(D9 h.c.nd).2 hk x r q p hq
  .exact r q p hm
end
theorem J7{W:World}{B:Nat}{v:Value}{l:List Nat}(h:W.ownsRow B 3 1 v l.length (q8 l)){i:Nat}(hi:i<l.length):∃g cap,v=.slice (some ⟨g,0,none⟩) l.length cap/\W.cell? ⟨g,i,none⟩=some (.int .i64 (l[i]:Nat)):=by
 obtain⟨g,cap,hv,-,-,-⟩:=bM h (by omega);subst hv;refine⟨g,cap,rfl,?_⟩;have:=h.cellAt i (by omega);rw[this];simp[q8,hi]
theorem Yq{c:Cd}{n k:Nat}{res:List CF}{l:List CF}{s:Sr}(hk:k<l.length)(hf:s.fu=false):iF c (n+1) k res (l,s)=iF c n (k+1) (vW c l[k] (l,s) res).1 (vW c l[k] (l,s) res).2:=by
 have e:l.getD k ⟨[],[],[]⟩=l[k]:=by simp[List.getD,hk]
 show(if k<l.length/\s.fu=false then _ else _)=_;rw[if_pos ⟨hk,hf⟩];show iF c n (k+1) (vW c (l.getD k ⟨[],[],[]⟩) (l,s) res).1 (vW c (l.getD k ⟨[],[],[]⟩) (l,s) res).2=_;rw[e]
theorem Gm{c:Cd}{n k:Nat}{res:List CF}{l:List CF}{s:Sr}(h:¬ (k<l.length/\s.fu=false)):iF c (n+1) k res (l,s)=(res,s):=by
 show(if k<l.length/\s.fu=false then _ else _)=_;rw[if_neg h]
theorem Gn{w W:World}{B S k:Nat}{F0:List Nat}{c0 hv kv wv vC vR:Value}{lp:Bool}{lo:Int}{c:Cd}{s:Sr}{LC LR:List FE}{R:List CF × Sr}(h:Fg w W B F0 S (oW c0 hv lp kv wv c.bd s.lf lo s.fu) k vC LC vR LR)(hT:∀y∈LR,Td y.f)(hR:(LR.map (·.f),s)=R):
  ∃v' L',Ending.returned vR=.returned v'/\Fl W B v' L'/\(∀y∈L',Td y.f)/\L'.map (·.f)=R.1/\Bk W S 229 (oW c0 hv lp kv wv c.bd R.2.lf lo R.2.fu)/\S ∉ a9 v' L'/\ar F0 w (S::a9 v' L') W:=by
 subst hR;refine⟨vR,LR,rfl,h.r,hT,rfl,h.bs,h.sr,⟨h.st.os,h.st.tape,h.st.output,h.st.size,h.st.block,λq hq=>h.st.foot q ?_⟩⟩;rcases mem_cons.1 hq with p|p
 .rw[p];simp
 .exact mem_cons_of_mem _ (mem_append_right _ p)
section
variable {w:World} {B S:Nat} {c0 hv kv wv:Value} {lp:Bool} {lo:Int} {x:FE} {c:Cd} {s:Sr}
theorem Bw(hS:Bk w S 229 (oW c0 hv lp kv wv c.bd s.lf lo s.fu))(hx:Fm w x.A x.f x.av x.ov)(hT:Td x.f)(cq:∀q∈x.bs,B<=q)(hSx:S ∉ x.bs)(hB:B<=w.heap.size)(n:Nat)(bf:(iF c n 0 [] ([x.f],s)).2.ok=true):
  Calls prog 202 #[.pointer (some ⟨S,0,none⟩),.pointer (some ⟨x.A,0,none⟩)] w λe w'=>∃v' L',e=.returned v'/\Fl w' B v' L'/\(∀y∈L',Td y.f)/\L'.map (·.f)=(iF c n 0 [] ([x.f],s)).1/\Bk w' S 229 (oW c0 hv lp kv wv c.bd (iF c n 0 [] ([x.f],s)).2.lf lo (iF c n 0 [] ([x.f],s)).2.fu)/\S ∉ a9 v' L'/\ar (S::x.bs) w (S::a9 v' L') w':=by
 obtain⟨i0,iL,eo,ep,eK⟩:=info_parts infoPF;obtain⟨R,hR⟩:∃R,R=iF c n 0 [] ([x.f],s):=⟨_,rfl⟩;rw[<-hR]at bf ⊢;obtain⟨W2,ey⟩:∃W2,W2=(w.alloc (.cells #[] 126)).alloc (.cells #[Value.pointer (some ⟨x.A,0,none⟩)] 126):=⟨_,rfl⟩;have hFg:Fg w W2 B (S::x.bs) S (oW c0 hv lp kv wv c.bd s.lf lo s.fu) 0 (.slice (some ⟨w.heap.size+1,0,none⟩) 1 1) [x] (.slice (some ⟨w.heap.size,0,none⟩) 0 0) []:=by
  have a7:=ah w (.cells #[] 126);have aL:=ah (w.alloc (.cells #[] 126)) (.cells #[Value.pointer (some ⟨x.A,0,none⟩)] 126);have hb:Below w.heap.size w W2:=by rw[ey];exact a7.trans (aL.mono a7.size)
  have vK:=hx.lt;have Ot:=hS.lt;have hfc:∀q,q∈a9 (.slice (some ⟨w.heap.size+1,0,none⟩) 1 1) [x]↔q=w.heap.size+1\/q∈x.bs:=λq=>by simp[a9,Value.ownBlock]
  have ir:∀q,q∈a9 (.slice (some ⟨w.heap.size,0,none⟩) 0 0) []↔q=w.heap.size:=λq=>by simp[a9,Value.ownBlock]
  have WQ:∀q∈x.bs,q<w.heap.size:=λq hq=>hx.lt q hq;refine⟨⟨?_,λy hy=>?_,λy hy=>?_,?_⟩,⟨?_,λy hy=>by simp at hy,λy hy=>by simp at hy,by simp[a9,Value.ownBlock]⟩,hS.below hb,λy hy=>by simp at hy,λq hq hn=>?_,λq hq hn=>?_,λhn=>?_,λhn=>?_,?_,zq3 hB hb.size⟩
  .rw[ey];have:=ownsRow_lit (base:=B) (e:=126) (size:=1) (w.alloc (.cells #[] 126)) #[Value.pointer (some ⟨x.A,0,none⟩)] 1 (by simp;omega) (by simp[maxLen]) rfl;simpa[FE.p] using this
  .rw[mem_singleton]at hy;subst hy;exact hx.below hb
  .rw[mem_singleton]at hy;subst hy;exact cq
  .show([w.heap.size+1]++[x].flatMap FE.bs).Nodup;rw[nodup_append];refine⟨by simp,by simpa[FE.bs] using hx.nd,λa ha b hb e=>?_⟩;rw[mem_singleton]at ha;have:=WQ b (by simpa using hb);omega
  .rw[ey];exact dA ((ownsRow_lit (base:=w.heap.size) (e:=126) (size:=1) w #[] 0 (zq4 _) (by simp[maxLen]) rfl).alloc _) hB
  .have e:q=w.heap.size:=(by simpa[Value.ownBlock,eq_comm] using hq);rcases(hfc q).1 hn with p|p
   .omega
   .have:=WQ q p;omega
  .have e:q=w.heap.size+1:=(by simpa[Value.ownBlock,eq_comm] using hq);have:=(ir q).1 hn;omega
  .rcases(hfc S).1 hn with p|p
   .omega
   .exact hSx p
  .have:=(ir S).1 hn;omega
  .refine⟨hb.os,hb.tape,hb.output,hb.size,λq hq hn=>hb.block q hq,λq hq=>?_⟩;rcases mem_cons.1 hq with rfl|hq
   .exact zq0 (by simp)
   .rcases mem_append.1 hq with p|p
    .rcases(hfc q).1 p with p|p
     .exact zq1 (by omega)
     .exact zq0 (mem_cons_of_mem _ p)
    .exact zq1 (by have:=(ir q).1 p;omega)
 have kW:=ab bf;have hX1:w.heap.size+1=w.heap.size+1:=rfl;obtain⟨X,hX⟩:∃X,X=w.heap.size+1:=⟨_,rfl⟩;have bX:Hid (Fg w W2 B (S::x.bs) S (oW c0 hv lp kv wv c.bd s.lf lo s.fu) 0 (.slice (some ⟨X,0,none⟩) 1 1) [x] (.slice (some ⟨w.heap.size,0,none⟩) 0 0) []/\(∀y∈[x],Td y.f)/\(∀y∈([]:List FE),Td y.f)/\iF c n 0 (([]:List FE).map (·.f)) ([x].map (·.f),s)=R/\[x].length<=gh+1/\0<=[x].length/\([]:List FE).length=0):=ab ⟨by rw[hX];exact hFg,λy hy=>by rw[mem_singleton]at hy;subst hy;exact hT,λy hy=>by simp at hy,hR.symm,by simp[gh],by simp,rfl⟩;obtain⟨F0,Jz⟩:∃F0,F0=S::x.bs:=⟨_,rfl⟩;rw[<-Jz]at bX ⊢;clear hFg hS hx hT cq hSx bf hR hX1 Jz;obtain⟨xa,xf,xav,xov⟩:=x;simp only at ey;go_enter func202,ntmps202;go_upto_region 3 with fail;rw[show w.heap.size+1=X from hX.symm,<-ey];clear ey hX;go_wp2_with fail
 go_loopg [5,6,7] n (λgn rv cv iv wx=>∃(k:Nat) (LC LR:List FE) (s':Sr),iv=.int .i64 k/\Hid (Fg w wx B F0 S (oW c0 hv lp kv wv c.bd s'.lf lo s'.fu) k cv LC rv LR/\(∀y∈LC,Td y.f)/\(∀y∈LR,Td y.f)/\iF c gn k (LR.map (·.f)) (LC.map (·.f),s')=R/\LC.length<=gh+1/\k<=LC.length/\LR.length=k))
 case atStart=>exact⟨0,_,_,s,rfl,bX⟩
 case round =>
  clear bX;obtain⟨k,LC,LR,s',rfl,hI⟩:=hrel;obtain⟨G,hG⟩:∃G,G=gk:=⟨_,rfl⟩;obtain⟨la,lc,dX,-,-⟩:=aj (uh hI).1.c.row;subst dX;obtain⟨ra,rc,KZ,-,-⟩:=aj (uh hI).1.r.row;subst KZ;obtain⟨m,hm⟩:∃m,gk=m+1:=by
   cases hz:gk with
   |zero =>
    have h1:=(uh hI).2.2.2.1;have h2:=uh kW;rw[hz]at h1;rw[<-h1]at h2;simp[iF]at h2
   |succ m=>exact⟨m,rfl⟩
  have hlc:LC.length<=900001:=(uh hI).2.2.2.2.1;have jf:k<=LC.length:=(uh hI).2.2.2.2.2.1;have VE:Hid (LR.length=k):=ab (uh hI).2.2.2.2.2.2;have nD:LR.length<=900001:=by rw[uh VE];omega
  have c8:=(uh hI).1.bs.cell 8 rfl;by_cases aq:k<LC.length
  .have hd:decide ((k:Int)<(LC.length:Int))=true:=(by simp;omega);cases dW:s'.fu
   .rw[dW]at c8;have fs:=(uh hI).2.2.2.1;rw[hm,Yq (by rw[length_map];exact aq) dW,getElem_map]at fs;obtain⟨g2,cap2,cZ,aw⟩:=(uh hI).1.c.pend.cell aq;simp only[Value.slice.injEq,true_and]at cZ;obtain⟨rfl,rfl⟩:=cZ;have hyF:=(uh hI).1.c.fm _ (getElem_mem aq);have hyB:=(uh hI).1.c.ge _ (getElem_mem aq);have hyT:=(uh hI).2.1 _ (getElem_mem aq);have fT:=(uh hI).1.apart aq;have hym:LC[k]∈LC:=getElem_mem aq;have hyt:LC[k]∈LC.take (k+1):=(by rw[take_succ_eq_append_getElem aq];exact mem_append_right _ mem_cons_self);obtain⟨y,hye⟩:∃y,y=LC[k]:=⟨_,rfl⟩;rw[<-hye]at aw hyF hyB hyT fT hym hyt fs;have GW:y.p=.pointer (some ⟨y.A,0,none⟩):=rfl;rw[GW]at aw;have Ae:=ab (ut hyF.is hyT.ok);have FD:=ab fs;have HYT:=ab hyT;have HYF:=ab hyF;have HYB:=ab hyB;have Rk:=ab fT;have HYm:=ab hym;have HYt:=ab hyt;have HI:=ab (uh hI);have i1:(0:Int)<=(k:Int):=(by omega);have i2:(k:Int)<(LC.length:Int):=(by omega);clear fs hyF hyB hyT fT hym hyt hye GW hI;go_wp2_with fail
    refine(uh Ae).mono ?_;rintro e w3 ⟨gv,rfl,kK,cB⟩;have tA:=ab ((uh HI).1.below cB);have XQ:=ab ((uh HYF).below cB);have hgb:∀q∈gv.ownBlock.toList,wr.heap.size<=q:=λq hq=>(kK.lt q (by simpa using hq)).1;have qv:=ab kK;obtain⟨ga,gc,cM,-,-⟩:=aj kK;subst cM;have HGB:=ab hgb;clear kK hgb cB Ae c8 aw;by_cases rH:eY y.f=[]
    .have hl0:(((eY y.f).length:Int)==(0:Int))=true:=(by rw[rH];rfl);have Er:iF c m (k+1) (LR.map (·.f)++[y.f]) (LC.map (·.f),s')=R:=by
      have:=uh FD;unfold vW at this;rw[if_pos rH]at this;exact this
     have Xv:=ab Er;clear rH Er;have KI:Hid (w3.ownsRow B 126 1 (.slice ra LR.length rc) LR.length (LR.map FE.p)):=ab (uh tA).r.row;have JI:=(uh tA).bb;go_wp2_with (at_builtin;refine aH _ rfl (.tmp 37) (.tmp 39) 125 rfl B 126 i0 _ 1 8 underlying125 iL eo ep eK rfl (by decide) _ LR.length (LR.map FE.p) rfl ((uh KI).alloc _) ⟨_,0,none⟩ 1 [.pointer (some ⟨y.A,0,none⟩)] rfl rfl (aP _ _ (by simp) [.pointer (some ⟨y.A,0,none⟩)] _) (by intro u hu;simp only[mem_singleton]at hu;subst hu;rfl) (by omega) (by omega) (by simp;omega) ?_)
     intro g7 cap7 w7 gN di eU;have JA:=(uh tA).app (x:=y) (k':=k+1) (g1:=g7) (c1:=cap7) (Nat.le_succ k) (uh XQ) (uh HYB) (uh Rk) (zq0 (uh HYt)) (λq hq=>zq0 (mem_append_right _ (mem_flatMap.2 ⟨y,uh HYm,hq⟩))) gN di (by simpa using eU);have HN:=ab (zq2 JA (zq2 (uh HI).2.1 (zq2 (fun(q:FE) (hq:q∈LR++[y])=>(mem_append.1 hq).elim ((uh HI).2.2.1 q) (λp=>(mem_singleton.1 p) ▸ uh HYT)) (zq2 (show iF c m (k+1) ((LR++[y]).map (·.f)) (LC.map (·.f),s')=R by rw[map_append];exact uh Xv) (zq2 (uh HI).2.2.2.2.1 (zq2 (show k+1<=LC.length by omega) (show(LR++[y]).length=k+1 by rw[length_append,uh VE];rfl)))))));clear gN di eU JA HI;go_wp2_with fail
     go_roundg m
     case rel=>exact⟨k+1,LC,LR++[y],s',by go_num,HN⟩
     case measure=>omega
    .have hl0:(((eY y.f).length:Int)==(0:Int))=false:=by
      have:(eY y.f).length≠0:=λe=>rH (length_eq_zero_iff.1 e);simp;omega
     have Er:iF c m (k+1) (LR.map (·.f)++[Vg y.f]) ((eY y.f).foldl (fI c y.f) (LC.map (·.f),s'))=R:=by
      have:=uh FD;unfold vW at this;rw[if_neg rH]at this;exact this
     obtain⟨R1,xx⟩:∃R1,R1=(eY y.f).foldl (fI c y.f) (LC.map (·.f),s'):=⟨_,rfl⟩;rw[<-xx]at Er;have XK:=ab xx;have Xv:=ab Er;have XH:Hid (R1.2.ok=true):=ab (tT m (k+1) _ R1 (by rw[Er];exact uh kW));have HWO:=ab (Kz (uh XQ).is (uh HYT).ok (zq3 (uh HYT).ln (by omega)));clear rH Er xx;go_wp2_with fail
     refine(uh HWO).mono ?_;rintro e w4 ⟨A4,rfl,av4,ov4,qN,afs,mA⟩;have Rv:=ab ((uh tA).below mA);have VC:Hid (w4.ownsRow B 126 1 (.slice ra LR.length rc) LR.length (LR.map FE.p)):=ab (uh Rv).r.row;have Y9:=(uh Rv).bb;have Xz:=ab (ae (uh qv) (λq hq=>mA.block q ((uh qv).lt q hq).2));have Q6:∀q∈aD A4 av4 ov4,(q ∉ a9 (.slice ra LR.length rc) LR/\q≠S/\q ∉ (Value.slice (some ⟨g2,0,none⟩) LC.length lc).ownBlock.toList)/\q ∉ a9 (.slice (some ⟨g2,0,none⟩) LC.length lc) LC/\w.heap.size<=q/\B<=q:=λq hq=>by
      have h1:=afs q hq;refine⟨⟨λhn=>?_,λe=>?_,λhn=>?_⟩,λhn=>?_,zq3 (uh tA).st.size h1,zq3 (uh tA).bb h1⟩
      .have:=(uh tA).r.lt q hn;omega
      .have:=(uh tA).bs.lt;omega
      .have:=(uh tA).c.lt q (mem_append_left _ hn);omega
      .have:=(uh tA).c.lt q hn;omega
     have Vs:=ab qN;have Vq:=ab Q6;clear qN afs mA Q6 HWO qv tA XQ;go_wp2_with (at_builtin;refine aH _ rfl (.tmp 41) (.tmp 44) 125 rfl B 126 i0 _ 1 8 underlying125 iL eo ep eK rfl (by decide) _ LR.length (LR.map FE.p) rfl ((uh VC).alloc _) ⟨_,0,none⟩ 1 [.pointer (some ⟨A4,0,none⟩)] rfl rfl (aP _ _ (by simp) [.pointer (some ⟨A4,0,none⟩)] _) (by intro u hu;simp only[mem_singleton]at hu;subst hu;rfl) (by omega) (by omega) (by simp;omega) ?_)
     intro g7 cap7 w7 gN di eU;have xG:=kf di (by simpa using eU);have JA:=(uh Rv).app (x:=⟨A4,Vg y.f,av4,ov4⟩) (k':=k+1) (g1:=g7) (c1:=cap7) (Nat.le_succ k) (uh Vs) (λq hq=>(uh Vq q hq).2.2.2) (λq hq=>(uh Vq q hq).1) (zq1 (λq hq=>(uh Vq q hq).2.1)) (λq hq=>zq1 (uh Vq q hq).2.2.1) gN di (by simpa using eU);have YK:=ae (uh Xz) (λq hq=>xG.block q ((uh Xz).lt q hq).2 (λhn=>by
      have h1:=uh HGB q (by simpa using hq);have h2:=(uh HI).1.r.lt q (mem_append_left _ hn);omega))
     have aeq:∀q∈(Value.slice ga (eY y.f).length gc).ownBlock.toList,q ∉ a9 (.slice (some ⟨g2,0,none⟩) LC.length lc) LC/\q≠S:=λq hq=>by
      have h1:=uh HGB q hq;exact⟨λhn=>by have:=(uh HI).1.c.lt q hn;omega,λe=>by have:=(uh HI).1.bs.lt;omega⟩
     obtain⟨z,hz⟩:∃z:FE,z=⟨A4,Vg y.f,av4,ov4⟩:=⟨_,rfl⟩;rw[<-hz]at JA;have HZ:Hid (z.f=Vg y.f):=ab (by rw[hz]);obtain⟨B3,SZ⟩:∃B3,B3=wr.heap.size:=⟨_,rfl⟩;rw[<-SZ]at YK;have mV:=ab (zq2 JA (zq2 YK (zq2 aeq (zq2 (uh HI).2.1 (zq2 (show((eY y.f).drop 0).foldl (fI c y.f) (LC.map (·.f),s')=R1 from (uh XK).symm) (zq2 (uh HI).2.2.2.2.1 (zq2 (show k+1<=LC.length by omega) (uh HYm))))))));clear gN di eU xG JA YK aeq hz SZ Rv VC Xz Vs Vq Rk HYF HYm;have uf:=Hl (uh HYT).ok;go_wp2_with fail
     go_loopg [6,48] (eY y.f).length (λgn cv iv wx=>∃(j:Nat) (LD:List FE) (sa:Sr),j+gn=(eY y.f).length/\iv=.int .i64 j/\Hid (Fg w wx B F0 S (oW c0 hv lp kv wv c.bd sa.lf lo sa.fu) (k+1) cv LD (.slice (some ⟨g7,0,none⟩) (LR.length+1) cap7) (LR++[z])/\wx.ownsRow B3 3 1 (.slice ga (eY y.f).length gc) (eY y.f).length (q8 (eY y.f))/\(∀q∈(Value.slice ga (eY y.f).length gc).ownBlock.toList,q ∉ a9 cv LD/\q≠S)/\(∀y∈LD,Td y.f)/\((eY y.f).drop j).foldl (fI c y.f) (LD.map (·.f),sa)=R1/\LD.length<=gh+1/\k+1<=LD.length/\y∈LD))
     case atStart=>exact⟨0,LC,s',by omega,rfl,mV⟩
     case round =>
      clear mV;obtain⟨j,LD,sa,xD,rfl,hJ⟩:=hrel;obtain⟨G2,BF⟩:∃G2,G2=gk:=⟨_,rfl⟩;by_cases eu:j<(eY y.f).length
      .have jb:decide ((j:Int)<((eY y.f).length:Int))=true:=(by simp;omega);obtain⟨g3,cap3,afw,aw⟩:=J7 (uh hJ).2.1 eu;simp only[Value.slice.injEq,true_and]at afw;obtain⟨rfl,rfl⟩:=afw;have jm:(eY y.f).drop j=(eY y.f)[j]::(eY y.f).drop (j+1):=drop_eq_getElem_cons eu;have hjo:(eY y.f)[j]<y.f.ow.length:=by
        have:=getElem_mem eu;unfold eY at this;rw[mem_filter,mem_range]at this;exact this.1
       have fs:=(uh hJ).2.2.2.2.1;rw[jm,foldl_cons]at fs;obtain⟨i,hi⟩:∃i,i=(eY y.f)[j]:=⟨_,rfl⟩;rw[<-hi]at fs hjo aw;have ZK:(fI c y.f (LD.map (·.f),sa) i).2.ok=true:=eS (fI c y.f) (λr b h=>xo r b h) ((eY y.f).drop (j+1)) (by rw[fs];exact uh XH);have QK:=ab (Jw (c:=c) (s:=sa) (x:=y) (i:=i) (L:=LD) (uh hJ).1.bs (uh hJ).1.c (uh hJ).2.2.2.1 (uh hJ).2.2.2.2.2.2.2 (uh hJ).1.sc (uh hJ).1.bb hjo ZK);have ak1:(LD.map (λq:FE=>q.f)).length=LD.length:=length_map _;have C2:Hid ((fI c y.f (LD.map (·.f),sa) i).1.length<=gh+1):=ab (by
        refine MW _ i ZK ?_;show(LD.map (λq:FE=>q.f)).length<=gh+1;have h9:=(uh hJ).2.2.2.2.2.1;omega)
       obtain⟨R2,hR2⟩:∃R2,R2=fI c y.f (LD.map (·.f),sa) i:=⟨_,rfl⟩;rw[<-hR2]at QK C2 fs;have HFo:=ab fs;have HJ:=ab (uh hJ);have k1:(0:Int)<=(j:Int):=(by omega);have k2:(j:Int)<((eY y.f).length:Int):=(by omega);clear jm hjo fs hi ZK hR2 hJ ak1;go_wp2_with fail
       refine(uh QK).mono ?_;rintro e w8 ⟨v8,L8,rfl,afj,agp,N7,NB,BH,GR⟩;have aeo:=(uh HJ).1.more (uh HJ).2.2.2.2.2.2.1 afj NB BH GR;have B7:∀q∈(Value.slice (some ⟨g3,0,none⟩) (eY y.f).length gc).ownBlock.toList,q ∉ S::a9 u6 LD:=λq hq hn=>by
        rcases mem_cons.1 hn with p|p
        .exact((uh HJ).2.2.1 q hq).2 p
        .exact((uh HJ).2.2.1 q hq).1 p
       have aes:=ae (uh HJ).2.1 (λq hq=>GR.block q ((uh HJ).2.1.lt q hq).2 (B7 q (by simpa using hq)));have aer:∀q∈(Value.slice (some ⟨g3,0,none⟩) (eY y.f).length gc).ownBlock.toList,q ∉ a9 v8 (LD++L8)/\q≠S:=λq hq=>⟨λhn=>by
        rcases GR.foot q (mem_cons_of_mem _ hn) with p|p
        .exact B7 q hq p
        .have:=((uh HJ).2.1.lt q (by simpa using hq)).2;omega,((uh HJ).2.2.1 q hq).2⟩
       have aeQ:∀q∈LD++L8,Td q.f:=λq hq=>(mem_append.1 hq).elim ((uh HJ).2.2.2.1 q) (agp q);have afM:(LD++L8).length<=gh+1:=by
        have:=uh C2;rw[<-N7,length_map]at this;exact this
       have NK:((eY y.f).drop (j+1)).foldl (fI c y.f) ((LD++L8).map (·.f),R2.2)=R1:=(by rw[N7];exact uh HFo);have HN:=ab (zq2 aeo (zq2 aes (zq2 aer (zq2 aeQ (zq2 NK (zq2 afM (zq2 (show k+1<=(LD++L8).length by rw[length_append];have:=(uh HJ).2.2.2.2.2.2.1;omega) (show y∈LD++L8 from mem_append_left _ (uh HJ).2.2.2.2.2.2.2))))))));clear afj agp N7 NB BH GR aeo B7 aes aer aeQ afM NK HJ QK C2 HFo;go_wp2_with fail
       go_roundg (G2-1)
       case rel=>exact⟨j+1,LD++L8,R2.2,by omega,by go_num,HN⟩
       case measure=>omega
      .have jb:decide ((j:Int)<((eY y.f).length:Int))=false:=(by simp;omega);have AF:(LD.map (·.f),sa)=R1:=by
        have:=(uh hJ).2.2.2.2.1;rw[drop_eq_nil_of_le (by omega)]at this;exact this
       have HN:=ab (zq2 (uh hJ).1 (zq2 (uh hJ).2.2.2.1 (zq2 (fun(q:FE) (hq:q∈LR++[z])=>(mem_append.1 hq).elim ((uh HI).2.2.1 q) (λp=>by rw[mem_singleton.1 p,uh HZ];exact QG (uh HYT).ok)) (zq2 (show iF c m (k+1) ((LR++[z]).map (·.f)) (LD.map (·.f),sa)=R by rw[AF,map_append,map_singleton,uh HZ];exact uh Xv) (zq2 (uh hJ).2.2.2.2.2.1 (zq2 (uh hJ).2.2.2.2.2.2.1 (show(LR++[z]).length=k+1 by rw[length_append,uh VE];rfl)))))));clear AF hJ;go_wp2_with fail
       go_roundg m
       case rel=>exact⟨k+1,LD,LR++[z],sa,by go_num,HN⟩
       case measure=>omega
   .rw[dW]at c8;have fs:=(uh hI).2.2.2.1;rw[hm,Gm (λh=>by rw[dW]at h;cases h.2)]at fs;have FD:=ab fs;clear fs;go_wp2_with fail
    go_ret;obtain⟨v',L',h1,h2,h3,h4,h5,h6,h7⟩:=Gn (uh hI).1 (uh hI).2.2.1 (uh FD);exact⟨v',h1,L',h2,h3,h4,h5,h6,h7⟩
  .have hd:decide ((k:Int)<(LC.length:Int))=false:=(by simp;omega);have fs:=(uh hI).2.2.2.1;rw[hm,Gm (λh=>aq (by simpa using h.1))]at fs;have FD:=ab fs;clear fs;go_wp2_with fail
   go_ret;obtain⟨v',L',h1,h2,h3,h4,h5,h6,h7⟩:=Gn (uh hI).1 (uh hI).2.2.1 (uh FD);exact⟨v',h1,L',h2,h3,h4,h5,h6,h7⟩
end
