import Derived.Test.YtciihepbeacppaaGreatM24
import Derived.Deep.RegionWith
set_option maxRecDepth 100000
set_option maxHeartbeats 0
namespace Go.Proofs.YtciihepbeacppaaGreat
open Tryz Go.RowKit List World Below
set_option linter.unusedVariables false
section
variable {w W:World} {S:Nat} {c:Cd} {c0 hv kv wv:Value} {KV WV:List Value} {K:List (List En)} {s:Sr} {n:Nat} {l:List En}
def jJ(l:List En)(k:Nat):List En:=(l.take k).filter (λe=>!e.d)
theorem Kv{l:List En}{k:Nat}(h:k<l.length):jJ l (k+1)=jJ l k++if l[k].d=true then [] else [l[k]]:=by
 unfold jJ;rw[Ij h];congr 1;cases l[k].d <;> rfl
theorem T9(l:List En)(k:Nat):(jJ l k).length<=l.length:=zq3 (length_filter_le _ _) (by rw[length_take];omega)
theorem Sh.lE(h:Sh w S c c0 hv kv wv KV WV K s){k g cap n:Nat}{l:List En}(hn:n<K.length)(hl:l=K.getD n [])(hg:KV.getD n aJ=.slice (some ⟨g,0,none⟩) l.length cap)(hk:k<l.length):w.cell? ⟨g,k*2,none⟩=some (.pointer (some ⟨l[k].D,0,none⟩))/\w.cell? ⟨g,k*2+1,none⟩=some (.bool l[k].d)/\w.frozen? ⟨g,k*2+1,none⟩=false:=by
 have h1:=h.ke n hn;rw[hg,<-hl]at h1;obtain⟨h2,h3⟩:=mU h1 rfl hk;exact⟨h2,h3,h1.frozenAt _⟩
theorem RR{Q:Nat}{ws:List ByteArray}{ps:PS}{al:List ci}{vv pv nvv:Value}(h:Sh w S c (.pointer (some ⟨Q,0,none⟩)) hv kv wv KV WV K s)(hC:Cp w Q ws ps al vv pv nvv)(hCd:∀k∈Cb Q vv pv nvv,k ∉ cY S hv kv wv KV WV)(kD:c.nds=ps.nodes)(hN:sQ c.nds)(hn:n<K.length)(ye:K.length<=100000){fuel:Nat}(bm:(sN c fuel n s).ok=true)(nV:(bq s n).length<=tD+1):
  Calls prog 142 #[.pointer (some ⟨S,0,none⟩),.int .i64 n] w λe w'=>e=.returned (.tuple #[])/\ik w S c (.pointer (some ⟨Q,0,none⟩)) hv kv wv KV WV K [] (sN c fuel n s) w':=by
 obtain⟨i0,lr,gX,gy,gK⟩:=info_parts infoPF;obtain⟨kB,kC,SF,-⟩:=h.kc hn;subst SF;obtain⟨l,hl⟩:∃l,l=K.getD n []:=⟨_,rfl⟩;have gu:=h.knE n;rw[<-hl]at gu;rw[gu,length_map]at nV;have EF:l.length<=1000000000001:=by unfold tD at nV;omega
 obtain⟨va,vc,AL,PO,UO⟩:=am (h.ke n hn);rw[<-hl]at AL PO;have hlK:l∈K:=by rw[hl,bF hn];exact getElem_mem hn
 obtain⟨s1,dy⟩:∃s1:Sr,s1={ s with kn:=s.kn.set n ((fV l l.length).map En.m) }:=⟨_,rfl⟩;have hvi:sN c fuel n s=nN c fuel n ((l.filter (λe=>!e.d)).map (λe=>e.x.f)) s1:=by
  unfold sN;rw[gu,dy,TN (zq4 _)];have e1:mH (l.map En.m)=(l.filter (λe=>!e.d)).map (λe=>e.x.f):=by
   unfold mH;rw[filter_map,map_map];rfl
  have e2:(l.map En.m).map (λe=>(⟨e.f,true⟩:ig))=(l.map En.dn).map En.m:=by
   rw[map_map,map_map];rfl
  rw[e1,e2]
 rw[hvi]at bm ⊢;obtain⟨R,hR⟩:∃R,R=nN c fuel n ((l.filter (λe=>!e.d)).map (λe=>e.x.f)) s1:=⟨_,rfl⟩;rw[<-hR]at bm ⊢;have H0:Hid (Sh w S c (.pointer (some ⟨Q,0,none⟩)) hv (.slice (some ⟨kB,0,none⟩) K.length kC) wv KV WV (K.set n (fV l 0)) { s with kn:=s.kn.set n ((fV l 0).map En.m) }):=ab (by
  rw[NW];have e1:K.set n l=K:=by rw[hl,nK hn]
  have e2:s.kn.set n (l.map En.m)=s.kn:=by
   rw[<-gu];exact nK (by rw[h.km,length_map];exact hn)
  rw[e1,e2];exact h)
 have Md:=hC.lt;have HA:=ab (zq2 h (zq2 hC (zq2 hCd (zq2 kD hN))));have HL:=ab (zq2 hl hlK);have YC:=ab AL;have HR:=ab hR;have cH:=ab dy;have mq:=ab bm;obtain⟨eH,dK⟩:∃eH:World->Prop,eH=λw'=>ik w S c (.pointer (some ⟨Q,0,none⟩)) hv (.slice (some ⟨kB,0,none⟩) K.length kC) wv KV WV K [] R w':=⟨_,rfl⟩;have gC:=ab dK;rw[show(fun(e:Ending) (w':World)=>e=.returned (.tuple #[])/\ik w S c (.pointer (some ⟨Q,0,none⟩)) hv (.slice (some ⟨kB,0,none⟩) K.length kC) wv KV WV K [] R w')=(λe w'=>e=.returned (.tuple #[])/\eH w') by rw[dK]];have i1:(0:Int)<=(n:Int):=by omega
 have i2:(n:Int)<(K.length:Int):=by omega
 have cF:Hid ((w.alloc (.cells #[] 126)).ownsRow w.heap.size 126 1 (.slice (some ⟨w.heap.size,0,none⟩) 0 0) (jJ l 0).length ((jJ l 0).map (λe=>e.x.p))/\ii w (w.alloc (.cells #[] 126)) (cY S hv (.slice (some ⟨kB,0,none⟩) K.length kC) wv KV WV) (cY S hv (.slice (some ⟨kB,0,none⟩) K.length kC) wv KV WV) (er K) (er K) []/\Sh (w.alloc (.cells #[] 126)) S c (.pointer (some ⟨Q,0,none⟩)) hv (.slice (some ⟨kB,0,none⟩) K.length kC) wv KV WV (K.set n (fV l 0)) { s with kn:=s.kn.set n ((fV l 0).map En.m) }):=ab ⟨ownsRow_lit (base:=w.heap.size) (e:=126) (size:=1) w #[] 0 (zq4 _) (by simp[maxLen]) rfl,ii.below (ah w _),(uh H0).below (ah w _)⟩;clear h hC hCd kD hN hl hlK AL hvi bm hR dy gu nV dK H0 Md;go_enter func142,ntmps142;go_wp2_with fail
 go_loopg [4,5] l.length (λgn fv iv wx=>∃(k:Nat),k+gn=l.length/\iv=.int .i64 k/\Hid (wx.ownsRow w.heap.size 126 1 fv (jJ l k).length ((jJ l k).map (λe=>e.x.p))/\ii w wx (cY S hv (.slice (some ⟨kB,0,none⟩) K.length kC) wv KV WV) (cY S hv (.slice (some ⟨kB,0,none⟩) K.length kC) wv KV WV) (er K) (er K) []/\Sh wx S c (.pointer (some ⟨Q,0,none⟩)) hv (.slice (some ⟨kB,0,none⟩) K.length kC) wv KV WV (K.set n (fV l k)) { s with kn:=s.kn.set n ((fV l k).map En.m) }))
 case atStart=>exact⟨0,by omega,rfl,cF⟩
 case round =>
  clear cF;obtain⟨k,gu,rfl,hI⟩:=hrel;obtain⟨G1,ze⟩:∃G1,G1=gk:=⟨_,rfl⟩;obtain⟨h1,h2,h3⟩:=uh hI;obtain⟨fa,fc,Xw,-,-⟩:=am h1;subst Xw;have zg:(K.set n (fV l k)).length=K.length:=length_set;have c3:=h3.bs.cell 3 rfl;obtain⟨kB',kC',qJ,ckc⟩:=h3.kc (n:=n) (by rw[zg];exact hn);simp only[Value.slice.injEq,Option.some.injEq,Addr.mk.injEq,and_true]at qJ;obtain⟨rfl,-,rfl⟩:=qJ;rw[uh YC]at ckc;by_cases au:k<l.length
  .have hd:decide ((k:Int)<(l.length:Int))=true:=(by simp;omega);obtain⟨g,cap,dE⟩:∃g cap,KV.getD n aJ=.slice (some ⟨g,0,none⟩) l.length cap:=by
    have h4:=h3.ke n (by rw[zg];exact hn);have e2:(K.set n (fV l k)).getD n []=fV l k:=(by simp[hn]);rw[e2,cV]at h4;obtain⟨g,cap,h5,-,-,-⟩:=b8 h4 (by omega);exact⟨g,cap,h5⟩
   have db:=dE;rw[uh YC]at db;simp only[Value.slice.injEq,true_and]at db;obtain⟨rfl,rfl⟩:=db;have e2:(K.set n (fV l k)).getD n []=fV l k:=(by simp[hn]);obtain⟨x0,x1,xz⟩:=h3.lE (k:=k) (l:=fV l k) (by rw[zg];exact hn) e2.symm (by rw[cV];exact dE) (by rw[cV];exact au);have hek:(fV l k)[k]'(by rw[cV];exact au)=l[k]:=by
    have h6:=Aq au;rw[getElem?_eq_getElem (by rw[cV];exact au)]at h6;injection h6
   rw[hek]at x0 x1;have aP:=Kv au;have k1:(0:Int)<=(k:Int):=(by omega);have k2:(k:Int)<(l.length:Int):=(by omega);cases Xt:l[k].d
   .rw[Xt]at x1 aP;rw[if_neg (by decide)]at aP;obtain⟨h4,xQ⟩:=h3.done hn au dE;obtain⟨W4,yg⟩:∃W4,W4=wr.setCell ⟨g,k*2+1,none⟩ (.bool true):=⟨_,rfl⟩;rw[<-yg]at h4;have hsW:ar [g] wr [g] W4:=(by rw[yg];exact(ar.refl [g] wr).setCell (p:=⟨g,k*2+1,none⟩) (zq0 (by simp)) (.bool true));have ZH:(K.set n (fV l (k+1))).length=K.length:=length_set;have d3:=h4.bs.cell 3 rfl;obtain⟨kB',kC',qJ,dkc⟩:=h4.kc (n:=n) (by rw[ZH];exact hn);simp only[Value.slice.injEq,Option.some.injEq,Addr.mk.injEq,and_true]at qJ;obtain⟨rfl,-,rfl⟩:=qJ;rw[dE]at dkc;have e3:(K.set n (fV l (k+1))).getD n []=fV l (k+1):=(by simp[hn]);obtain⟨z0,z1,-⟩:=h4.lE (k:=k) (l:=fV l (k+1)) (by rw[ZH];exact hn) e3.symm (by rw[cV];exact dE) (by rw[cV];exact au);have hdD:((fV l (k+1))[k]'(by rw[cV];exact au)).D=l[k].D:=by
     have h6:(fV l (k+1))[k]?=some l[k].dn:=(by rw[qB au,getElem?_set_self (by rw[cV];exact au)]);rw[getElem?_eq_getElem (by rw[cV];exact au)]at h6;injection h6 with h6;rw[h6];rfl
    rw[hdD]at z0;have hlm:fV l (k+1)∈K.set n (fV l (k+1)):=mem_iff_getElem?.2 ⟨n,by rw[getElem?_set_self hn]⟩;have hem:l[k].dn∈fV l (k+1):=mem_iff_getElem?.2 ⟨k,by rw[qB au,getElem?_set_self (by rw[cV];exact au)]⟩;have fj:=(h4.dr _ hlm _ hem).1.fo;have afQ:W4.cell? ⟨l[k].D,0,none⟩=some (.pointer (some ⟨l[k].x.A,0,none⟩)):=fj;have pw:=h1.lt;have nY:=h3.lt g xQ;have hgw:=(uh HA).1.lt g xQ;have WH:Hid (W4.ownsRow w.heap.size 126 1 (.slice fa (jJ l k).length fc) (jJ l k).length ((jJ l k).map (λe=>e.x.p))):=ab (ae h1 (λq hq=>hsW.block q (pw q hq).2 (λe=>by
     rw[mem_singleton]at e;have:=(pw q hq).1;omega)))
    have Mp:=h2.trans (ii.stp (X:=[]) hsW (λq hq=>zq0 (by rw[mem_singleton]at hq;rw[hq];exact xQ))) (λq hq=>by simp at hq);have ju:=T9 l k;have asc:=Mp.st.size;obtain⟨Dk,hDk⟩:∃Dk,Dk=l[k].D:=⟨_,rfl⟩;obtain⟨Ak,hAk⟩:∃Ak,Ak=l[k].x.A:=⟨_,rfl⟩;rw[<-hDk]at x0 z0 afQ;rw[<-hAk]at afQ;have H4:=ab (zq2 h4 (zq2 Mp (zq2 aP hAk)));clear h1 h2 h3 xQ hsW hek e2 e3 ZH hdD hlm hem fj pw nY hgw h4 Mp Xt hDk hAk aP hI zg dE;go_upto_region 6 with fail;rw[<-yg];clear yg c3 ckc x0 x1 xz z1;go_wp2_with (at_builtin;refine tz _ rfl (.tmp 42) (.tmp 57) 125 rfl w.heap.size 126 i0 _ 1 8 underlying125 lr gX gy gK rfl (by decide) _ (jJ l k).length ((jJ l k).map (λe=>e.x.p)) rfl ((uh WH).alloc _) ⟨_,0,none⟩ 1 [.pointer (some ⟨Ak,0,none⟩)] rfl rfl (aN _ _ (by simp) [.pointer (some ⟨Ak,0,none⟩)] _) (by intro u hu;simp only[mem_singleton]at hu;subst hu;rfl) (by omega) (by omega) (by simp;omega) ?_)
    intro g7 cap7 w7 iK dM gh;have zm:=lI dM (by simpa using gh);have Ct:=(uh WH).lt;have K4:∀q,q<w.heap.size->q ∉ (Value.slice fa (jJ l k).length fc).ownBlock.toList:=λq hq e=>by
     have:=(Ct q (by simpa using e)).1;omega
    obtain⟨h4,Mp,aP,hAk⟩:=uh H4;have hKV:∀q∈cY S hv (.slice (some ⟨kB,0,none⟩) K.length kC) wv KV WV,q<w.heap.size:=(uh HA).1.lt;have hKD:∀q∈er (K.set n (fV l (k+1))),q<w.heap.size:=λq hq=>(uh HA).1.drlt q ((CQ (uh HL).1 hn (k+1) q).1 hq);have h7:=h4.stp zm (λq hq=>K4 q (hKV q hq)) (λq hq=>K4 q (hKD q hq));have hg7:ii w w7 (cY S hv (.slice (some ⟨kB,0,none⟩) K.length kC) wv KV WV) (cY S hv (.slice (some ⟨kB,0,none⟩) K.length kC) wv KV WV) (er K) (er K) []:=Mp.trans (ii.stp (X:=(Value.slice fa (jJ l k).length fc).ownBlock.toList) zm (λq hq=>zq1 hq)) (λq hq=>zq1 (Ct q (by simpa using hq)).1);have XH:w7.ownsRow w.heap.size 126 1 (.slice (some ⟨g7,0,none⟩) ((jJ l k).length+1) cap7) (jJ l (k+1)).length ((jJ l (k+1)).map (λe=>e.x.p)):=by
     rw[aP,length_append,map_append];have e5:[l[k]].map (λe=>e.x.p)=[Value.pointer (some ⟨Ak,0,none⟩)]:=(by rw[hAk];rfl);rw[e5];exact iK
    have HN:=ab (zq2 XH (zq2 hg7 h7));clear iK dM gh zm Ct K4 h4 Mp aP hAk hKV hKD h7 hg7 XH H4 WH;go_wp2_with fail
    go_roundg (G1-1)
    case rel=>exact⟨k+1,by omega,by go_num,HN⟩
    case measure=>omega
   .have e4:=NV au Xt;rw[Xt]at x1 aP;rw[if_pos rfl,append_nil]at aP;have HN:Hid (wr.ownsRow w.heap.size 126 1 (.slice fa (jJ l k).length fc) (jJ l (k+1)).length ((jJ l (k+1)).map (λe=>e.x.p))/\ii w wr (cY S hv (.slice (some ⟨kB,0,none⟩) K.length kC) wv KV WV) (cY S hv (.slice (some ⟨kB,0,none⟩) K.length kC) wv KV WV) (er K) (er K) []/\Sh wr S c (.pointer (some ⟨Q,0,none⟩)) hv (.slice (some ⟨kB,0,none⟩) K.length kC) wv KV WV (K.set n (fV l (k+1))) { s with kn:=s.kn.set n ((fV l (k+1)).map En.m) }):=ab (by rw[aP,e4];exact⟨h1,h2,h3⟩);clear h1 h2 h3 hek e2 zg Xt aP hI dE e4;go_wp2_with fail
    go_roundg (G1-1)
    case rel=>exact⟨k+1,by omega,by go_num,HN⟩
    case measure=>omega
  .have hd:decide ((k:Int)<(l.length:Int))=false:=(by simp;omega);have gJ:k=l.length:=(by omega);have hFR:jJ l k=l.filter (λe=>!e.d):=(by unfold jJ;rw[take_of_length_le (by omega)]);have hDN:fV l k=fV l l.length:=(by rw[gJ]);rw[hFR]at h1 ⊢;rw[hDN]at h3;rw[<-uh cH]at h3;obtain⟨FR,Ul⟩:∃FR,FR=l.filter (λe=>!e.d):=⟨_,rfl⟩;have hR:=uh HR;rw[<-Ul]at h1 hR ⊢;have hFl:FR.length<=l.length:=(by rw[Ul];exact length_filter_le _ _);have FZ:∀q,(Value.slice fa FR.length fc).ownBlock=some q->q ∉ (cY S hv (.slice (some ⟨kB,0,none⟩) K.length kC) wv KV WV):=λq hq e=>by
    have h7:=(h1.lt q hq).1;have h8:=(uh HA).1.lt q e;omega
   have KT:ii w wr (cY S hv (.slice (some ⟨kB,0,none⟩) K.length kC) wv KV WV) (cY S hv (.slice (some ⟨kB,0,none⟩) K.length kC) wv KV WV) (er K) (er (K.set n (fV l l.length))) []:=⟨h2.st,λq hq=>zq0 ((CQ (uh HL).1 hn l.length q).1 hq)⟩;have cF:=ab (zq2 h3 (zq2 KT (zq2 h1 (zq2 FZ hR))));have HFM:Hid (∀e∈FR,e∈l):=ab (λe he=>by rw[Ul]at he;exact(mem_filter.1 he).1);clear h1 h2 h3 hI hFR hDN Ul hR FZ KT zg gu gJ HR cH;go_wp2_with fail
   go_loopg [6] FR.length (λgn iv wx=>∃(j:Nat) (KV':List Value) (K':List (List En)) (s':Sr),j+gn=FR.length/\iv=.int .i64 j/\Hid (Sh wx S c (.pointer (some ⟨Q,0,none⟩)) hv (.slice (some ⟨kB,0,none⟩) K.length kC) wv KV' WV K' s'/\K'.length=K.length/\ii w wx (cY S hv (.slice (some ⟨kB,0,none⟩) K.length kC) wv KV WV) (cY S hv (.slice (some ⟨kB,0,none⟩) K.length kC) wv KV' WV) (er K) (er K') []/\wx.ownsRow w.heap.size 126 1 (.slice fa FR.length fc) FR.length (FR.map (λe=>e.x.p))/\(∀q,(Value.slice fa FR.length fc).ownBlock=some q->q ∉ (cY S hv (.slice (some ⟨kB,0,none⟩) K.length kC) wv KV' WV))/\nN c fuel n ((FR.drop j).map (λe=>e.x.f)) s'=R))
   case atStart=>exact⟨0,KV,_,s1,by omega,rfl,ab ⟨(uh cF).1,length_set,(uh cF).2.1,(uh cF).2.2.1,(uh cF).2.2.2.1,by rw[drop_zero];exact(uh cF).2.2.2.2.symm⟩⟩
   case round =>
    clear cF;obtain⟨j,KV',K',s',Co,rfl,hI⟩:=hrel;obtain⟨G2,FB⟩:∃G2,G2=gk:=⟨_,rfl⟩;obtain⟨h1,h2,h3,h4,h5,h6⟩:=uh hI;have c8:=h1.bs.cell 8 rfl;have OI:s'=R->Hid (eH wr):=λe=>ab (by rw[uh gC,<-e];exact⟨KV',K',h1,h2,h3⟩);by_cases au:j<FR.length
    .have kY:decide ((j:Int)<(FR.length:Int))=true:=(by simp;omega);have nX:FR.drop j=FR[j]::FR.drop (j+1):=drop_eq_getElem_cons au;rw[nX,map_cons]at h6;unfold nN at h6;cases dX:s'.fu
     .rw[dX]at c8 h6;rw[if_neg (by decide)]at h6;obtain⟨g2,cap2,db,-,-,-⟩:=b8 h4 (by omega);simp only[Value.slice.injEq,true_and]at db;obtain⟨rfl,rfl⟩:=db;have ax:wr.cell? ⟨g2,j,none⟩=some (.pointer (some ⟨FR[j].x.A,0,none⟩)):=by
       rw[h4.cellAt j (by omega),getElem?_map,getElem?_eq_getElem au];rfl
      have mI:=uh HFM _ (getElem_mem au);have zi:=(uh HA).1.dr l (uh HL).2 _ mI;have hbK:∀q∈FR[j].x.bs,q∈er K:=λq hq=>bB.2 ⟨l,(uh HL).2,_,mI,mem_cons_of_mem _ hq⟩;have hbn:∀q,q<w.heap.size->q ∉ (cY S hv (.slice (some ⟨kB,0,none⟩) K.length kC) wv KV WV)->q ∉ (cY S hv (.slice (some ⟨kB,0,none⟩) K.length kC) wv KV' WV)/\wr.heap[q]?=w.heap[q]?:=λq hq xS=>⟨λe=>by
       rcases h3.st.foot q e with p|p
       .exact xS (by simpa using p)
       .omega,h3.st.block q hq (by simpa using xS)⟩
      have ce:∀q∈FR[j].x.bs,q ∉ (cY S hv (.slice (some ⟨kB,0,none⟩) K.length kC) wv KV' WV)/\wr.heap[q]?=w.heap[q]?:=λq hq=>hbn q ((uh HA).1.drlt q (hbK q hq)) ((uh HA).1.da q (hbK q hq));have hFw:=zi.1.ff.of_eq (w':=wr) (λq hq=>(ce q hq).2);have hCp:=(uh HA).2.1.of_eq (w':=wr) (λq hq=>(hbn q ((uh HA).2.1.lt q hq) ((uh HA).2.2.1 q hq)).2);have qL:(pm c fuel n FR[j].x.f s').ok=true:=nO _ (by rw[h6];exact uh mq);have Yz:=ab (Wb h1 hCp (uh HA).2.2.2.1 (uh HA).2.2.2.2 hFw zi.2 (λq hq=>(ce q hq).1) (n:=n) (by omega) (by omega) qL);have HI:=ab (zq2 h2 (zq2 h3 (zq2 h4 (zq2 h5 h6))));obtain⟨Aj,hAj⟩:∃Aj,Aj=FR[j].x.A:=⟨_,rfl⟩;rw[<-hAj]at ax Yz;have k1:(0:Int)<=(j:Int):=(by omega);have k2:(j:Int)<(FR.length:Int):=(by omega);clear h1 h2 h3 h4 h5 h6 mI zi hbK hbn ce hFw hCp qL hAj nX hI OI dX;go_wp2_with fail
      refine(uh Yz).mono ?_;rintro e w5 ⟨rfl,tC,K2,q1,q2,q3⟩;obtain⟨h2,h3,h4,h5,h6⟩:=uh HI;have AG:=ae h4 (λq hq=>q3.st.block q (h4.lt q hq).2 (by simpa using h5 q hq));have hq5:∀q,(Value.slice (some ⟨g2,0,none⟩) FR.length fc).ownBlock=some q->q ∉ cY S hv (.slice (some ⟨kB,0,none⟩) K.length kC) wv tC WV:=λq hq e=>by
       rcases q3.st.foot q e with p|p
       .exact h5 q hq (by simpa using p)
       .have:=(h4.lt q hq).2;omega
      have HN:=ab (zq2 q1 (zq2 (q2.trans h2) (zq2 (h3.trans q3 (λq hq=>by simp at hq)) (zq2 AG (zq2 hq5 h6)))));clear q1 q2 q3 h2 h3 h4 h5 h6 AG hq5 Yz HI c8 ax;go_wp2_with fail
      go_roundg (G2-1)
      case rel=>exact⟨j+1,tC,K2,_,by omega,by go_num,HN⟩
      case measure=>omega
     .rw[dX]at c8 h6;rw[if_pos rfl]at h6;have HP:=OI h6;clear h1 h2 h3 h4 h5 h6 nX hI OI dX;go_wp2_with fail
      go_end0
      exact⟨rfl,uh HP⟩
    .have kY:decide ((j:Int)<(FR.length:Int))=false:=(by simp;omega);rw[drop_eq_nil_of_le (by omega)]at h6;have HP:=OI h6;clear h1 h2 h3 h4 h5 h6 hI OI;go_wp2_with fail
     go_end0
     exact⟨rfl,uh HP⟩
end
theorem QG{s:Sr}{n:Nat}(hn:n<s.kn.length)(h1:(s.kn[n]).any (λe=>!e.d)=true)(h2:∀m,m<n->∀l,s.kn[m]?=some l->l.any (λe=>!e.d)=false):EN s=some n:=by
 unfold EN;rw[findIdx?_eq_some_iff_getElem];refine⟨hn,h1,λj hj=>?_⟩;rw[h2 j hj _ (getElem?_eq_getElem (by omega))];decide
theorem QF{s:Sr}(h2:∀(m:Nat) (l:List ig),s.kn[m]?=some l->l.any (λe=>!e.d)=false):EN s=none:=by
 unfold EN;rw[findIdx?_eq_none_iff];intro l hl;obtain⟨m,hm⟩:=mem_iff_getElem?.1 hl;exact h2 m l hm
section
variable {w:World} {S:Nat} {c:Cd} {c0 hv kv wv:Value} {KV WV:List Value} {K:List (List En)} {s:Sr}
theorem Sh.kn_at(h:Sh w S c c0 hv kv wv KV WV K s){m:Nat}{l:List ig}(hl:s.kn[m]?=some l):∃L,K[m]?=some L/\l=L.map En.m:=by
 rw[h.km,getElem?_map]at hl;cases hk:K[m]? with
 |none=>rw[hk]at hl;simp at hl
 |some L=>rw[hk]at hl;exact⟨L,rfl,by simpa[eq_comm] using hl⟩
theorem wM(h:Sh w S c c0 hv kv wv KV WV K s)(ye:K.length<=100000):
  Calls prog 141 #[.pointer (some ⟨S,0,none⟩)] w λe w'=>e=.returned (.int .i64 (fU (EN s)))/\Below w.heap.size w w':=by
 obtain⟨R,hR⟩:∃R,R=fU (EN s):=⟨_,rfl⟩;rw[<-hR];obtain⟨ka,kC,SF,-,-⟩:=am h.kr;subst SF;have cF:Hid (Below w.heap.size w w/\∀m,m<0->∀L,K[m]?=some L->L.any (λe=>!e.d)=false):=ab ⟨Below.refl _ _,λm hm=>by omega⟩;have H:=ab h;have HR:=ab hR;have Yd:Hid (∀L:List En,(L.map En.m).any (λe=>!e.d)=L.any (λe=>!e.d)):=ab (λL=>by rw[any_map];rfl);clear h hR;go_enter func141,ntmps141;go_wp2_with fail
 go_loopg [3] K.length (λgn iv wx=>∃(k:Nat),k+gn=K.length/\iv=.int .i64 k/\Hid (Below w.heap.size w wx/\∀m,m<k->∀L,K[m]?=some L->L.any (λe=>!e.d)=false))
 case atStart=>exact⟨0,by omega,rfl,cF⟩
 case round =>
  clear cF;obtain⟨k,gu,rfl,hI⟩:=hrel;obtain⟨G1,ze⟩:∃G1,G1=gk:=⟨_,rfl⟩;have h1:=(uh H).below (uh hI).1;have c3:=h1.bs.cell 3 rfl;by_cases au:k<K.length
  .have hd:decide ((k:Int)<(K.length:Int))=true:=(by simp;omega);obtain⟨kB',kC',qJ,ckc⟩:=h1.kc au;simp only[Value.slice.injEq,true_and]at qJ;obtain⟨rfl,rfl⟩:=qJ;obtain⟨L,hL⟩:∃L,L=K.getD k []:=⟨_,rfl⟩;have hLK:K[k]?=some L:=(by rw[hL,bF au,getElem?_eq_getElem au]);have kE:=(uh H).ke k au;rw[<-hL]at kE;obtain⟨va,vc,AL,PO,UO⟩:=am kE;rw[AL]at ckc kE;have HK:=ab kE;have R9:=ab hLK;have i1:(0:Int)<=(k:Int):=(by omega);have i2:(k:Int)<(K.length:Int):=(by omega);have oO:Hid (Below w.heap.size w wr/\∀i,i<0->∀e,L[i]?=some e->e.d=true):=ab ⟨(uh hI).1,λm hm=>by omega⟩;have eo:=ab (uh hI).2;clear h1 hL hLK kE AL hI;go_wp2_with fail
   go_loopg [23] L.length (λgn iv wx=>∃(j:Nat),j+gn=L.length/\iv=.int .i64 j/\Hid (Below w.heap.size w wx/\∀i,i<j->∀e,L[i]?=some e->e.d=true))
   case atStart=>exact⟨0,by omega,rfl,oO⟩
   case round =>
    clear oO c3 ckc;obtain⟨j,Co,rfl,hJ⟩:=hrel;obtain⟨G2,FB⟩:∃G2,G2=gk:=⟨_,rfl⟩;by_cases b7:j<L.length
    .have kY:decide ((j:Int)<(L.length:Int))=true:=(by simp;omega);have j9:=eY (uh HK) (uh hJ).1;obtain⟨g,cap,dE,-,-⟩:=b8 j9 (by omega);simp only[Value.slice.injEq,true_and]at dE;obtain⟨rfl,rfl⟩:=dE;obtain⟨x0,x1⟩:=mU j9 rfl b7;have cW:L[j]?=some L[j]:=getElem?_eq_getElem b7;obtain⟨e,Ml⟩:∃e,e=L[j]:=⟨_,rfl⟩;rw[<-Ml]at x0 x1 cW;obtain⟨eD,ex,ed⟩:=e;simp only at x0 x1;have El:=ab cW;have k1:(0:Int)<=(j:Int):=(by omega);have k2:(j:Int)<(L.length:Int):=(by omega);have et:Below w.heap.size w (wr.alloc (.cells #[Value.pointer (some ⟨eD,0,none⟩),.bool ed] 258)):=(uh hJ).1.trans ((ah wr _).mono (uh hJ).1.size);have lN:=ab et;clear j9 cW Ml et;cases ed
     .have HE:Hid (R=(k:Int)):=ab (by
       have hkL:k<s.kn.length:=(by rw[(uh H).km,length_map];exact au);rw[uh HR,QG hkL ?_ ?_]
       .rfl
       .obtain⟨L2,h2,h3⟩:=(uh H).kn_at (getElem?_eq_getElem hkL);rw[uh R9]at h2;injection h2 with h2;rw[h3,<-h2,uh Yd,any_eq_true];exact⟨_,mem_of_getElem? (uh El),rfl⟩
       .intro m hm l hl;obtain⟨L2,h2,rfl⟩:=(uh H).kn_at hl;rw[uh Yd];exact uh eo m hm L2 h2)
      go_wp2_with fail
      go_ret;exact⟨bi (uh HE).symm,uh lN⟩
     .go_wp2_with fail
      go_roundg (G2-1)
      case rel=>exact⟨j+1,by omega,by go_num,ab ⟨uh lN,λi hi y hy=>by
       by_cases e':i=j
       .rw[e',uh El]at hy;injection hy with hy;rw[<-hy]
       .exact(uh hJ).2 i (by omega) y hy⟩⟩
      case measure=>omega
    .have kY:decide ((j:Int)<(L.length:Int))=false:=(by simp;omega);go_wp2_with fail
     go_roundg (G1-1)
     case rel=>exact⟨k+1,by omega,by go_num,ab ⟨(uh hJ).1,λm hm L2 h2=>by
      by_cases e':m=k
      .rw[e',uh R9]at h2;injection h2 with h2;rw[<-h2,any_eq_false];intro e he;obtain⟨i,hi⟩:=mem_iff_getElem?.1 he;rw[(uh hJ).2 i (by have:=(List.getElem?_eq_some_iff.1 hi).1;omega) e hi];decide
      .exact uh eo m (by omega) L2 h2⟩⟩
     case measure=>omega
  .have hd:decide ((k:Int)<(K.length:Int))=false:=(by simp;omega);have HE:Hid (R=-1):=ab (by
    rw[uh HR,QF (λm l hl=>?_)]
    .rfl
    .obtain⟨L,hL,rfl⟩:=(uh H).kn_at hl;rw[uh Yd];exact(uh hI).2 m (by have:=(List.getElem?_eq_some_iff.1 hL).1;omega) L hL)
   clear h1;go_wp2_with fail
   go_ret;exact⟨bi (uh HE).symm,(uh hI).1⟩
end
def nZ(m k i:Nat):Nat:=if k=2/\m<=i then i+1 else m
theorem Pk{al:List ci}{k:Nat}(h:k<al.length):yl (al.take (k+1))=nZ (nZ (yl (al.take k)) al[k].lk al[k].li) al[k].rk al[k].ri:=by
 unfold yl;rw[take_succ_eq_append_getElem h,foldl_append];rfl
theorem FN{m k i:Nat}(hm:m<=101)(hi:i<=100):nZ m k i<=101:=by unfold nZ;split <;> omega
theorem Pj:∀(al:List ci),(∀a∈al,a.li<=100/\a.ri<=100)->yl al<=101:=by
 intro al h;have key:∀(l:List ci) (m:Nat),(∀a∈l,a.li<=100/\a.ri<=100)->m<=101->l.foldl (λm a=>nZ (nZ m a.lk a.li) a.rk a.ri) m<=101:=by
  intro l;induction l with
  |nil=>intro m _ hm;exact hm
  |cons a l ih=>intro m hl hm;exact ih _ (λb hb=>hl b (mem_cons_of_mem _ hb)) (FN (FN hm (hl a (by simp)).1) (hl a (by simp)).2)
 exact key al 0 h (by omega)
theorem aaL(a b c d:Value)(w:World):(Instr.index 287 (.agg #[a,b,c,d]) (.int .i64 0)).run prog w=.ok (.agg #[a,b]) w:=by kernel_rfl
theorem aaM(a b c d:Value)(w:World):(Instr.index 287 (.agg #[a,b,c,d]) (.int .i64 1)).run prog w=.ok (.agg #[c,d]) w:=by kernel_rfl
section
variable {w:World} {B:Nat} {av:Value} {al:List ci}
theorem FO(h:w.ownsRow B 239 5 av al.length (bN al))(m0:al.length<=1000)(hb:∀a∈al,a.li<=100/\a.ri<=100):
  Calls prog 196 #[av] w λe w'=>e=.returned (.int .i64 (yl al:Nat))/\Below w.heap.size w w':=by
 obtain⟨ao,cap,ko,oT,kD,ax⟩:=nS h;have HC:=ab ax;have HBD:=ab hb;have HLE:Hid (∀k,yl (al.take k)<=101):=ab (λk=>Pj _ (λa ha=>hb a (mem_of_mem_take ha)));rw[ko];clear h ax ko hb;go_enter func196,ntmps196;go_wp2_with fail
 go_loopg [3,10] al.length (λgn cv iv wx=>∃(k:Nat),k+gn=al.length/\iv=.int .i64 k/\cv=.int .i64 (yl (al.take k):Nat)/\Hid (Below w.heap.size w wx))
 case atStart=>exact⟨0,by omega,rfl,rfl,ab (Below.refl _ _)⟩
 case round =>
  obtain⟨k,gu,rfl,rfl,hI⟩:=hrel;obtain⟨G1,ze⟩:∃G1,G1=gk:=⟨_,rfl⟩;by_cases au:k<al.length
  .have hd:decide ((k:Int)<(al.length:Int))=true:=(by simp;omega);obtain⟨g,rfl,nY,hc⟩:=uh HC (λe=>by rw[e]at au;simp at au);obtain⟨x0,x1,x2,x3,x4⟩:=hc k au;have x0:=((uh hI).cell nY).trans x0;have x1:=((uh hI).cell nY).trans x1;have x2:=((uh hI).cell nY).trans x2;have x3:=((uh hI).cell nY).trans x3;have x4:=((uh hI).cell nY).trans x4;have aP:=Pk au;have hbd:=uh HBD _ (getElem_mem au);have hm1:=uh HLE k;obtain⟨a,ha⟩:∃a,a=al[k]:=⟨_,rfl⟩;rw[<-ha]at x0 x1 x2 x3 x4 aP hbd;obtain⟨m,hm⟩:∃m,m=yl (al.take k):=⟨_,rfl⟩;rw[<-hm]at aP hm1 ⊢;obtain⟨ak,alk,ali,ark,ari⟩:=a;simp only at x0 x1 x2 x3 x4 aP hbd;have dh:=ab aP;have f8:Hid (Below w.heap.size w (wr.alloc (.cells #[Value.int .i64 ak,.int .i64 alk,.int .i64 ali,.int .i64 ark,.int .i64 ari] 239))):=ab ((uh hI).trans ((ah wr _).mono (uh hI).size));have i1:(0:Int)<=(k:Int):=(by omega);have i2:(k:Int)<(al.length:Int):=(by omega);have j0:=aaL (.int .i64 (alk:Int)) (.int .i64 (ali:Int)) (.int .i64 (ark:Int)) (.int .i64 (ari:Int));have j1:=aaM (.int .i64 (alk:Int)) (.int .i64 (ali:Int)) (.int .i64 (ark:Int)) (.int .i64 (ari:Int));clear hc aP ha hm hI;go_wp2_with fail
   go_loopg [3,19] 2 (λgn cv iv wx=>∃(j:Nat),j+gn=2/\iv=.int .i64 j/\cv=.int .i64 ((if j=0 then m else if j=1 then nZ m alk ali else nZ (nZ m alk ali) ark ari:Nat):Int)/\Hid (Below w.heap.size w wx))
   case atStart=>exact⟨0,by omega,rfl,rfl,f8⟩
   case round =>
    clear f8;obtain⟨j,Co,rfl,rfl,hJ⟩:=hrel;obtain⟨G2,FB⟩:∃G2,G2=gk:=⟨_,rfl⟩;have hj3:j=0\/j=1\/j=2:=(by omega);rcases hj3 with rfl|rfl|rfl
    .rw[if_pos rfl];have HN:Hid (Below w.heap.size w (wr.alloc (.cells #[Value.int .i64 alk,.int .i64 ali] 184))):=ab ((uh hJ).trans ((ah wr _).mono (uh hJ).size));clear hJ;by_cases h2:alk=2
     .have d2:((alk:Int)==(2:Int))=true:=(by simp[h2]);by_cases cW:m<=ali
      .have d3:decide (m<=ali)=true:=(by simpa using cW);have HT:Hid (nZ m alk ali=ali+1):=ab (by unfold nZ;rw[if_pos ⟨h2,cW⟩]);clear h2 cW;go_wp2_with fail
       go_roundg (G2-1)
       case rel=>exact⟨1,by omega,by go_num,by rw[if_neg (by decide),if_pos rfl,uh HT];go_num,HN⟩
       case measure=>omega
      .have d3:decide (m<=ali)=false:=(by simpa using cW);have HT:Hid (nZ m alk ali=m):=ab (by unfold nZ;rw[if_neg (λh=>cW h.2)]);clear h2 cW;go_wp2_with fail
       go_roundg (G2-1)
       case rel=>exact⟨1,by omega,by go_num,by rw[if_neg (by decide),if_pos rfl,uh HT],HN⟩
       case measure=>omega
     .have d2:((alk:Int)==(2:Int))=false:=(by simp;omega);have HT:Hid (nZ m alk ali=m):=ab (by unfold nZ;rw[if_neg (λh=>h2 h.1)]);clear h2;go_wp2_with fail
      go_roundg (G2-1)
      case rel=>exact⟨1,by omega,by go_num,by rw[if_neg (by decide),if_pos rfl,uh HT],HN⟩
      case measure=>omega
    .rw[if_neg (by decide),if_pos rfl];have HN:Hid (Below w.heap.size w (wr.alloc (.cells #[Value.int .i64 ark,.int .i64 ari] 184))):=ab ((uh hJ).trans ((ah wr _).mono (uh hJ).size));have tb:=FN (k:=alk) hm1 hbd.1;obtain⟨m1,hm1e⟩:∃m1,m1=nZ m alk ali:=⟨_,rfl⟩;have HM1:=ab hm1e;rw[<-hm1e]at tb ⊢;clear hJ hm1e;by_cases h2:ark=2
     .have d2:((ark:Int)==(2:Int))=true:=(by simp[h2]);by_cases cW:m1<=ari
      .have d3:decide (m1<=ari)=true:=(by simpa using cW);have HT:Hid (nZ m1 ark ari=ari+1):=ab (by unfold nZ;rw[if_pos ⟨h2,cW⟩]);clear h2 cW;go_wp2_with fail
       go_roundg (G2-1)
       case rel=>exact⟨2,by omega,by go_num,by rw[if_neg (by decide),if_neg (by decide),<-uh HM1,uh HT];go_num,HN⟩
       case measure=>omega
      .have d3:decide (m1<=ari)=false:=(by simpa using cW);have HT:Hid (nZ m1 ark ari=m1):=ab (by unfold nZ;rw[if_neg (λh=>cW h.2)]);clear h2 cW;go_wp2_with fail
       go_roundg (G2-1)
       case rel=>exact⟨2,by omega,by go_num,by rw[if_neg (by decide),if_neg (by decide),<-uh HM1,uh HT],HN⟩
       case measure=>omega
     .have d2:((ark:Int)==(2:Int))=false:=(by simp;omega);have HT:Hid (nZ m1 ark ari=m1):=ab (by unfold nZ;rw[if_neg (λh=>h2 h.1)]);clear h2;go_wp2_with fail
      go_roundg (G2-1)
      case rel=>exact⟨2,by omega,by go_num,by rw[if_neg (by decide),if_neg (by decide),<-uh HM1,uh HT],HN⟩
      case measure=>omega
    .rw[if_neg (by decide),if_neg (by decide)];go_wp2_with fail
     go_roundg (G1-1)
     case rel=>exact⟨k+1,by omega,by go_num,by rw[uh dh],hJ⟩
     case measure=>omega
  .have hd:decide ((k:Int)<(al.length:Int))=false:=(by simp;omega);have gJ:al.take k=al:=take_of_length_le (by omega);rw[gJ];clear gJ;go_wp2_with fail
   go_ret;exact⟨rfl,uh hI⟩
end
structure HL where
 q:Nat
 f:Nat
 X:Nat
 o:Nat
 uv:Value
 hv:Value
 av:Value
 ov:Value
structure MA(al:List ci):Prop where
 tm:vm al
 le:al.length<=1000
 bd:∀a∈al,a.lk<=2/\a.rk<=2/\a.li<=100/\a.ri<=100
section
variable {w:World} {Q:Nat} {ws:List ByteArray} {s:PS} {al:List ci} {vv pv nv sv0 lv:Value} {st ls:List Int}
end
def Wj(n:Nd):Bool:=decide (n.op=7\/n.op=8\/n.op=9)
def Qt(n:Nd):Bool:=decide (n.op=4)
theorem sU{α:Type}{l:List α}{P:α->Bool}{i:Nat}(h:i<l.length):(l.take (i+1)).countP P=(l.take i).countP P+if P l[i]=true then 1 else 0:=by
 rw[take_succ_eq_append_getElem h,countP_append];congr 1;by_cases e:P l[i]=true <;> simp[e]
theorem VX{nds:List Nd}{nv:Nat}{al:List ci}{i:Nat}(hi:i<nds.length)(h:iZ nds i=true):My nds nv al=false:=by
 unfold My;have:(range nds.length).any (iZ nds)=true:=by rw[any_eq_true];exact⟨i,mem_range.2 hi,h⟩
 rw[this];rfl
theorem VY{nds:List Nd}{nv:Nat}{al:List ci}{a:ci}(ha:a∈al)(h:a.k=4):My nds nv al=false:=by
 unfold My;have:al.any (λa=>decide (a.k=4))=true:=by rw[any_eq_true];exact⟨a,ha,by simpa using h⟩
 rw[this];simp
theorem abQ{nds:List Nd}{nv:Nat}{al:List ci}(h1:∀i,i<nds.length->iZ nds i=false)(h2:∀a∈al,a.k≠4):My nds nv al=(decide (nds.countP Wj<=5)&&decide (nds.countP Qt<=4)&&decide (nv+yl al<=6)&&decide (nv+yl al+nds.countP Qt<=8)):=by
 unfold My;have e1:(range nds.length).any (iZ nds)=false:=by rw[any_eq_false];intro i hi;rw[h1 i (mem_range.1 hi)];decide
 have e2:al.any (λa=>decide (a.k=4))=false:=by rw[any_eq_false];intro a ha;simpa using h2 a ha
 rw[e1,e2];rfl
section
variable {w:World} {Q:Nat} {ws:List ByteArray} {ps:PS} {al:List ci} {vv pv nv:Value}
theorem Cp.nd(h:Cp w Q ws ps al vv pv nv){i:Nat}(hi:i<ps.nodes.length):∃g cap,nv=.slice (some ⟨g,0,none⟩) ps.nodes.length cap/\w.cell? ⟨g,i*6,none⟩=some (.int .i64 (ps.nodes[i].op:Int))/\w.cell? ⟨g,i*6+1,none⟩=some (.int .i64 (ps.nodes[i].v:Int))/\w.cell? ⟨g,i*6+2,none⟩=some (.int .i64 (ps.nodes[i].ak:Int))/\w.cell? ⟨g,i*6+3,none⟩=some (.int .i64 (ps.nodes[i].ai:Int))/\w.cell? ⟨g,i*6+4,none⟩=some (.int .i64 (ps.nodes[i].nx:Int))/\w.cell? ⟨g,i*6+5,none⟩=some (.int .i64 (ps.nodes[i].ot:Int)):=by
 obtain⟨g,cap,hv,-,-,-⟩:=b8 h.nr (by omega);subst hv;have key:∀j,j<6->w.cell? ⟨g,i*6+j,none⟩=ps.nodes[i].cells[j]?:=λj hj=>by rw[h.nr.cellAt _ (by omega),Qo hi j hj]
 exact⟨g,cap,rfl,key 0 (by omega),key 1 (by omega),key 2 (by omega),key 3 (by omega),key 4 (by omega),key 5 (by omega)⟩
theorem AU(h:Cp w Q ws ps al vv pv nv)(hA:MA al)(jO:ps.nodes.length<=100000)(Gc:ps.vars.length<=1000):
  Calls prog 170 #[.pointer (some ⟨Q,0,none⟩)] w λe w'=>e=.returned (.bool (My ps.nodes ps.vars.length al))/\Below w.heap.size w w':=by
 obtain⟨R,hR⟩:∃R,R=My ps.nodes ps.vars.length al:=⟨_,rfl⟩;rw[<-hR];have Ez:∀a∈al,a.li<=100/\a.ri<=100:=λa ha=>(hA.bd a ha).2.2;have d9:=hA.le;have HH:Hid (∀W,Below w.heap.size w W->Calls prog 196 #[pv] W λe w'=>e=.returned (.int .i64 (yl al:Nat))/\Below W.heap.size W w'):=ab (λW hW=>FO (h.below hW).pr hA.le Ez);have hhl:=Pj al Ez;obtain⟨na,nc,K6,-,-⟩:=am h.nr;obtain⟨va,vc,AL,-,-⟩:=am h.vr;obtain⟨ao,cap,ko,oT,kD,ax⟩:=nS h.pr;subst K6;subst AL;subst ko;have c1:=h.bk.cell 1 rfl;have c2:=h.bk.cell 2 rfl;have c3:=h.bk.cell 3 rfl;have hQl:=h.bk.lt;have H:=ab h;have HR:=ab hR;have HC:=ab ax;obtain⟨nds,Dl⟩:∃nds,nds=ps.nodes:=⟨_,rfl⟩;have HN:Hid (∀i,(hi:i<nds.length)->∃g cap,Value.slice na ps.nodes.length nc=.slice (some ⟨g,0,none⟩) nds.length cap/\w.cell? ⟨g,i*6,none⟩=some (.int .i64 (nds[i].op:Int))/\w.cell? ⟨g,i*6+4,none⟩=some (.int .i64 (nds[i].nx:Int))):=ab (by
  subst Dl;intro i hi;obtain⟨g,cap,e,x0,-,-,-,x4,-⟩:=h.nd hi;exact⟨g,cap,e,x0,x4⟩)
 rw[<-Dl]at c3 jO HN HR;clear h hA hR ax Ez Dl;go_enter func170,ntmps170;go_wp2_with fail
 go_loopg [3,4,5] nds.length (λgn tv nwv iv wx=>∃(k:Nat),k+gn=nds.length/\iv=.int .i64 k/\tv=.int .i64 ((nds.take k).countP Wj:Nat)/\nwv=.int .i64 ((nds.take k).countP Qt:Nat)/\Hid (wx=w/\∀i,i<k->iZ nds i=false))
 case atStart=>exact⟨0,by omega,rfl,rfl,rfl,ab ⟨rfl,λi hi=>by omega⟩⟩
 case round =>
  obtain⟨k,gu,rfl,rfl,rfl,hI⟩:=hrel;obtain⟨G1,ze⟩:∃G1,G1=gk:=⟨_,rfl⟩;obtain⟨hwr,hbj⟩:=uh hI;rw[hwr];clear hwr;have HBJ:=ab hbj;have yu:(nds.take k).countP Wj<=k:=zq3 countP_le_length (by rw[length_take];omega);have kq:(nds.take k).countP Qt<=k:=zq3 countP_le_length (by rw[length_take];omega);clear hI hbj;by_cases au:k<nds.length
  .have hd:decide ((k:Int)<(nds.length:Int))=true:=(by simp;omega);obtain⟨g,cap2,dE,x0,x4⟩:=uh HN k au;simp only[Value.slice.injEq]at dE;obtain⟨rfl,-,rfl⟩:=dE;have hts:=sU (P:=Wj) au;have hnw:=sU (P:=Qt) au;have iA:iZ nds k=(decide (nds[k].op=10)&&decide (nds[k].nx<k)):=(by unfold iZ;rw[bF au]);obtain⟨nd,dF⟩:∃nd,nd=nds[k]:=⟨_,rfl⟩;rw[<-dF]at x0 x4 hts hnw iA;obtain⟨T,hT⟩:∃T,T=(nds.take k).countP Wj:=⟨_,rfl⟩;obtain⟨N,hN⟩:∃N,N=(nds.take k).countP Qt:=⟨_,rfl⟩;rw[<-hT]at hts yu ⊢;rw[<-hN]at hnw kq ⊢;have qn:Hid (iZ nds k=false->∀i,i<k+1->iZ nds i=false):=ab (λe i hi=>by
    by_cases h1:i=k
    .rw[h1];exact e
    .exact uh HBJ i (by omega))
   have k1:(0:Int)<=(k:Int):=(by omega);have k2:(k:Int)<(nds.length:Int):=(by omega);have YA:=ab hts;have WD:=ab hnw;have GY:=ab iA;clear hts hnw iA dF hT hN;have htsB:Wj nd=decide (nd.op=7\/nd.op=8\/nd.op=9):=rfl;have hnwB:Qt nd=decide (nd.op=4):=rfl;by_cases ht:nd.op=7\/nd.op=8\/nd.op=9
   .have Hb:Hid ((nds.take (k+1)).countP Wj=T+1):=ab (by rw[uh YA,htsB,if_pos (by simpa using ht)]);have Em:Hid ((nds.take (k+1)).countP Qt=N):=ab (by rw[uh WD,hnwB,if_neg (by simp;omega),Nat.add_zero]);have eO:Hid (∀i,i<k+1->iZ nds i=false):=ab (uh qn (by rw[uh GY];simp;omega));clear htsB hnwB YA WD GY;rcases ht with ht|ht|ht
    .rw[ht]at x0;go_wp2_with fail
     go_roundg (G1-1)
     case rel=>exact⟨k+1,by omega,by go_num,by rw[uh Hb];go_num,by rw[uh Em],ab ⟨rfl,uh eO⟩⟩
     case measure=>omega
    .rw[ht]at x0;go_wp2_with fail
     go_roundg (G1-1)
     case rel=>exact⟨k+1,by omega,by go_num,by rw[uh Hb];go_num,by rw[uh Em],ab ⟨rfl,uh eO⟩⟩
     case measure=>omega
    .rw[ht]at x0;go_wp2_with fail
     go_roundg (G1-1)
     case rel=>exact⟨k+1,by omega,by go_num,by rw[uh Hb];go_num,by rw[uh Em],ab ⟨rfl,uh eO⟩⟩
     case measure=>omega
   .have Hb:Hid ((nds.take (k+1)).countP Wj=T):=ab (by rw[uh YA,htsB,if_neg (by simpa using ht),Nat.add_zero]);have t7:((nd.op:Int)==(7:Int))=false:=(by simp;omega);have t8:((nd.op:Int)==(8:Int))=false:=(by simp;omega);have t9:((nd.op:Int)==(9:Int))=false:=(by simp;omega);by_cases h4:nd.op=4
    .have Em:Hid ((nds.take (k+1)).countP Qt=N+1):=ab (by rw[uh WD,hnwB,if_pos (by simpa using h4)]);have eO:Hid (∀i,i<k+1->iZ nds i=false):=ab (uh qn (by rw[uh GY];simp;omega));rw[h4]at x0;clear htsB hnwB YA WD GY t7 t8 t9;go_wp2_with fail
     go_roundg (G1-1)
     case rel=>exact⟨k+1,by omega,by go_num,by rw[uh Hb],by rw[uh Em];go_num,ab ⟨rfl,uh eO⟩⟩
     case measure=>omega
    .have Em:Hid ((nds.take (k+1)).countP Qt=N):=ab (by rw[uh WD,hnwB,if_neg (by simpa using h4),Nat.add_zero]);have t4:((nd.op:Int)==(4:Int))=false:=(by simp;omega);by_cases Iu:nd.op=10
     .rw[Iu]at x0;by_cases hb:nd.nx<k
      .have d1:decide ((nd.nx:Int)<(k:Int))=true:=(by simp;omega);have HE:Hid (R=false):=ab (by rw[uh HR];exact VX au (by rw[uh GY];simp[Iu,hb]));clear htsB hnwB YA WD GY t7 t8 t9 t4;go_wp2_with fail
       go_ret;exact⟨aC (uh HE).symm,Below.refl _ _⟩
      .have d1:decide ((nd.nx:Int)<(k:Int))=false:=(by simp;omega);have eO:Hid (∀i,i<k+1->iZ nds i=false):=ab (uh qn (by rw[uh GY];simp[hb]));clear htsB hnwB YA WD GY t7 t8 t9 t4;go_wp2_with fail
       go_roundg (G1-1)
       case rel=>exact⟨k+1,by omega,by go_num,by rw[uh Hb],by rw[uh Em],ab ⟨rfl,uh eO⟩⟩
       case measure=>omega
     .have t10:((nd.op:Int)==(10:Int))=false:=(by simp;omega);have eO:Hid (∀i,i<k+1->iZ nds i=false):=ab (uh qn (by rw[uh GY];simp[Iu]));clear htsB hnwB YA WD GY;go_wp2_with fail
      go_roundg (G1-1)
      case rel=>exact⟨k+1,by omega,by go_num,by rw[uh Hb],by rw[uh Em],ab ⟨rfl,uh eO⟩⟩
      case measure=>omega
  .have hd:decide ((k:Int)<(nds.length:Int))=false:=(by simp;omega);have gJ:nds.take k=nds:=take_of_length_le (by omega);rw[gJ]at yu kq ⊢;have eO:Hid (∀i,i<nds.length->iZ nds i=false):=ab (λi hi=>uh HBJ i (by omega));obtain⟨T,hT⟩:∃T,T=nds.countP Wj:=⟨_,rfl⟩;obtain⟨N,hN⟩:∃N,N=nds.countP Qt:=⟨_,rfl⟩;rw[<-hT]at yu ⊢;rw[<-hN]at kq ⊢;have HTN:=ab (zq2 hT hN);clear gJ hT hN HBJ HN;go_wp2_with fail
   go_loopg [58] al.length (λgn iv wx=>∃(j:Nat),j+gn=al.length/\iv=.int .i64 j/\Hid (Below w.heap.size w wx/\∀i,i<j->∀a,al[i]?=some a->a.k≠4))
   case atStart=>exact⟨0,by omega,rfl,ab ⟨Below.refl _ _,λi hi=>by omega⟩⟩
   case round =>
    obtain⟨j,Co,rfl,hJ⟩:=hrel;obtain⟨G2,FB⟩:∃G2,G2=gk:=⟨_,rfl⟩;by_cases b7:j<al.length
    .have kY:decide ((j:Int)<(al.length:Int))=true:=(by simp;omega);obtain⟨g,rfl,nY,hc⟩:=uh HC (λe=>by rw[e]at b7;simp at b7);obtain⟨x0,x1,x2,x3,x4⟩:=hc j b7;have x0:=((uh hJ).1.cell nY).trans x0;have x1:=((uh hJ).1.cell nY).trans x1;have x2:=((uh hJ).1.cell nY).trans x2;have x3:=((uh hJ).1.cell nY).trans x3;have x4:=((uh hJ).1.cell nY).trans x4;have cW:al[j]?=some al[j]:=getElem?_eq_getElem b7;obtain⟨a,ha⟩:∃a,a=al[j]:=⟨_,rfl⟩;rw[<-ha]at x0 x1 x2 x3 x4 cW;obtain⟨ak,alk,ali,ark,ari⟩:=a;simp only at x0 x1 x2 x3 x4;have El:=ab cW;have f8:Hid (Below w.heap.size w (wr.alloc (.cells #[Value.int .i64 ak,.int .i64 alk,.int .i64 ali,.int .i64 ark,.int .i64 ari] 239))):=ab ((uh hJ).1.trans ((ah wr _).mono (uh hJ).1.size));have k1:(0:Int)<=(j:Int):=(by omega);have k2:(j:Int)<(al.length:Int):=(by omega);clear hc ha cW;by_cases h4:ak=4
     .have d4:((ak:Int)==(4:Int))=true:=(by simp[h4]);have HE:Hid (R=false):=ab (by rw[uh HR];exact VY (mem_of_getElem? (uh El)) h4);clear h4;go_wp2_with fail
      go_ret;exact⟨aC (uh HE).symm,uh f8⟩
     .have d4:((ak:Int)==(4:Int))=false:=(by simp;omega);have xX:=ab h4;clear h4;go_wp2_with fail
      go_roundg (G2-1)
      case rel=>exact⟨j+1,by omega,by go_num,ab ⟨uh f8,λi hi y hy=>by
       by_cases e':i=j
       .rw[e',uh El]at hy;injection hy with hy;rw[<-hy];exact uh xX
       .exact(uh hJ).2 i (by omega) y hy⟩⟩
      case measure=>omega
    .have kY:decide ((j:Int)<(al.length:Int))=false:=(by simp;omega);obtain⟨hb,Dn⟩:=uh hJ;have d2:=(hb.cell hQl).trans c2;have HH2:=ab (uh HH wr hb);obtain⟨V,hV⟩:∃V,V=ps.vars.length:=⟨_,rfl⟩;have asm:V<=1000:=(by rw[hV];exact Gc);rw[<-hV]at HR ⊢;obtain⟨Hn,hHn⟩:∃Hn,Hn=yl al:=⟨_,rfl⟩;rw[<-hHn]at HH2 hhl;have hRe:R=(decide (T<=5)&&decide (N<=4)&&decide (V+Hn<=6)&&decide (V+Hn+N<=8)):=by
      rw[uh HR,abQ (uh eO) (λa ha=>?_),<-(uh HTN).1,<-(uh HTN).2,<-hHn];obtain⟨i,hi⟩:=mem_iff_getElem?.1 ha;exact Dn i (by have:=(List.getElem?_eq_some_iff.1 hi).1;omega) a hi
     obtain⟨M,hM⟩:∃M,M=V+Hn:=⟨_,rfl⟩;rw[<-hM]at hRe;have hq1:IntKind.i64.wrap ((V:Int)+(Hn:Int))=(M:Int):=(by rw[IntKind.wrap_i64];omega);have Ep:=ab hRe;have HB:=ab hb;have hM2:M<=2000:=(by omega);obtain⟨P,hP⟩:∃P,P=M+N:=⟨_,rfl⟩;have hq2:IntKind.i64.wrap ((M:Int)+(N:Int))=(P:Int):=(by rw[IntKind.wrap_i64];omega);rw[<-hP]at Ep;clear hb Dn hV hHn hRe hM hP hJ HR eO HTN HH HC;go_wp2_with fail
     refine(uh HH2).mono ?_;rintro e w5 ⟨rfl,et⟩;have lN:=ab ((uh HB).trans (et.mono (uh HB).size));clear et HB HH2;by_cases p1:T<=5
     .have e1:decide (T<=5)=true:=(by simpa using p1);have e1':decide ((T:Int)<=(5:Int))=true:=(by simp;omega);by_cases p2:N<=4
      .have e2:decide (N<=4)=true:=(by simpa using p2);have e2':decide ((N:Int)<=(4:Int))=true:=(by simp;omega);by_cases p3:M<=6
       .have e3:decide (M<=6)=true:=(by simpa using p3);have e3':decide ((M:Int)<=(6:Int))=true:=(by simp;omega);by_cases p4:P<=8
        .have e4:decide (P<=8)=true:=(by simpa using p4);have e4':decide ((P:Int)<=(8:Int))=true:=(by simp;omega);have HE:Hid (R=true):=ab (by rw[uh Ep,e1,e2,e3,e4];rfl);clear p1 p2 p3 p4 e1 e2 e3 e4;go_wp2_with fail
         go_ret;exact⟨aC (uh HE).symm,uh lN⟩
        .have e4:decide (P<=8)=false:=(by simpa using p4);have e4':decide ((P:Int)<=(8:Int))=false:=(by simp;omega);have HE:Hid (R=false):=ab (by rw[uh Ep,e1,e2,e3,e4];rfl);clear p1 p2 p3 p4 e1 e2 e3 e4;go_wp2_with fail
         go_ret;exact⟨aC (uh HE).symm,uh lN⟩
       .have e3:decide (M<=6)=false:=(by simpa using p3);have e3':decide ((M:Int)<=(6:Int))=false:=(by simp;omega);have HE:Hid (R=false):=ab (by rw[uh Ep,e1,e2,e3];rfl);clear p1 p2 p3 e1 e2 e3;go_wp2_with fail
        go_ret;exact⟨aC (uh HE).symm,uh lN⟩
      .have e2:decide (N<=4)=false:=(by simpa using p2);have e2':decide ((N:Int)<=(4:Int))=false:=(by simp;omega);have HE:Hid (R=false):=ab (by rw[uh Ep,e1,e2];rfl);clear p1 p2 e1 e2;go_wp2_with fail
       go_ret;exact⟨aC (uh HE).symm,uh lN⟩
     .have e1:decide (T<=5)=false:=(by simpa using p1);have e1':decide ((T:Int)<=(5:Int))=false:=(by simp;omega);have HE:Hid (R=false):=ab (by rw[uh Ep,e1];rfl);clear p1 e1;go_wp2_with fail
      go_ret;exact⟨aC (uh HE).symm,uh lN⟩
end
theorem infoBl:(prog.info? 4).map (λi=>(i.zero,i.size,i.bytes))=some (some (.bool false),1,1):=by kernel_rfl
theorem infoEs:(prog.info? 255).map (λi=>(i.zero,i.size,i.bytes))=some (some (.slice none 0 0),1,24):=by kernel_rfl
theorem infoBs:(prog.info? 200).map (λi=>(i.zero,i.size,i.bytes))=some (some (.slice none 0 0),1,24):=by kernel_rfl
theorem Jj{S:Nat}{hv kv wv:Value}{KV WV:List Value}{n:Nat}(v:Value):pA S hv kv wv KV (WV.set n v)=(pA S hv kv wv KV WV).set (4+(KV.length+n)) v.ownBlock:=by
 unfold pA;rw[show 4+(KV.length+n)=(KV.length+n)+1+1+1+1 by omega];simp only[set_cons_succ];rw[set_append_right _ _ (by simp),map_set];simp
structure rC(w W:World)(S:Nat)(c0 hv kv wv:Value)(WV:List Value)(lp:Bool)(hd:List Bool)(bd:Bool)(m i:Nat):Prop where
 bs:Bk W S 229 (qt c0 hv lp kv wv bd 3000 2097152 false)
 hl:hd.length=m
 hr:W.ownsRow 0 4 1 hv m (dl hd)
 kr:W.ownsRow 0 255 1 kv m (replicate m aJ)
 wr:W.ownsRow 0 200 1 wv m WV
 we:∀j,j<i->W.ownsRow 0 4 1 (WV.getD j aJ) 5 (dl (replicate 5 false))
 ap:Apt (pA S hv kv wv (replicate m aJ) WV)
 bl:Below w.heap.size w W
 ge:∀k∈cY S hv kv wv (replicate m aJ) WV,w.heap.size<=k
section
variable {w W W':World} {S:Nat} {c0 hv kv wv:Value} {WV:List Value} {lp bd:Bool} {hd:List Bool} {m i:Nat}
theorem rC.wl(h:rC w W S c0 hv kv wv WV lp hd bd m i):WV.length=m:=by have:=h.wr.1;omega
theorem rC.of_eq(h:rC w W S c0 hv kv wv WV lp hd bd m i)(him:i<=m)(he:∀k∈cY S hv kv wv (replicate m aJ) WV,W'.heap[k]?=W.heap[k]?)(hb:Below w.heap.size w W'):rC w W' S c0 hv kv wv WV lp hd bd m i:=by
 have hw:=h.wl;exact⟨h.bs.of_eq (he S gN),h.hl,ae h.hr (λk hk=>he k (bP (i:=1) (congrArg some hk))),ae h.kr (λk hk=>he k (bP (i:=2) (congrArg some hk))),ae h.wr (λk hk=>he k (bP (i:=3) (congrArg some hk))),λj hj=>ae (h.we j hj) (λk hk=>he k (bP ((Bw (by omega)).trans (congrArg some hk)))),h.ap,hb,h.ge⟩
theorem rC.lt(h:rC w W S c0 hv kv wv WV lp hd bd m i)(hn:∀j,i<=j->WV.getD j aJ=aJ):∀k∈cY S hv kv wv (replicate m aJ) WV,k<W.heap.size:=by
 intro k hk;obtain⟨p,hp⟩:=aU.1 hk;rcases Qv hp with⟨-,rfl⟩|⟨-,e⟩|⟨-,e⟩|⟨-,e⟩|⟨j,hj,-,e⟩|⟨j,hj,-,e⟩
 .exact h.bs.lt
 .exact(h.hr.lt k e).2
 .exact(h.kr.lt k e).2
 .exact(h.wr.lt k e).2
 .have:(replicate m aJ).getD j aJ=aJ:=by rw[length_replicate]at hj;simp[hj]
  rw[this]at e;cases e
 .by_cases hji:j<i
  .exact((h.we j hji).lt k e).2
  .rw[hn j (by omega)]at e;cases e
theorem rC.below(h:rC w W S c0 hv kv wv WV lp hd bd m i)(him:i<=m)(hn:∀j,i<=j->WV.getD j aJ=aJ)(hb:Below W.heap.size W W'):rC w W' S c0 hv kv wv WV lp hd bd m i:=h.of_eq him (λk hk=>hb.block k (h.lt hn k hk)) (h.bl.trans (hb.mono h.bl.size))
theorem rC.row(h:rC w W S c0 hv kv wv WV lp hd bd m i)(him:i<m)(hn:∀j,i<=j->WV.getD j aJ=aJ){o:Obj}(ho:o=.cells (madeCells #[Value.bool false] 5) 4){wB wC:Nat}(SK:wv=.slice (some ⟨wB,0,none⟩) m wC):
  rC w ((W.alloc o).setCell ⟨wB,i,none⟩ (.slice (some ⟨W.heap.size,0,none⟩) 5 5)) S c0 hv kv wv (WV.set i (.slice (some ⟨W.heap.size,0,none⟩) 5 5)) lp hd bd m (i+1)/\∀j,i+1<=j->(WV.set i (.slice (some ⟨W.heap.size,0,none⟩) 5 5)).getD j aJ=aJ:=by
 have hw:=h.wl;have bz:=ah W o;have h1:=h.below (Nat.le_of_lt him) hn bz;have au:=h.lt hn;have mO:W.heap.size<(W.alloc o).heap.size:=by simp
 have hwB:(pA S hv kv wv (replicate m aJ) WV)[3]?=some (some wB):=by rw[SK];rfl
 have hwBl:=au wB (bP hwB);have hwBg:=h.ge wB (bP hwB);obtain⟨v,hv0⟩:∃v,v=Value.slice (some ⟨W.heap.size,0,none⟩) 5 5:=⟨_,rfl⟩;have UP:v.ownBlock=some W.heap.size:=by rw[hv0];rfl
 rw[<-hv0];have aH:∀p k,p≠3->(pA S hv kv wv (replicate m aJ) WV)[p]?=some (some k)->((W.alloc o).setCell ⟨wB,i,none⟩ v).heap[k]?=(W.alloc o).heap[k]?:=λp k hp hk=>heap_setCell _ _ _ _ (λe=>hp (h.ap p 3 k hk (by rw[hwB,show k=wB from e])));have cS:∀j,j≠i->(WV.set i v).getD j aJ=WV.getD j aJ:=λj hj=>by rw[getD_eq_getElem?_getD,getElem?_set_ne (λe=>hj e.symm),<-getD_eq_getElem?_getD]
 have tK:∀k,W.heap.size=k->∀p,(pA S hv kv wv (replicate m aJ) WV)[p]?≠some (some k):=λk hk p hp=>by have:=au k (bP hp);omega
 refine⟨⟨h1.bs.of_eq (aH 0 S (by omega) rfl),h.hl,ae h1.hr (λk hk=>aH 1 k (by omega) (congrArg some hk)),ae h1.kr (λk hk=>aH 2 k (by omega) (congrArg some hk)),?_,λj hj=>?_,?_,h1.bl.setCell (p:=⟨wB,i,none⟩) hwBg _,λk hk=>?_⟩,λj hj=>by rw[cS j (by omega)];exact hn j (by omega)⟩
 .have:=h1.wr;rw[SK]at this ⊢;exact(this.stored i v).1
 .by_cases hji:j=i
  .subst hji;have e1:(WV.set j v).getD j aJ=v:=(by rw[getD_eq_getElem?_getD,getElem?_set_self (by omega)];rfl);rw[e1,hv0];have h2:=ownsRow_lit (base:=0) (e:=4) (size:=1) W (madeCells #[Value.bool false] 5) 5 (zq5 _) (by simp[maxLen]) (by simp[madeCells]);rw[toList_madeCells_one,<-ho]at h2;exact cE h2 (p:=⟨wB,j,none⟩) (by show some W.heap.size≠some wB;intro e;injection e with e;omega) _
  .rw[cS j hji];refine ae (h1.we j (by omega)) (λk hk=>aH (4+((replicate m aJ).length+j)) k (by omega) ((Bw (by omega)).trans (congrArg some hk)))
 .rw[Jj];refine h.ap.set _ (λk hk=>zq1 (tK k ?_));rw[UP]at hk;injection hk
 .obtain⟨p,hp⟩:=aU.1 hk;rw[Jj,getElem?_set]at hp;split at hp
  .split at hp
   .simp only[Option.some.injEq]at hp;rw[UP]at hp;injection hp with hp;rw[<-hp];exact h.bl.size
   .simp at hp
  .exact h.ge k (bP hp)
theorem rC.head(h:rC w W S c0 hv kv wv WV lp hd bd m i)(him:i<=m){n hB hC:Nat}(hhv:hv=.slice (some ⟨hB,0,none⟩) m hC):rC w (W.setCell ⟨hB,n,none⟩ (.bool true)) S c0 hv kv wv WV lp (hd.set n true) bd m i:=by
 have hw:=h.wl;have hhB:(pA S hv kv wv (replicate m aJ) WV)[1]?=some (some hB):=by rw[hhv];rfl
 have aH:∀p k,p≠1->(pA S hv kv wv (replicate m aJ) WV)[p]?=some (some k)->(W.setCell ⟨hB,n,none⟩ (.bool true)).heap[k]?=W.heap[k]?:=λp k hp hk=>heap_setCell _ _ _ _ (λe=>hp (h.ap p 1 k hk (by rw[hhB,show k=hB from e])));refine⟨h.bs.of_eq (aH 0 S (by omega) rfl),by rw[length_set];exact h.hl,?_,ae h.kr (λk hk=>aH 2 k (by omega) (congrArg some hk)),ae h.wr (λk hk=>aH 3 k (by omega) (congrArg some hk)),λj hj=>ae (h.we j hj) (λk hk=>aH _ k (by omega) ((Bw (by omega)).trans (congrArg some hk))),h.ap,h.bl.setCell (p:=⟨hB,n,none⟩) (h.ge hB (bP hhB)) _,h.ge⟩;have:=h.hr;rw[hhv]at this ⊢;have h2:=(this.stored n (.bool true)).1;have e:(dl hd).set n (.bool true)=dl (hd.set n true):=by unfold dl;rw[map_set]
 rw[e]at h2;exact h2
theorem rC.loop(h:rC w W S c0 hv kv wv WV lp hd bd m i)(him:i<=m):rC w (W.setCell ⟨S,2,none⟩ (.bool true)) S c0 hv kv wv WV true hd bd m i:=by
 have hw:=h.wl;have aH:∀p k,p≠0->(pA S hv kv wv (replicate m aJ) WV)[p]?=some (some k)->(W.setCell ⟨S,2,none⟩ (.bool true)).heap[k]?=W.heap[k]?:=λp k hp hk=>heap_setCell _ _ _ _ (λe=>hp (h.ap p 0 k hk (by rw[show k=S from e];rfl)));exact⟨h.bs.set 2 (.bool true),h.hl,ae h.hr (λk hk=>aH 1 k (by omega) (congrArg some hk)),ae h.kr (λk hk=>aH 2 k (by omega) (congrArg some hk)),ae h.wr (λk hk=>aH 3 k (by omega) (congrArg some hk)),λj hj=>ae (h.we j hj) (λk hk=>aH _ k (by omega) ((Bw (by omega)).trans (congrArg some hk))),h.ap,h.bl.setCell (p:=⟨S,2,none⟩) (h.ge S gN) _,h.ge⟩
end
