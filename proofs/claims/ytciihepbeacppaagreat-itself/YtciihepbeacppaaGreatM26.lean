import Derived.Test.YtciihepbeacppaaGreatM25
import Derived.Deep.RegionWith
set_option maxRecDepth 100000
set_option maxHeartbeats 0
namespace Go.Proofs.YtciihepbeacppaaGreat
open Tryz Go.RowKit List World Below
set_option linter.unusedVariables false
section
variable {w W:World} {S:Nat} {c:Cd} {c0 hv kv wv:Value} {KV WV:List Value} {K:List (List En)} {s:Sr} {n:Nat} {l:List En}
def iH(l:List En)(k:Nat):List En:=(l.take k).filter (λe=>!e.d)
theorem Jx{l:List En}{k:Nat}(h:k<l.length):iH l (k+1)=iH l k++if l[k].d=true then [] else [l[k]]:=by
 unfold iH;rw[Gp h];congr 1;cases l[k].d <;> rfl
theorem SU(l:List En)(k:Nat):(iH l k).length<=l.length:=zq3 (length_filter_le _ _) (by rw[length_take];omega)
theorem Sh.lE(h:Sh w S c c0 hv kv wv KV WV K s){k g cap n:Nat}{l:List En}(hn:n<K.length)(hl:l=K.getD n [])(hg:KV.getD n aF=.slice (some ⟨g,0,none⟩) l.length cap)(hk:k<l.length):w.cell? ⟨g,k*2,none⟩=some (.pointer (some ⟨l[k].D,0,none⟩))/\w.cell? ⟨g,k*2+1,none⟩=some (.bool l[k].d)/\w.frozen? ⟨g,k*2+1,none⟩=false:=by
 have h1:=h.ke n hn;rw[hg,<-hl]at h1;obtain⟨h2,h3⟩:=lR h1 rfl hk;exact⟨h2,h3,h1.frozenAt _⟩
theorem QC{Q:Nat}{ws:List ByteArray}{ps:PS}{al:List bC}{vv pv nvv:Value}(h:Sh w S c (.pointer (some ⟨Q,0,none⟩)) hv kv wv KV WV K s)(hC:Cp w Q ws ps al vv pv nvv)(hCd:∀k∈Ar Q vv pv nvv,k ∉ cI S hv kv wv KV WV)(fQ:c.nds=ps.nodes)(hN:vu c.nds)(hn:n<K.length)(vX:K.length<=100000){fuel:Nat}(bf:(qd c fuel n s).ok=true)(oh:(bh s n).length<=rX+1):
  Calls prog 142 #[.pointer (some ⟨S,0,none⟩),.int .i64 n] w λe w'=>e=.returned (.tuple #[])/\gf w S c (.pointer (some ⟨Q,0,none⟩)) hv kv wv KV WV K [] (qd c fuel n s) w':=by
 obtain⟨i0,iL,eo,ep,eK⟩:=info_parts infoPF;obtain⟨kB,kC,BX,-⟩:=h.kc hn;subst BX;obtain⟨l,hl⟩:∃l,l=K.getD n []:=⟨_,rfl⟩;have eV:=h.knE n;rw[<-hl]at eV;rw[eV,length_map]at oh;have GP:l.length<=1000000000001:=by unfold rX at oh;omega
 obtain⟨va,vc,y7,OA,TL⟩:=aj (h.ke n hn);rw[<-hl]at y7 OA;have hlK:l∈K:=by rw[hl,bD hn];exact getElem_mem hn
 obtain⟨s1,cY⟩:∃s1:Sr,s1={ s with kn:=s.kn.set n ((eP l l.length).map En.m) }:=⟨_,rfl⟩;have hvi:qd c fuel n s=lL c fuel n ((l.filter (λe=>!e.d)).map (λe=>e.x.f)) s1:=by
  unfold qd;rw[eV,cY,Sz (zq4 _)];have e1:kH (l.map En.m)=(l.filter (λe=>!e.d)).map (λe=>e.x.f):=by
   unfold kH;rw[filter_map,map_map];rfl
  have e2:(l.map En.m).map (λe=>(⟨e.f,true⟩:f9))=(l.map En.dn).map En.m:=by
   rw[map_map,map_map];rfl
  rw[e1,e2]
 rw[hvi]at bf ⊢;obtain⟨R,hR⟩:∃R,R=lL c fuel n ((l.filter (λe=>!e.d)).map (λe=>e.x.f)) s1:=⟨_,rfl⟩;rw[<-hR]at bf ⊢;have H0:Hid (Sh w S c (.pointer (some ⟨Q,0,none⟩)) hv (.slice (some ⟨kB,0,none⟩) K.length kC) wv KV WV (K.set n (eP l 0)) { s with kn:=s.kn.set n ((eP l 0).map En.m) }):=ab (by
  rw[Mz];have e1:K.set n l=K:=by rw[hl,mo hn]
  have e2:s.kn.set n (l.map En.m)=s.kn:=by
   rw[<-eV];exact mo (by rw[h.km,length_map];exact hn)
  rw[e1,e2];exact h)
 have KO:=hC.lt;have HA:=ab (zq2 h (zq2 hC (zq2 hCd (zq2 fQ hN))));have HL:=ab (zq2 hl hlK);have XN:=ab y7;have HR:=ab hR;have bT:=ab cY;have kW:=ab bf;obtain⟨dQ,dg⟩:∃dQ:World->Prop,dQ=λw'=>gf w S c (.pointer (some ⟨Q,0,none⟩)) hv (.slice (some ⟨kB,0,none⟩) K.length kC) wv KV WV K [] R w':=⟨_,rfl⟩;have fD:=ab dg;rw[show(fun(e:Ending) (w':World)=>e=.returned (.tuple #[])/\gf w S c (.pointer (some ⟨Q,0,none⟩)) hv (.slice (some ⟨kB,0,none⟩) K.length kC) wv KV WV K [] R w')=(λe w'=>e=.returned (.tuple #[])/\dQ w') by rw[dg]];have i1:(0:Int)<=(n:Int):=by omega
 have i2:(n:Int)<(K.length:Int):=by omega
 have bX:Hid ((w.alloc (.cells #[] 126)).ownsRow w.heap.size 126 1 (.slice (some ⟨w.heap.size,0,none⟩) 0 0) (iH l 0).length ((iH l 0).map (λe=>e.x.p))/\gb w (w.alloc (.cells #[] 126)) (cI S hv (.slice (some ⟨kB,0,none⟩) K.length kC) wv KV WV) (cI S hv (.slice (some ⟨kB,0,none⟩) K.length kC) wv KV WV) (dK K) (dK K) []/\Sh (w.alloc (.cells #[] 126)) S c (.pointer (some ⟨Q,0,none⟩)) hv (.slice (some ⟨kB,0,none⟩) K.length kC) wv KV WV (K.set n (eP l 0)) { s with kn:=s.kn.set n ((eP l 0).map En.m) }):=ab ⟨ownsRow_lit (base:=w.heap.size) (e:=126) (size:=1) w #[] 0 (zq4 _) (by simp[maxLen]) rfl,gb.below (ah w _),(uh H0).below (ah w _)⟩;clear h hC hCd fQ hN hl hlK y7 hvi bf hR cY eV oh dg H0 KO;go_enter func142,ntmps142;go_wp2_with fail
 go_loopg [4,5] l.length (λgn fv iv wx=>∃(k:Nat),k+gn=l.length/\iv=.int .i64 k/\Hid (wx.ownsRow w.heap.size 126 1 fv (iH l k).length ((iH l k).map (λe=>e.x.p))/\gb w wx (cI S hv (.slice (some ⟨kB,0,none⟩) K.length kC) wv KV WV) (cI S hv (.slice (some ⟨kB,0,none⟩) K.length kC) wv KV WV) (dK K) (dK K) []/\Sh wx S c (.pointer (some ⟨Q,0,none⟩)) hv (.slice (some ⟨kB,0,none⟩) K.length kC) wv KV WV (K.set n (eP l k)) { s with kn:=s.kn.set n ((eP l k).map En.m) }))
 case atStart=>exact⟨0,by omega,rfl,bX⟩
 case round =>
  clear bX;obtain⟨k,eV,rfl,hI⟩:=hrel;obtain⟨G1,yJ⟩:∃G1,G1=gk:=⟨_,rfl⟩;obtain⟨h1,h2,h3⟩:=uh hI;obtain⟨fa,fc,Wt,-,-⟩:=aj h1;subst Wt;have xt:(K.set n (eP l k)).length=K.length:=length_set;have c3:=h3.bs.cell 3 rfl;obtain⟨kB',kC',pA,ckc⟩:=h3.kc (n:=n) (by rw[xt];exact hn);simp only[Value.slice.injEq,Option.some.injEq,Addr.mk.injEq,and_true]at pA;obtain⟨rfl,-,rfl⟩:=pA;rw[uh XN]at ckc;by_cases aq:k<l.length
  .have hd:decide ((k:Int)<(l.length:Int))=true:=(by simp;omega);obtain⟨g,cap,cM⟩:∃g cap,KV.getD n aF=.slice (some ⟨g,0,none⟩) l.length cap:=by
    have h4:=h3.ke n (by rw[xt];exact hn);have e2:(K.set n (eP l k)).getD n []=eP l k:=(by simp[hn]);rw[e2,cF]at h4;obtain⟨g,cap,h5,-,-,-⟩:=bM h4 (by omega);exact⟨g,cap,h5⟩
   have cZ:=cM;rw[uh XN]at cZ;simp only[Value.slice.injEq,true_and]at cZ;obtain⟨rfl,rfl⟩:=cZ;have e2:(K.set n (eP l k)).getD n []=eP l k:=(by simp[hn]);obtain⟨x0,x1,xz⟩:=h3.lE (k:=k) (l:=eP l k) (by rw[xt];exact hn) e2.symm (by rw[cF];exact cM) (by rw[cF];exact aq);have hek:(eP l k)[k]'(by rw[cF];exact aq)=l[k]:=by
    have h6:=yA aq;rw[getElem?_eq_getElem (by rw[cF];exact aq)]at h6;injection h6
   rw[hek]at x0 x1;have aE:=Jx aq;have k1:(0:Int)<=(k:Int):=(by omega);have k2:(k:Int)<(l.length:Int):=(by omega);cases KS:l[k].d
   .rw[KS]at x1 aE;rw[if_neg (by decide)]at aE;obtain⟨h4,vB⟩:=h3.done hn aq cM;obtain⟨W4,vY⟩:∃W4,W4=wr.setCell ⟨g,k*2+1,none⟩ (.bool true):=⟨_,rfl⟩;rw[<-vY]at h4;have hsW:ar [g] wr [g] W4:=(by rw[vY];exact(ar.refl [g] wr).setCell (p:=⟨g,k*2+1,none⟩) (zq0 (by simp)) (.bool true));have YM:(K.set n (eP l (k+1))).length=K.length:=length_set;have d3:=h4.bs.cell 3 rfl;obtain⟨kB',kC',pA,dkc⟩:=h4.kc (n:=n) (by rw[YM];exact hn);simp only[Value.slice.injEq,Option.some.injEq,Addr.mk.injEq,and_true]at pA;obtain⟨rfl,-,rfl⟩:=pA;rw[cM]at dkc;have e3:(K.set n (eP l (k+1))).getD n []=eP l (k+1):=(by simp[hn]);obtain⟨z0,z1,-⟩:=h4.lE (k:=k) (l:=eP l (k+1)) (by rw[YM];exact hn) e3.symm (by rw[cF];exact cM) (by rw[cF];exact aq);have hdD:((eP l (k+1))[k]'(by rw[cF];exact aq)).D=l[k].D:=by
     have h6:(eP l (k+1))[k]?=some l[k].dn:=(by rw[ph aq,getElem?_set_self (by rw[cF];exact aq)]);rw[getElem?_eq_getElem (by rw[cF];exact aq)]at h6;injection h6 with h6;rw[h6];rfl
    rw[hdD]at z0;have Wx:eP l (k+1)∈K.set n (eP l (k+1)):=mem_iff_getElem?.2 ⟨n,by rw[getElem?_set_self hn]⟩;have hem:l[k].dn∈eP l (k+1):=mem_iff_getElem?.2 ⟨k,by rw[ph aq,getElem?_set_self (by rw[cF];exact aq)]⟩;have fs:=(h4.dr _ Wx _ hem).1.fo;have afl:W4.cell? ⟨l[k].D,0,none⟩=some (.pointer (some ⟨l[k].x.A,0,none⟩)):=fs;have nD:=h1.lt;have k9:=h3.lt g vB;have hgw:=(uh HA).1.lt g vB;have VC:Hid (W4.ownsRow w.heap.size 126 1 (.slice fa (iH l k).length fc) (iH l k).length ((iH l k).map (λe=>e.x.p))):=ab (ae h1 (λq hq=>hsW.block q (nD q hq).2 (λe=>by
     rw[mem_singleton]at e;have:=(nD q hq).1;omega)))
    have KT:=h2.trans (gb.stp (X:=[]) hsW (λq hq=>zq0 (by rw[mem_singleton]at hq;rw[hq];exact vB))) (λq hq=>by simp at hq);have jE:=SU l k;have arD:=KT.st.size;obtain⟨Dk,S6⟩:∃Dk,Dk=l[k].D:=⟨_,rfl⟩;obtain⟨Ak,hAk⟩:∃Ak,Ak=l[k].x.A:=⟨_,rfl⟩;rw[<-S6]at x0 z0 afl;rw[<-hAk]at afl;have H4:=ab (zq2 h4 (zq2 KT (zq2 aE hAk)));clear h1 h2 h3 vB hsW hek e2 e3 YM hdD Wx hem fs nD k9 hgw h4 KT KS S6 hAk aE hI xt cM;go_upto_region 6 with fail;rw[<-vY];clear vY c3 ckc x0 x1 xz z1;go_wp2_with (at_builtin;refine rS _ rfl (.tmp 42) (.tmp 57) 125 rfl w.heap.size 126 i0 _ 1 8 underlying125 iL eo ep eK rfl (by decide) _ (iH l k).length ((iH l k).map (λe=>e.x.p)) rfl ((uh VC).alloc _) ⟨_,0,none⟩ 1 [.pointer (some ⟨Ak,0,none⟩)] rfl rfl (aP _ _ (by simp) [.pointer (some ⟨Ak,0,none⟩)] _) (by intro u hu;simp only[mem_singleton]at hu;subst hu;rfl) (by omega) (by omega) (by simp;omega) ?_)
    intro g7 cap7 w7 gN di eU;have xG:=kf di (by simpa using eU);have AE:=(uh VC).lt;have JU:∀q,q<w.heap.size->q ∉ (Value.slice fa (iH l k).length fc).ownBlock.toList:=λq hq e=>by
     have:=(AE q (by simpa using e)).1;omega
    obtain⟨h4,KT,aE,hAk⟩:=uh H4;have hKV:∀q∈cI S hv (.slice (some ⟨kB,0,none⟩) K.length kC) wv KV WV,q<w.heap.size:=(uh HA).1.lt;have hKD:∀q∈dK (K.set n (eP l (k+1))),q<w.heap.size:=λq hq=>(uh HA).1.drlt q ((Bh (uh HL).1 hn (k+1) q).1 hq);have h7:=h4.stp xG (λq hq=>JU q (hKV q hq)) (λq hq=>JU q (hKD q hq));have hg7:gb w w7 (cI S hv (.slice (some ⟨kB,0,none⟩) K.length kC) wv KV WV) (cI S hv (.slice (some ⟨kB,0,none⟩) K.length kC) wv KV WV) (dK K) (dK K) []:=KT.trans (gb.stp (X:=(Value.slice fa (iH l k).length fc).ownBlock.toList) xG (λq hq=>zq1 hq)) (λq hq=>zq1 (AE q (by simpa using hq)).1);have WK:w7.ownsRow w.heap.size 126 1 (.slice (some ⟨g7,0,none⟩) ((iH l k).length+1) cap7) (iH l (k+1)).length ((iH l (k+1)).map (λe=>e.x.p)):=by
     rw[aE,length_append,map_append];have e5:[l[k]].map (λe=>e.x.p)=[Value.pointer (some ⟨Ak,0,none⟩)]:=(by rw[hAk];rfl);rw[e5];exact gN
    have HN:=ab (zq2 WK (zq2 hg7 h7));clear gN di eU xG AE JU h4 KT aE hAk hKV hKD h7 hg7 WK H4 VC;go_wp2_with fail
    go_roundg (G1-1)
    case rel=>exact⟨k+1,by omega,by go_num,HN⟩
    case measure=>omega
   .have e4:=My aq KS;rw[KS]at x1 aE;rw[if_pos rfl,append_nil]at aE;have HN:Hid (wr.ownsRow w.heap.size 126 1 (.slice fa (iH l k).length fc) (iH l (k+1)).length ((iH l (k+1)).map (λe=>e.x.p))/\gb w wr (cI S hv (.slice (some ⟨kB,0,none⟩) K.length kC) wv KV WV) (cI S hv (.slice (some ⟨kB,0,none⟩) K.length kC) wv KV WV) (dK K) (dK K) []/\Sh wr S c (.pointer (some ⟨Q,0,none⟩)) hv (.slice (some ⟨kB,0,none⟩) K.length kC) wv KV WV (K.set n (eP l (k+1))) { s with kn:=s.kn.set n ((eP l (k+1)).map En.m) }):=ab (by rw[aE,e4];exact⟨h1,h2,h3⟩);clear h1 h2 h3 hek e2 xt KS aE hI cM e4;go_wp2_with fail
    go_roundg (G1-1)
    case rel=>exact⟨k+1,by omega,by go_num,HN⟩
    case measure=>omega
  .have hd:decide ((k:Int)<(l.length:Int))=false:=(by simp;omega);have jf:k=l.length:=(by omega);have hFR:iH l k=l.filter (λe=>!e.d):=(by unfold iH;rw[take_of_length_le (by omega)]);have hDN:eP l k=eP l l.length:=(by rw[jf]);rw[hFR]at h1 ⊢;rw[hDN]at h3;rw[<-uh bT]at h3;obtain⟨FR,Ta⟩:∃FR,FR=l.filter (λe=>!e.d):=⟨_,rfl⟩;have hR:=uh HR;rw[<-Ta]at h1 hR ⊢;have hFl:FR.length<=l.length:=(by rw[Ta];exact length_filter_le _ _);have ED:∀q,(Value.slice fa FR.length fc).ownBlock=some q->q ∉ (cI S hv (.slice (some ⟨kB,0,none⟩) K.length kC) wv KV WV):=λq hq e=>by
    have h7:=(h1.lt q hq).1;have h8:=(uh HA).1.lt q e;omega
   have JP:gb w wr (cI S hv (.slice (some ⟨kB,0,none⟩) K.length kC) wv KV WV) (cI S hv (.slice (some ⟨kB,0,none⟩) K.length kC) wv KV WV) (dK K) (dK (K.set n (eP l l.length))) []:=⟨h2.st,λq hq=>zq0 ((Bh (uh HL).1 hn l.length q).1 hq)⟩;have bX:=ab (zq2 h3 (zq2 JP (zq2 h1 (zq2 ED hR))));have HFM:Hid (∀e∈FR,e∈l):=ab (λe he=>by rw[Ta]at he;exact(mem_filter.1 he).1);clear h1 h2 h3 hI hFR hDN Ta hR ED JP xt eV jf HR bT;go_wp2_with fail
   go_loopg [6] FR.length (λgn iv wx=>∃(j:Nat) (KV':List Value) (K':List (List En)) (s':Sr),j+gn=FR.length/\iv=.int .i64 j/\Hid (Sh wx S c (.pointer (some ⟨Q,0,none⟩)) hv (.slice (some ⟨kB,0,none⟩) K.length kC) wv KV' WV K' s'/\K'.length=K.length/\gb w wx (cI S hv (.slice (some ⟨kB,0,none⟩) K.length kC) wv KV WV) (cI S hv (.slice (some ⟨kB,0,none⟩) K.length kC) wv KV' WV) (dK K) (dK K') []/\wx.ownsRow w.heap.size 126 1 (.slice fa FR.length fc) FR.length (FR.map (λe=>e.x.p))/\(∀q,(Value.slice fa FR.length fc).ownBlock=some q->q ∉ (cI S hv (.slice (some ⟨kB,0,none⟩) K.length kC) wv KV' WV))/\lL c fuel n ((FR.drop j).map (λe=>e.x.f)) s'=R))
   case atStart=>exact⟨0,KV,_,s1,by omega,rfl,ab ⟨(uh bX).1,length_set,(uh bX).2.1,(uh bX).2.2.1,(uh bX).2.2.2.1,by rw[drop_zero];exact(uh bX).2.2.2.2.symm⟩⟩
   case round =>
    clear bX;obtain⟨j,KV',K',s',xD,rfl,hI⟩:=hrel;obtain⟨G2,BF⟩:∃G2,G2=gk:=⟨_,rfl⟩;obtain⟨h1,h2,h3,h4,h5,h6⟩:=uh hI;have c8:=h1.bs.cell 8 rfl;have Nc:s'=R->Hid (dQ wr):=λe=>ab (by rw[uh fD,<-e];exact⟨KV',K',h1,h2,h3⟩);by_cases aq:j<FR.length
    .have jb:decide ((j:Int)<(FR.length:Int))=true:=(by simp;omega);have jm:FR.drop j=FR[j]::FR.drop (j+1):=drop_eq_getElem_cons aq;rw[jm,map_cons]at h6;unfold lL at h6;cases dW:s'.fu
     .rw[dW]at c8 h6;rw[if_neg (by decide)]at h6;obtain⟨g2,cap2,cZ,-,-,-⟩:=bM h4 (by omega);simp only[Value.slice.injEq,true_and]at cZ;obtain⟨rfl,rfl⟩:=cZ;have aw:wr.cell? ⟨g2,j,none⟩=some (.pointer (some ⟨FR[j].x.A,0,none⟩)):=by
       rw[h4.cellAt j (by omega),getElem?_map,getElem?_eq_getElem aq];rfl
      have mY:=uh HFM _ (getElem_mem aq);have xy:=(uh HA).1.dr l (uh HL).2 _ mY;have hbK:∀q∈FR[j].x.bs,q∈dK K:=λq hq=>bu.2 ⟨l,(uh HL).2,_,mY,mem_cons_of_mem _ hq⟩;have hbn:∀q,q<w.heap.size->q ∉ (cI S hv (.slice (some ⟨kB,0,none⟩) K.length kC) wv KV WV)->q ∉ (cI S hv (.slice (some ⟨kB,0,none⟩) K.length kC) wv KV' WV)/\wr.heap[q]?=w.heap[q]?:=λq hq qQ=>⟨λe=>by
       rcases h3.st.foot q e with p|p
       .exact qQ (by simpa using p)
       .omega,h3.st.block q hq (by simpa using qQ)⟩
      have bQ:∀q∈FR[j].x.bs,q ∉ (cI S hv (.slice (some ⟨kB,0,none⟩) K.length kC) wv KV' WV)/\wr.heap[q]?=w.heap[q]?:=λq hq=>hbn q ((uh HA).1.drlt q (hbK q hq)) ((uh HA).1.da q (hbK q hq));have hFw:=xy.1.ff.of_eq (w':=wr) (λq hq=>(bQ q hq).2);have hCp:=(uh HA).2.1.of_eq (w':=wr) (λq hq=>(hbn q ((uh HA).2.1.lt q hq) ((uh HA).2.2.1 q hq)).2);have pB:(nH c fuel n FR[j].x.f s').ok=true:=qc _ (by rw[h6];exact uh kW);have XM:=ab (U0 h1 hCp (uh HA).2.2.2.1 (uh HA).2.2.2.2 hFw xy.2 (λq hq=>(bQ q hq).1) (n:=n) (by omega) (by omega) pB);have HI:=ab (zq2 h2 (zq2 h3 (zq2 h4 (zq2 h5 h6))));obtain⟨Aj,hAj⟩:∃Aj,Aj=FR[j].x.A:=⟨_,rfl⟩;rw[<-hAj]at aw XM;have k1:(0:Int)<=(j:Int):=(by omega);have k2:(j:Int)<(FR.length:Int):=(by omega);clear h1 h2 h3 h4 h5 h6 mY xy hbK hbn bQ hFw hCp pB hAj jm hI Nc dW;go_wp2_with fail
      refine(uh XM).mono ?_;rintro e w5 ⟨rfl,rU,K2,q1,q2,q3⟩;obtain⟨h2,h3,h4,h5,h6⟩:=uh HI;have yW:=ae h4 (λq hq=>q3.st.block q (h4.lt q hq).2 (by simpa using h5 q hq));have hq5:∀q,(Value.slice (some ⟨g2,0,none⟩) FR.length fc).ownBlock=some q->q ∉ cI S hv (.slice (some ⟨kB,0,none⟩) K.length kC) wv rU WV:=λq hq e=>by
       rcases q3.st.foot q e with p|p
       .exact h5 q hq (by simpa using p)
       .have:=(h4.lt q hq).2;omega
      have HN:=ab (zq2 q1 (zq2 (q2.trans h2) (zq2 (h3.trans q3 (λq hq=>by simp at hq)) (zq2 yW (zq2 hq5 h6)))));clear q1 q2 q3 h2 h3 h4 h5 h6 yW hq5 XM HI c8 aw;go_wp2_with fail
      go_roundg (G2-1)
      case rel=>exact⟨j+1,rU,K2,_,by omega,by go_num,HN⟩
      case measure=>omega
     .rw[dW]at c8 h6;rw[if_pos rfl]at h6;have HP:=Nc h6;clear h1 h2 h3 h4 h5 h6 jm hI Nc dW;go_wp2_with fail
      go_end0
      exact⟨rfl,uh HP⟩
    .have jb:decide ((j:Int)<(FR.length:Int))=false:=(by simp;omega);rw[drop_eq_nil_of_le (by omega)]at h6;have HP:=Nc h6;clear h1 h2 h3 h4 h5 h6 hI Nc;go_wp2_with fail
     go_end0
     exact⟨rfl,uh HP⟩
end
theorem Pu{s:Sr}{n:Nat}(hn:n<s.kn.length)(h1:(s.kn[n]).any (λe=>!e.d)=true)(h2:∀m,m<n->∀l,s.kn[m]?=some l->l.any (λe=>!e.d)=false):E1 s=some n:=by
 unfold E1;rw[findIdx?_eq_some_iff_getElem];refine⟨hn,h1,λj hj=>?_⟩;rw[h2 j hj _ (getElem?_eq_getElem (by omega))];decide
theorem Pt{s:Sr}(h2:∀(m:Nat) (l:List f9),s.kn[m]?=some l->l.any (λe=>!e.d)=false):E1 s=none:=by
 unfold E1;rw[findIdx?_eq_none_iff];intro l hl;obtain⟨m,hm⟩:=mem_iff_getElem?.1 hl;exact h2 m l hm
section
variable {w:World} {S:Nat} {c:Cd} {c0 hv kv wv:Value} {KV WV:List Value} {K:List (List En)} {s:Sr}
theorem Sh.kn_at(h:Sh w S c c0 hv kv wv KV WV K s){m:Nat}{l:List f9}(hl:s.kn[m]?=some l):∃L,K[m]?=some L/\l=L.map En.m:=by
 rw[h.km,getElem?_map]at hl;cases hk:K[m]? with
 |none=>rw[hk]at hl;simp at hl
 |some L=>rw[hk]at hl;exact⟨L,rfl,by simpa[eq_comm] using hl⟩
theorem uG(h:Sh w S c c0 hv kv wv KV WV K s)(vX:K.length<=100000):
  Calls prog 141 #[.pointer (some ⟨S,0,none⟩)] w λe w'=>e=.returned (.int .i64 (dp (E1 s)))/\Below w.heap.size w w':=by
 obtain⟨R,hR⟩:∃R,R=dp (E1 s):=⟨_,rfl⟩;rw[<-hR];obtain⟨ka,kC,BX,-,-⟩:=aj h.kr;subst BX;have bX:Hid (Below w.heap.size w w/\∀m,m<0->∀L,K[m]?=some L->L.any (λe=>!e.d)=false):=ab ⟨Below.refl _ _,λm hm=>by omega⟩;have H:=ab h;have HR:=ab hR;have Xp:Hid (∀L:List En,(L.map En.m).any (λe=>!e.d)=L.any (λe=>!e.d)):=ab (λL=>by rw[any_map];rfl);clear h hR;go_enter func141,ntmps141;go_wp2_with fail
 go_loopg [3] K.length (λgn iv wx=>∃(k:Nat),k+gn=K.length/\iv=.int .i64 k/\Hid (Below w.heap.size w wx/\∀m,m<k->∀L,K[m]?=some L->L.any (λe=>!e.d)=false))
 case atStart=>exact⟨0,by omega,rfl,bX⟩
 case round =>
  clear bX;obtain⟨k,eV,rfl,hI⟩:=hrel;obtain⟨G1,yJ⟩:∃G1,G1=gk:=⟨_,rfl⟩;have h1:=(uh H).below (uh hI).1;have c3:=h1.bs.cell 3 rfl;by_cases aq:k<K.length
  .have hd:decide ((k:Int)<(K.length:Int))=true:=(by simp;omega);obtain⟨kB',kC',pA,ckc⟩:=h1.kc aq;simp only[Value.slice.injEq,true_and]at pA;obtain⟨rfl,rfl⟩:=pA;obtain⟨L,hL⟩:∃L,L=K.getD k []:=⟨_,rfl⟩;have hLK:K[k]?=some L:=(by rw[hL,bD aq,getElem?_eq_getElem aq]);have gB:=(uh H).ke k aq;rw[<-hL]at gB;obtain⟨va,vc,y7,OA,TL⟩:=aj gB;rw[y7]at ckc gB;have HK:=ab gB;have QM:=ab hLK;have i1:(0:Int)<=(k:Int):=(by omega);have i2:(k:Int)<(K.length:Int):=(by omega);have mV:Hid (Below w.heap.size w wr/\∀i,i<0->∀e,L[i]?=some e->e.d=true):=ab ⟨(uh hI).1,λm hm=>by omega⟩;have dc:=ab (uh hI).2;clear h1 hL hLK gB y7 hI;go_wp2_with fail
   go_loopg [23] L.length (λgn iv wx=>∃(j:Nat),j+gn=L.length/\iv=.int .i64 j/\Hid (Below w.heap.size w wx/\∀i,i<j->∀e,L[i]?=some e->e.d=true))
   case atStart=>exact⟨0,by omega,rfl,mV⟩
   case round =>
    clear mV c3 ckc;obtain⟨j,xD,rfl,hJ⟩:=hrel;obtain⟨G2,BF⟩:∃G2,G2=gk:=⟨_,rfl⟩;by_cases bI:j<L.length
    .have jb:decide ((j:Int)<(L.length:Int))=true:=(by simp;omega);have iu:=dy (uh HK) (uh hJ).1;obtain⟨g,cap,cM,-,-⟩:=bM iu (by omega);simp only[Value.slice.injEq,true_and]at cM;obtain⟨rfl,rfl⟩:=cM;obtain⟨x0,x1⟩:=lR iu rfl bI;have cq:L[j]?=some L[j]:=getElem?_eq_getElem bI;obtain⟨e,sM⟩:∃e,e=L[j]:=⟨_,rfl⟩;rw[<-sM]at x0 x1 cq;obtain⟨eD,ex,ed⟩:=e;simp only at x0 x1;have Ad:=ab cq;have k1:(0:Int)<=(j:Int):=(by omega);have k2:(j:Int)<(L.length:Int):=(by omega);have cD:Below w.heap.size w (wr.alloc (.cells #[Value.pointer (some ⟨eD,0,none⟩),.bool ed] 258)):=(uh hJ).1.trans ((ah wr _).mono (uh hJ).1.size);have io:=ab cD;clear iu cq sM cD;cases ed
     .have HE:Hid (R=(k:Int)):=ab (by
       have hkL:k<s.kn.length:=(by rw[(uh H).km,length_map];exact aq);rw[uh HR,Pu hkL ?_ ?_]
       .rfl
       .obtain⟨L2,h2,h3⟩:=(uh H).kn_at (getElem?_eq_getElem hkL);rw[uh QM]at h2;injection h2 with h2;rw[h3,<-h2,uh Xp,any_eq_true];exact⟨_,mem_of_getElem? (uh Ad),rfl⟩
       .intro m hm l hl;obtain⟨L2,h2,rfl⟩:=(uh H).kn_at hl;rw[uh Xp];exact uh dc m hm L2 h2)
      go_wp2_with fail
      go_ret;exact⟨bm (uh HE).symm,uh io⟩
     .go_wp2_with fail
      go_roundg (G2-1)
      case rel=>exact⟨j+1,by omega,by go_num,ab ⟨uh io,λi hi y hy=>by
       by_cases e':i=j
       .rw[e',uh Ad]at hy;injection hy with hy;rw[<-hy]
       .exact(uh hJ).2 i (by omega) y hy⟩⟩
      case measure=>omega
    .have jb:decide ((j:Int)<(L.length:Int))=false:=(by simp;omega);go_wp2_with fail
     go_roundg (G1-1)
     case rel=>exact⟨k+1,by omega,by go_num,ab ⟨(uh hJ).1,λm hm L2 h2=>by
      by_cases e':m=k
      .rw[e',uh QM]at h2;injection h2 with h2;rw[<-h2,any_eq_false];intro e he;obtain⟨i,hi⟩:=mem_iff_getElem?.1 he;rw[(uh hJ).2 i (by have:=(List.getElem?_eq_some_iff.1 hi).1;omega) e hi];decide
      .exact uh dc m (by omega) L2 h2⟩⟩
     case measure=>omega
  .have hd:decide ((k:Int)<(K.length:Int))=false:=(by simp;omega);have HE:Hid (R=-1):=ab (by
    rw[uh HR,Pt (λm l hl=>?_)]
    .rfl
    .obtain⟨L,hL,rfl⟩:=(uh H).kn_at hl;rw[uh Xp];exact(uh hI).2 m (by have:=(List.getElem?_eq_some_iff.1 hL).1;omega) L hL)
   clear h1;go_wp2_with fail
   go_ret;exact⟨bm (uh HE).symm,(uh hI).1⟩
end
def mB(m k i:Nat):Nat:=if k=2/\m<=i then i+1 else m
theorem NV{al:List bC}{k:Nat}(h:k<al.length):v9 (al.take (k+1))=mB (mB (v9 (al.take k)) al[k].lk al[k].li) al[k].rk al[k].ri:=by
 unfold v9;rw[take_succ_eq_append_getElem h,foldl_append];rfl
theorem Es{m k i:Nat}(hm:m<=101)(hi:i<=100):mB m k i<=101:=by unfold mB;split <;> omega
theorem NU:∀(al:List bC),(∀a∈al,a.li<=100/\a.ri<=100)->v9 al<=101:=by
 intro al h;have key:∀(l:List bC) (m:Nat),(∀a∈l,a.li<=100/\a.ri<=100)->m<=101->l.foldl (λm a=>mB (mB m a.lk a.li) a.rk a.ri) m<=101:=by
  intro l;induction l with
  |nil=>intro m _ hm;exact hm
  |cons a l ih=>intro m hl hm;exact ih _ (λb hb=>hl b (mem_cons_of_mem _ hb)) (Es (Es hm (hl a (by simp)).1) (hl a (by simp)).2)
 exact key al 0 h (by omega)
theorem Z2(a b c d:Value)(w:World):(Instr.index 287 (.agg #[a,b,c,d]) (.int .i64 0)).run prog w=.ok (.agg #[a,b]) w:=by kernel_rfl
theorem Z3(a b c d:Value)(w:World):(Instr.index 287 (.agg #[a,b,c,d]) (.int .i64 1)).run prog w=.ok (.agg #[c,d]) w:=by kernel_rfl
section
variable {w:World} {B:Nat} {av:Value} {al:List bC}
theorem Et(h:w.ownsRow B 239 5 av al.length (aW al))(jC:al.length<=1000)(hb:∀a∈al,a.li<=100/\a.ri<=100):
  Calls prog 196 #[av] w λe w'=>e=.returned (.int .i64 (v9 al:Nat))/\Below w.heap.size w w':=by
 obtain⟨ao,cap,jO,kj,fQ,aw⟩:=mx h;have HC:=ab aw;have Vo:=ab hb;have C2:Hid (∀k,v9 (al.take k)<=101):=ab (λk=>NU _ (λa ha=>hb a (mem_of_mem_take ha)));rw[jO];clear h aw jO hb;go_enter func196,ntmps196;go_wp2_with fail
 go_loopg [3,10] al.length (λgn cv iv wx=>∃(k:Nat),k+gn=al.length/\iv=.int .i64 k/\cv=.int .i64 (v9 (al.take k):Nat)/\Hid (Below w.heap.size w wx))
 case atStart=>exact⟨0,by omega,rfl,rfl,ab (Below.refl _ _)⟩
 case round =>
  obtain⟨k,eV,rfl,rfl,hI⟩:=hrel;obtain⟨G1,yJ⟩:∃G1,G1=gk:=⟨_,rfl⟩;by_cases aq:k<al.length
  .have hd:decide ((k:Int)<(al.length:Int))=true:=(by simp;omega);obtain⟨g,rfl,k9,hc⟩:=uh HC (λe=>by rw[e]at aq;simp at aq);obtain⟨x0,x1,x2,x3,x4⟩:=hc k aq;have x0:=((uh hI).cell k9).trans x0;have x1:=((uh hI).cell k9).trans x1;have x2:=((uh hI).cell k9).trans x2;have x3:=((uh hI).cell k9).trans x3;have x4:=((uh hI).cell k9).trans x4;have aE:=NV aq;have hbd:=uh Vo _ (getElem_mem aq);have hm1:=uh C2 k;obtain⟨a,ha⟩:∃a,a=al[k]:=⟨_,rfl⟩;rw[<-ha]at x0 x1 x2 x3 x4 aE hbd;obtain⟨m,hm⟩:∃m,m=v9 (al.take k):=⟨_,rfl⟩;rw[<-hm]at aE hm1 ⊢;obtain⟨ak,alk,ali,ark,ari⟩:=a;simp only at x0 x1 x2 x3 x4 aE hbd;have cK:=ab aE;have dm:Hid (Below w.heap.size w (wr.alloc (.cells #[Value.int .i64 ak,.int .i64 alk,.int .i64 ali,.int .i64 ark,.int .i64 ari] 239))):=ab ((uh hI).trans ((ah wr _).mono (uh hI).size));have i1:(0:Int)<=(k:Int):=(by omega);have i2:(k:Int)<(al.length:Int):=(by omega);have j0:=Z2 (.int .i64 (alk:Int)) (.int .i64 (ali:Int)) (.int .i64 (ark:Int)) (.int .i64 (ari:Int));have j1:=Z3 (.int .i64 (alk:Int)) (.int .i64 (ali:Int)) (.int .i64 (ark:Int)) (.int .i64 (ari:Int));clear hc aE ha hm hI;go_wp2_with fail
   go_loopg [3,19] 2 (λgn cv iv wx=>∃(j:Nat),j+gn=2/\iv=.int .i64 j/\cv=.int .i64 ((if j=0 then m else if j=1 then mB m alk ali else mB (mB m alk ali) ark ari:Nat):Int)/\Hid (Below w.heap.size w wx))
   case atStart=>exact⟨0,by omega,rfl,rfl,dm⟩
   case round =>
    clear dm;obtain⟨j,xD,rfl,rfl,hJ⟩:=hrel;obtain⟨G2,BF⟩:∃G2,G2=gk:=⟨_,rfl⟩;have hj3:j=0\/j=1\/j=2:=(by omega);rcases hj3 with rfl|rfl|rfl
    .rw[if_pos rfl];have HN:Hid (Below w.heap.size w (wr.alloc (.cells #[Value.int .i64 alk,.int .i64 ali] 184))):=ab ((uh hJ).trans ((ah wr _).mono (uh hJ).size));clear hJ;by_cases h2:alk=2
     .have d2:((alk:Int)==(2:Int))=true:=(by simp[h2]);by_cases cq:m<=ali
      .have d3:decide (m<=ali)=true:=(by simpa using cq);have HT:Hid (mB m alk ali=ali+1):=ab (by unfold mB;rw[if_pos ⟨h2,cq⟩]);clear h2 cq;go_wp2_with fail
       go_roundg (G2-1)
       case rel=>exact⟨1,by omega,by go_num,by rw[if_neg (by decide),if_pos rfl,uh HT];go_num,HN⟩
       case measure=>omega
      .have d3:decide (m<=ali)=false:=(by simpa using cq);have HT:Hid (mB m alk ali=m):=ab (by unfold mB;rw[if_neg (λh=>cq h.2)]);clear h2 cq;go_wp2_with fail
       go_roundg (G2-1)
       case rel=>exact⟨1,by omega,by go_num,by rw[if_neg (by decide),if_pos rfl,uh HT],HN⟩
       case measure=>omega
     .have d2:((alk:Int)==(2:Int))=false:=(by simp;omega);have HT:Hid (mB m alk ali=m):=ab (by unfold mB;rw[if_neg (λh=>h2 h.1)]);clear h2;go_wp2_with fail
      go_roundg (G2-1)
      case rel=>exact⟨1,by omega,by go_num,by rw[if_neg (by decide),if_pos rfl,uh HT],HN⟩
      case measure=>omega
    .rw[if_neg (by decide),if_pos rfl];have HN:Hid (Below w.heap.size w (wr.alloc (.cells #[Value.int .i64 ark,.int .i64 ari] 184))):=ab ((uh hJ).trans ((ah wr _).mono (uh hJ).size));have sR:=Es (k:=alk) hm1 hbd.1;obtain⟨m1,hm1e⟩:∃m1,m1=mB m alk ali:=⟨_,rfl⟩;have HM1:=ab hm1e;rw[<-hm1e]at sR ⊢;clear hJ hm1e;by_cases h2:ark=2
     .have d2:((ark:Int)==(2:Int))=true:=(by simp[h2]);by_cases cq:m1<=ari
      .have d3:decide (m1<=ari)=true:=(by simpa using cq);have HT:Hid (mB m1 ark ari=ari+1):=ab (by unfold mB;rw[if_pos ⟨h2,cq⟩]);clear h2 cq;go_wp2_with fail
       go_roundg (G2-1)
       case rel=>exact⟨2,by omega,by go_num,by rw[if_neg (by decide),if_neg (by decide),<-uh HM1,uh HT];go_num,HN⟩
       case measure=>omega
      .have d3:decide (m1<=ari)=false:=(by simpa using cq);have HT:Hid (mB m1 ark ari=m1):=ab (by unfold mB;rw[if_neg (λh=>cq h.2)]);clear h2 cq;go_wp2_with fail
       go_roundg (G2-1)
       case rel=>exact⟨2,by omega,by go_num,by rw[if_neg (by decide),if_neg (by decide),<-uh HM1,uh HT],HN⟩
       case measure=>omega
     .have d2:((ark:Int)==(2:Int))=false:=(by simp;omega);have HT:Hid (mB m1 ark ari=m1):=ab (by unfold mB;rw[if_neg (λh=>h2 h.1)]);clear h2;go_wp2_with fail
      go_roundg (G2-1)
      case rel=>exact⟨2,by omega,by go_num,by rw[if_neg (by decide),if_neg (by decide),<-uh HM1,uh HT],HN⟩
      case measure=>omega
    .rw[if_neg (by decide),if_neg (by decide)];go_wp2_with fail
     go_roundg (G1-1)
     case rel=>exact⟨k+1,by omega,by go_num,by rw[uh cK],hJ⟩
     case measure=>omega
  .have hd:decide ((k:Int)<(al.length:Int))=false:=(by simp;omega);have jf:al.take k=al:=take_of_length_le (by omega);rw[jf];clear jf;go_wp2_with fail
   go_ret;exact⟨rfl,uh hI⟩
end
structure HL where
 q:Nat
 f:Nat
 X:Nat
 o:Nat
 uv:Value
 hv:Value
 av:Value
 ov:Value
structure AOk(al:List bC):Prop where
 tm:gD al
 le:al.length<=1000
 bd:∀a∈al,a.lk<=2/\a.rk<=2/\a.li<=100/\a.ri<=100
section
variable {w:World} {Q:Nat} {ws:List ByteArray} {s:PS} {al:List bC} {vv pv nv sv0 lv:Value} {st ls:List Int}
end
def U8(n:Nd):Bool:=decide (n.op=7\/n.op=8\/n.op=9)
def Pe(n:Nd):Bool:=decide (n.op=4)
theorem rB{α:Type}{l:List α}{P:α->Bool}{i:Nat}(h:i<l.length):(l.take (i+1)).countP P=(l.take i).countP P+if P l[i]=true then 1 else 0:=by
 rw[take_succ_eq_append_getElem h,countP_append];congr 1;by_cases e:P l[i]=true <;> simp[e]
theorem UO{nds:List Nd}{nv:Nat}{al:List bC}{i:Nat}(hi:i<nds.length)(h:lG nds i=true):K6 nds nv al=false:=by
 unfold K6;have:(range nds.length).any (lG nds)=true:=by rw[any_eq_true];exact⟨i,mem_range.2 hi,h⟩
 rw[this];rfl
theorem UP{nds:List Nd}{nv:Nat}{al:List bC}{a:bC}(ha:a∈al)(h:a.k=4):K6 nds nv al=false:=by
 unfold K6;have:al.any (λa=>decide (a.k=4))=true:=by rw[any_eq_true];exact⟨a,ha,by simpa using h⟩
 rw[this];simp
theorem abh{nds:List Nd}{nv:Nat}{al:List bC}(h1:∀i,i<nds.length->lG nds i=false)(h2:∀a∈al,a.k≠4):K6 nds nv al=(decide (nds.countP U8<=5)&&decide (nds.countP Pe<=4)&&decide (nv+v9 al<=6)&&decide (nv+v9 al+nds.countP Pe<=8)):=by
 unfold K6;have e1:(range nds.length).any (lG nds)=false:=by rw[any_eq_false];intro i hi;rw[h1 i (mem_range.1 hi)];decide
 have e2:al.any (λa=>decide (a.k=4))=false:=by rw[any_eq_false];intro a ha;simpa using h2 a ha
 rw[e1,e2];rfl
section
variable {w:World} {Q:Nat} {ws:List ByteArray} {ps:PS} {al:List bC} {vv pv nv:Value}
theorem Cp.nd(h:Cp w Q ws ps al vv pv nv){i:Nat}(hi:i<ps.nodes.length):∃g cap,nv=.slice (some ⟨g,0,none⟩) ps.nodes.length cap/\w.cell? ⟨g,i*6,none⟩=some (.int .i64 (ps.nodes[i].op:Int))/\w.cell? ⟨g,i*6+1,none⟩=some (.int .i64 (ps.nodes[i].v:Int))/\w.cell? ⟨g,i*6+2,none⟩=some (.int .i64 (ps.nodes[i].ak:Int))/\w.cell? ⟨g,i*6+3,none⟩=some (.int .i64 (ps.nodes[i].ai:Int))/\w.cell? ⟨g,i*6+4,none⟩=some (.int .i64 (ps.nodes[i].nx:Int))/\w.cell? ⟨g,i*6+5,none⟩=some (.int .i64 (ps.nodes[i].ot:Int)):=by
 obtain⟨g,cap,hv,-,-,-⟩:=bM h.nr (by omega);subst hv;have key:∀j,j<6->w.cell? ⟨g,i*6+j,none⟩=ps.nodes[i].cells[j]?:=λj hj=>by rw[h.nr.cellAt _ (by omega),Pb hi j hj]
 exact⟨g,cap,rfl,key 0 (by omega),key 1 (by omega),key 2 (by omega),key 3 (by omega),key 4 (by omega),key 5 (by omega)⟩
theorem zg(h:Cp w Q ws ps al vv pv nv)(hA:AOk al)(fU:ps.nodes.length<=100000)(qp:ps.vars.length<=1000):
  Calls prog 170 #[.pointer (some ⟨Q,0,none⟩)] w λe w'=>e=.returned (.bool (K6 ps.nodes ps.vars.length al))/\Below w.heap.size w w':=by
 obtain⟨R,hR⟩:∃R,R=K6 ps.nodes ps.vars.length al:=⟨_,rfl⟩;rw[<-hR];have Di:∀a∈al,a.li<=100/\a.ri<=100:=λa ha=>(hA.bd a ha).2.2;have dh:=hA.le;have HH:Hid (∀W,Below w.heap.size w W->Calls prog 196 #[pv] W λe w'=>e=.returned (.int .i64 (v9 al:Nat))/\Below W.heap.size W w'):=ab (λW hW=>Et (h.below hW).pr hA.le Di);have hhl:=NU al Di;obtain⟨na,nc,AD,-,-⟩:=aj h.nr;obtain⟨va,vc,y7,-,-⟩:=aj h.vr;obtain⟨ao,cap,jO,kj,fQ,aw⟩:=mx h.pr;subst AD;subst y7;subst jO;have c1:=h.bk.cell 1 rfl;have c2:=h.bk.cell 2 rfl;have c3:=h.bk.cell 3 rfl;have hQl:=h.bk.lt;have H:=ab h;have HR:=ab hR;have HC:=ab aw;obtain⟨nds,B4⟩:∃nds,nds=ps.nodes:=⟨_,rfl⟩;have HN:Hid (∀i,(hi:i<nds.length)->∃g cap,Value.slice na ps.nodes.length nc=.slice (some ⟨g,0,none⟩) nds.length cap/\w.cell? ⟨g,i*6,none⟩=some (.int .i64 (nds[i].op:Int))/\w.cell? ⟨g,i*6+4,none⟩=some (.int .i64 (nds[i].nx:Int))):=ab (by
  subst B4;intro i hi;obtain⟨g,cap,e,x0,-,-,-,x4,-⟩:=h.nd hi;exact⟨g,cap,e,x0,x4⟩)
 rw[<-B4]at c3 fU HN HR;clear h hA hR aw Di B4;go_enter func170,ntmps170;go_wp2_with fail
 go_loopg [3,4,5] nds.length (λgn tv nwv iv wx=>∃(k:Nat),k+gn=nds.length/\iv=.int .i64 k/\tv=.int .i64 ((nds.take k).countP U8:Nat)/\nwv=.int .i64 ((nds.take k).countP Pe:Nat)/\Hid (wx=w/\∀i,i<k->lG nds i=false))
 case atStart=>exact⟨0,by omega,rfl,rfl,rfl,ab ⟨rfl,λi hi=>by omega⟩⟩
 case round =>
  obtain⟨k,eV,rfl,rfl,rfl,hI⟩:=hrel;obtain⟨G1,yJ⟩:∃G1,G1=gk:=⟨_,rfl⟩;obtain⟨hwr,hbj⟩:=uh hI;rw[hwr];clear hwr;have HBJ:=ab hbj;have wm:(nds.take k).countP U8<=k:=zq3 countP_le_length (by rw[length_take];omega);have jF:(nds.take k).countP Pe<=k:=zq3 countP_le_length (by rw[length_take];omega);clear hI hbj;by_cases aq:k<nds.length
  .have hd:decide ((k:Int)<(nds.length:Int))=true:=(by simp;omega);obtain⟨g,cap2,cM,x0,x4⟩:=uh HN k aq;simp only[Value.slice.injEq]at cM;obtain⟨rfl,-,rfl⟩:=cM;have hts:=rB (P:=U8) aq;have hnw:=rB (P:=Pe) aq;have fq:lG nds k=(decide (nds[k].op=10)&&decide (nds[k].nx<k)):=(by unfold lG;rw[bD aq]);obtain⟨nd,c9⟩:∃nd,nd=nds[k]:=⟨_,rfl⟩;rw[<-c9]at x0 x4 hts hnw fq;obtain⟨T,hT⟩:∃T,T=(nds.take k).countP U8:=⟨_,rfl⟩;obtain⟨N,hN⟩:∃N,N=(nds.take k).countP Pe:=⟨_,rfl⟩;rw[<-hT]at hts wm ⊢;rw[<-hN]at hnw jF ⊢;have oM:Hid (lG nds k=false->∀i,i<k+1->lG nds i=false):=ab (λe i hi=>by
    by_cases h1:i=k
    .rw[h1];exact e
    .exact uh HBJ i (by omega))
   have k1:(0:Int)<=(k:Int):=(by omega);have k2:(k:Int)<(nds.length:Int):=(by omega);have RK:=ab hts;have Vy:=ab hnw;have Ac:=ab fq;clear hts hnw fq c9 hT hN;have htsB:U8 nd=decide (nd.op=7\/nd.op=8\/nd.op=9):=rfl;have hnwB:Pe nd=decide (nd.op=4):=rfl;by_cases ht:nd.op=7\/nd.op=8\/nd.op=9
   .have ku:Hid ((nds.take (k+1)).countP U8=T+1):=ab (by rw[uh RK,htsB,if_pos (by simpa using ht)]);have C4:Hid ((nds.take (k+1)).countP Pe=N):=ab (by rw[uh Vy,hnwB,if_neg (by simp;omega),Nat.add_zero]);have cg:Hid (∀i,i<k+1->lG nds i=false):=ab (uh oM (by rw[uh Ac];simp;omega));clear htsB hnwB RK Vy Ac;rcases ht with ht|ht|ht
    .rw[ht]at x0;go_wp2_with fail
     go_roundg (G1-1)
     case rel=>exact⟨k+1,by omega,by go_num,by rw[uh ku];go_num,by rw[uh C4],ab ⟨rfl,uh cg⟩⟩
     case measure=>omega
    .rw[ht]at x0;go_wp2_with fail
     go_roundg (G1-1)
     case rel=>exact⟨k+1,by omega,by go_num,by rw[uh ku];go_num,by rw[uh C4],ab ⟨rfl,uh cg⟩⟩
     case measure=>omega
    .rw[ht]at x0;go_wp2_with fail
     go_roundg (G1-1)
     case rel=>exact⟨k+1,by omega,by go_num,by rw[uh ku];go_num,by rw[uh C4],ab ⟨rfl,uh cg⟩⟩
     case measure=>omega
   .have ku:Hid ((nds.take (k+1)).countP U8=T):=ab (by rw[uh RK,htsB,if_neg (by simpa using ht),Nat.add_zero]);have t7:((nd.op:Int)==(7:Int))=false:=(by simp;omega);have t8:((nd.op:Int)==(8:Int))=false:=(by simp;omega);have t9:((nd.op:Int)==(9:Int))=false:=(by simp;omega);by_cases h4:nd.op=4
    .have C4:Hid ((nds.take (k+1)).countP Pe=N+1):=ab (by rw[uh Vy,hnwB,if_pos (by simpa using h4)]);have cg:Hid (∀i,i<k+1->lG nds i=false):=ab (uh oM (by rw[uh Ac];simp;omega));rw[h4]at x0;clear htsB hnwB RK Vy Ac t7 t8 t9;go_wp2_with fail
     go_roundg (G1-1)
     case rel=>exact⟨k+1,by omega,by go_num,by rw[uh ku],by rw[uh C4];go_num,ab ⟨rfl,uh cg⟩⟩
     case measure=>omega
    .have C4:Hid ((nds.take (k+1)).countP Pe=N):=ab (by rw[uh Vy,hnwB,if_neg (by simpa using h4),Nat.add_zero]);have t4:((nd.op:Int)==(4:Int))=false:=(by simp;omega);by_cases GD:nd.op=10
     .rw[GD]at x0;by_cases hb:nd.nx<k
      .have d1:decide ((nd.nx:Int)<(k:Int))=true:=(by simp;omega);have HE:Hid (R=false):=ab (by rw[uh HR];exact UO aq (by rw[uh Ac];simp[GD,hb]));clear htsB hnwB RK Vy Ac t7 t8 t9 t4;go_wp2_with fail
       go_ret;exact⟨aB (uh HE).symm,Below.refl _ _⟩
      .have d1:decide ((nd.nx:Int)<(k:Int))=false:=(by simp;omega);have cg:Hid (∀i,i<k+1->lG nds i=false):=ab (uh oM (by rw[uh Ac];simp[hb]));clear htsB hnwB RK Vy Ac t7 t8 t9 t4;go_wp2_with fail
       go_roundg (G1-1)
       case rel=>exact⟨k+1,by omega,by go_num,by rw[uh ku],by rw[uh C4],ab ⟨rfl,uh cg⟩⟩
       case measure=>omega
     .have t10:((nd.op:Int)==(10:Int))=false:=(by simp;omega);have cg:Hid (∀i,i<k+1->lG nds i=false):=ab (uh oM (by rw[uh Ac];simp[GD]));clear htsB hnwB RK Vy Ac;go_wp2_with fail
      go_roundg (G1-1)
      case rel=>exact⟨k+1,by omega,by go_num,by rw[uh ku],by rw[uh C4],ab ⟨rfl,uh cg⟩⟩
      case measure=>omega
  .have hd:decide ((k:Int)<(nds.length:Int))=false:=(by simp;omega);have jf:nds.take k=nds:=take_of_length_le (by omega);rw[jf]at wm jF ⊢;have cg:Hid (∀i,i<nds.length->lG nds i=false):=ab (λi hi=>uh HBJ i (by omega));obtain⟨T,hT⟩:∃T,T=nds.countP U8:=⟨_,rfl⟩;obtain⟨N,hN⟩:∃N,N=nds.countP Pe:=⟨_,rfl⟩;rw[<-hT]at wm ⊢;rw[<-hN]at jF ⊢;have HTN:=ab (zq2 hT hN);clear jf hT hN HBJ HN;go_wp2_with fail
   go_loopg [58] al.length (λgn iv wx=>∃(j:Nat),j+gn=al.length/\iv=.int .i64 j/\Hid (Below w.heap.size w wx/\∀i,i<j->∀a,al[i]?=some a->a.k≠4))
   case atStart=>exact⟨0,by omega,rfl,ab ⟨Below.refl _ _,λi hi=>by omega⟩⟩
   case round =>
    obtain⟨j,xD,rfl,hJ⟩:=hrel;obtain⟨G2,BF⟩:∃G2,G2=gk:=⟨_,rfl⟩;by_cases bI:j<al.length
    .have jb:decide ((j:Int)<(al.length:Int))=true:=(by simp;omega);obtain⟨g,rfl,k9,hc⟩:=uh HC (λe=>by rw[e]at bI;simp at bI);obtain⟨x0,x1,x2,x3,x4⟩:=hc j bI;have x0:=((uh hJ).1.cell k9).trans x0;have x1:=((uh hJ).1.cell k9).trans x1;have x2:=((uh hJ).1.cell k9).trans x2;have x3:=((uh hJ).1.cell k9).trans x3;have x4:=((uh hJ).1.cell k9).trans x4;have cq:al[j]?=some al[j]:=getElem?_eq_getElem bI;obtain⟨a,ha⟩:∃a,a=al[j]:=⟨_,rfl⟩;rw[<-ha]at x0 x1 x2 x3 x4 cq;obtain⟨ak,alk,ali,ark,ari⟩:=a;simp only at x0 x1 x2 x3 x4;have Ad:=ab cq;have dm:Hid (Below w.heap.size w (wr.alloc (.cells #[Value.int .i64 ak,.int .i64 alk,.int .i64 ali,.int .i64 ark,.int .i64 ari] 239))):=ab ((uh hJ).1.trans ((ah wr _).mono (uh hJ).1.size));have k1:(0:Int)<=(j:Int):=(by omega);have k2:(j:Int)<(al.length:Int):=(by omega);clear hc ha cq;by_cases h4:ak=4
     .have d4:((ak:Int)==(4:Int))=true:=(by simp[h4]);have HE:Hid (R=false):=ab (by rw[uh HR];exact UP (mem_of_getElem? (uh Ad)) h4);clear h4;go_wp2_with fail
      go_ret;exact⟨aB (uh HE).symm,uh dm⟩
     .have d4:((ak:Int)==(4:Int))=false:=(by simp;omega);have vN:=ab h4;clear h4;go_wp2_with fail
      go_roundg (G2-1)
      case rel=>exact⟨j+1,by omega,by go_num,ab ⟨uh dm,λi hi y hy=>by
       by_cases e':i=j
       .rw[e',uh Ad]at hy;injection hy with hy;rw[<-hy];exact uh vN
       .exact(uh hJ).2 i (by omega) y hy⟩⟩
      case measure=>omega
    .have jb:decide ((j:Int)<(al.length:Int))=false:=(by simp;omega);obtain⟨hb,B7⟩:=uh hJ;have d2:=(hb.cell hQl).trans c2;have HH2:=ab (uh HH wr hb);obtain⟨V,hV⟩:∃V,V=ps.vars.length:=⟨_,rfl⟩;have arL:V<=1000:=(by rw[hV];exact qp);rw[<-hV]at HR ⊢;obtain⟨Hn,hHn⟩:∃Hn,Hn=v9 al:=⟨_,rfl⟩;rw[<-hHn]at HH2 hhl;have hRe:R=(decide (T<=5)&&decide (N<=4)&&decide (V+Hn<=6)&&decide (V+Hn+N<=8)):=by
      rw[uh HR,abh (uh cg) (λa ha=>?_),<-(uh HTN).1,<-(uh HTN).2,<-hHn];obtain⟨i,hi⟩:=mem_iff_getElem?.1 ha;exact B7 i (by have:=(List.getElem?_eq_some_iff.1 hi).1;omega) a hi
     obtain⟨M,hM⟩:∃M,M=V+Hn:=⟨_,rfl⟩;rw[<-hM]at hRe;have xF:IntKind.i64.wrap ((V:Int)+(Hn:Int))=(M:Int):=(by rw[IntKind.wrap_i64];omega);have C6:=ab hRe;have HB:=ab hb;have hM2:M<=2000:=(by omega);obtain⟨P,hP⟩:∃P,P=M+N:=⟨_,rfl⟩;have WI:IntKind.i64.wrap ((M:Int)+(N:Int))=(P:Int):=(by rw[IntKind.wrap_i64];omega);rw[<-hP]at C6;clear hb B7 hV hHn hRe hM hP hJ HR cg HTN HH HC;go_wp2_with fail
     refine(uh HH2).mono ?_;rintro e w5 ⟨rfl,cD⟩;have io:=ab ((uh HB).trans (cD.mono (uh HB).size));clear cD HB HH2;by_cases p1:T<=5
     .have e1:decide (T<=5)=true:=(by simpa using p1);have e1':decide ((T:Int)<=(5:Int))=true:=(by simp;omega);by_cases p2:N<=4
      .have e2:decide (N<=4)=true:=(by simpa using p2);have e2':decide ((N:Int)<=(4:Int))=true:=(by simp;omega);by_cases p3:M<=6
       .have e3:decide (M<=6)=true:=(by simpa using p3);have e3':decide ((M:Int)<=(6:Int))=true:=(by simp;omega);by_cases p4:P<=8
        .have e4:decide (P<=8)=true:=(by simpa using p4);have e4':decide ((P:Int)<=(8:Int))=true:=(by simp;omega);have HE:Hid (R=true):=ab (by rw[uh C6,e1,e2,e3,e4];rfl);clear p1 p2 p3 p4 e1 e2 e3 e4;go_wp2_with fail
         go_ret;exact⟨aB (uh HE).symm,uh io⟩
        .have e4:decide (P<=8)=false:=(by simpa using p4);have e4':decide ((P:Int)<=(8:Int))=false:=(by simp;omega);have HE:Hid (R=false):=ab (by rw[uh C6,e1,e2,e3,e4];rfl);clear p1 p2 p3 p4 e1 e2 e3 e4;go_wp2_with fail
         go_ret;exact⟨aB (uh HE).symm,uh io⟩
       .have e3:decide (M<=6)=false:=(by simpa using p3);have e3':decide ((M:Int)<=(6:Int))=false:=(by simp;omega);have HE:Hid (R=false):=ab (by rw[uh C6,e1,e2,e3];rfl);clear p1 p2 p3 e1 e2 e3;go_wp2_with fail
        go_ret;exact⟨aB (uh HE).symm,uh io⟩
      .have e2:decide (N<=4)=false:=(by simpa using p2);have e2':decide ((N:Int)<=(4:Int))=false:=(by simp;omega);have HE:Hid (R=false):=ab (by rw[uh C6,e1,e2];rfl);clear p1 p2 e1 e2;go_wp2_with fail
       go_ret;exact⟨aB (uh HE).symm,uh io⟩
     .have e1:decide (T<=5)=false:=(by simpa using p1);have e1':decide ((T:Int)<=(5:Int))=false:=(by simp;omega);have HE:Hid (R=false):=ab (by rw[uh C6,e1];rfl);clear p1 e1;go_wp2_with fail
      go_ret;exact⟨aB (uh HE).symm,uh io⟩
end
theorem infoBl:(prog.info? 4).map (λi=>(i.zero,i.size,i.bytes))=some (some (.bool false),1,1):=by kernel_rfl
theorem infoEs:(prog.info? 255).map (λi=>(i.zero,i.size,i.bytes))=some (some (.slice none 0 0),1,24):=by kernel_rfl
theorem infoBs:(prog.info? 200).map (λi=>(i.zero,i.size,i.bytes))=some (some (.slice none 0 0),1,24):=by kernel_rfl
theorem Ic{S:Nat}{hv kv wv:Value}{KV WV:List Value}{n:Nat}(v:Value):nF S hv kv wv KV (WV.set n v)=(nF S hv kv wv KV WV).set (4+(KV.length+n)) v.ownBlock:=by
 unfold nF;rw[show 4+(KV.length+n)=(KV.length+n)+1+1+1+1 by omega];simp only[set_cons_succ];rw[set_append_right _ _ (by simp),map_set];simp
structure qj(w W:World)(S:Nat)(c0 hv kv wv:Value)(WV:List Value)(lp:Bool)(hd:List Bool)(bd:Bool)(m i:Nat):Prop where
 bs:Bk W S 229 (oW c0 hv lp kv wv bd 3000 2097152 false)
 hl:hd.length=m
 hr:W.ownsRow 0 4 1 hv m (cS hd)
 kr:W.ownsRow 0 255 1 kv m (replicate m aF)
 wr:W.ownsRow 0 200 1 wv m WV
 we:∀j,j<i->W.ownsRow 0 4 1 (WV.getD j aF) 5 (cS (replicate 5 false))
 ap:Apt (nF S hv kv wv (replicate m aF) WV)
 bl:Below w.heap.size w W
 ge:∀k∈cI S hv kv wv (replicate m aF) WV,w.heap.size<=k
section
variable {w W W':World} {S:Nat} {c0 hv kv wv:Value} {WV:List Value} {lp bd:Bool} {hd:List Bool} {m i:Nat}
theorem qj.wl(h:qj w W S c0 hv kv wv WV lp hd bd m i):WV.length=m:=by have:=h.wr.1;omega
theorem qj.of_eq(h:qj w W S c0 hv kv wv WV lp hd bd m i)(him:i<=m)(he:∀k∈cI S hv kv wv (replicate m aF) WV,W'.heap[k]?=W.heap[k]?)(hb:Below w.heap.size w W'):qj w W' S c0 hv kv wv WV lp hd bd m i:=by
 have hw:=h.wl;exact⟨h.bs.of_eq (he S fJ),h.hl,ae h.hr (λk hk=>he k (bL (i:=1) (congrArg some hk))),ae h.kr (λk hk=>he k (bL (i:=2) (congrArg some hk))),ae h.wr (λk hk=>he k (bL (i:=3) (congrArg some hk))),λj hj=>ae (h.we j hj) (λk hk=>he k (bL ((zD (by omega)).trans (congrArg some hk)))),h.ap,hb,h.ge⟩
theorem qj.lt(h:qj w W S c0 hv kv wv WV lp hd bd m i)(hn:∀j,i<=j->WV.getD j aF=aF):∀k∈cI S hv kv wv (replicate m aF) WV,k<W.heap.size:=by
 intro k hk;obtain⟨p,hp⟩:=aQ.1 hk;rcases Pi hp with⟨-,rfl⟩|⟨-,e⟩|⟨-,e⟩|⟨-,e⟩|⟨j,hj,-,e⟩|⟨j,hj,-,e⟩
 .exact h.bs.lt
 .exact(h.hr.lt k e).2
 .exact(h.kr.lt k e).2
 .exact(h.wr.lt k e).2
 .have:(replicate m aF).getD j aF=aF:=by rw[length_replicate]at hj;simp[hj]
  rw[this]at e;cases e
 .by_cases hji:j<i
  .exact((h.we j hji).lt k e).2
  .rw[hn j (by omega)]at e;cases e
theorem qj.below(h:qj w W S c0 hv kv wv WV lp hd bd m i)(him:i<=m)(hn:∀j,i<=j->WV.getD j aF=aF)(hb:Below W.heap.size W W'):qj w W' S c0 hv kv wv WV lp hd bd m i:=h.of_eq him (λk hk=>hb.block k (h.lt hn k hk)) (h.bl.trans (hb.mono h.bl.size))
theorem qj.row(h:qj w W S c0 hv kv wv WV lp hd bd m i)(him:i<m)(hn:∀j,i<=j->WV.getD j aF=aF){o:Obj}(ho:o=.cells (madeCells #[Value.bool false] 5) 4){wB wC:Nat}(Cf:wv=.slice (some ⟨wB,0,none⟩) m wC):
  qj w ((W.alloc o).setCell ⟨wB,i,none⟩ (.slice (some ⟨W.heap.size,0,none⟩) 5 5)) S c0 hv kv wv (WV.set i (.slice (some ⟨W.heap.size,0,none⟩) 5 5)) lp hd bd m (i+1)/\∀j,i+1<=j->(WV.set i (.slice (some ⟨W.heap.size,0,none⟩) 5 5)).getD j aF=aF:=by
 have hw:=h.wl;have a7:=ah W o;have h1:=h.below (Nat.le_of_lt him) hn a7;have aq:=h.lt hn;have ko:W.heap.size<(W.alloc o).heap.size:=by simp
 have hwB:(nF S hv kv wv (replicate m aF) WV)[3]?=some (some wB):=by rw[Cf];rfl
 have hwBl:=aq wB (bL hwB);have hwBg:=h.ge wB (bL hwB);obtain⟨v,hv0⟩:∃v,v=Value.slice (some ⟨W.heap.size,0,none⟩) 5 5:=⟨_,rfl⟩;have TM:v.ownBlock=some W.heap.size:=by rw[hv0];rfl
 rw[<-hv0];have aJ:∀p k,p≠3->(nF S hv kv wv (replicate m aF) WV)[p]?=some (some k)->((W.alloc o).setCell ⟨wB,i,none⟩ v).heap[k]?=(W.alloc o).heap[k]?:=λp k hp hk=>heap_setCell _ _ _ _ (λe=>hp (h.ap p 3 k hk (by rw[hwB,show k=wB from e])));have cf:∀j,j≠i->(WV.set i v).getD j aF=WV.getD j aF:=λj hj=>by rw[getD_eq_getElem?_getD,getElem?_set_ne (λe=>hj e.symm),<-getD_eq_getElem?_getD]
 have si:∀k,W.heap.size=k->∀p,(nF S hv kv wv (replicate m aF) WV)[p]?≠some (some k):=λk hk p hp=>by have:=aq k (bL hp);omega
 refine⟨⟨h1.bs.of_eq (aJ 0 S (by omega) rfl),h.hl,ae h1.hr (λk hk=>aJ 1 k (by omega) (congrArg some hk)),ae h1.kr (λk hk=>aJ 2 k (by omega) (congrArg some hk)),?_,λj hj=>?_,?_,h1.bl.setCell (p:=⟨wB,i,none⟩) hwBg _,λk hk=>?_⟩,λj hj=>by rw[cf j (by omega)];exact hn j (by omega)⟩
 .have:=h1.wr;rw[Cf]at this ⊢;exact(this.stored i v).1
 .by_cases hji:j=i
  .subst hji;have e1:(WV.set j v).getD j aF=v:=(by rw[getD_eq_getElem?_getD,getElem?_set_self (by omega)];rfl);rw[e1,hv0];have h2:=ownsRow_lit (base:=0) (e:=4) (size:=1) W (madeCells #[Value.bool false] 5) 5 (zq5 _) (by simp[maxLen]) (by simp[madeCells]);rw[toList_madeCells_one,<-ho]at h2;exact ci h2 (p:=⟨wB,j,none⟩) (by show some W.heap.size≠some wB;intro e;injection e with e;omega) _
  .rw[cf j hji];refine ae (h1.we j (by omega)) (λk hk=>aJ (4+((replicate m aF).length+j)) k (by omega) ((zD (by omega)).trans (congrArg some hk)))
 .rw[Ic];refine h.ap.set _ (λk hk=>zq1 (si k ?_));rw[TM]at hk;injection hk
 .obtain⟨p,hp⟩:=aQ.1 hk;rw[Ic,getElem?_set]at hp;split at hp
  .split at hp
   .simp only[Option.some.injEq]at hp;rw[TM]at hp;injection hp with hp;rw[<-hp];exact h.bl.size
   .simp at hp
  .exact h.ge k (bL hp)
theorem qj.head(h:qj w W S c0 hv kv wv WV lp hd bd m i)(him:i<=m){n hB hC:Nat}(hhv:hv=.slice (some ⟨hB,0,none⟩) m hC):qj w (W.setCell ⟨hB,n,none⟩ (.bool true)) S c0 hv kv wv WV lp (hd.set n true) bd m i:=by
 have hw:=h.wl;have hhB:(nF S hv kv wv (replicate m aF) WV)[1]?=some (some hB):=by rw[hhv];rfl
 have aJ:∀p k,p≠1->(nF S hv kv wv (replicate m aF) WV)[p]?=some (some k)->(W.setCell ⟨hB,n,none⟩ (.bool true)).heap[k]?=W.heap[k]?:=λp k hp hk=>heap_setCell _ _ _ _ (λe=>hp (h.ap p 1 k hk (by rw[hhB,show k=hB from e])));refine⟨h.bs.of_eq (aJ 0 S (by omega) rfl),by rw[length_set];exact h.hl,?_,ae h.kr (λk hk=>aJ 2 k (by omega) (congrArg some hk)),ae h.wr (λk hk=>aJ 3 k (by omega) (congrArg some hk)),λj hj=>ae (h.we j hj) (λk hk=>aJ _ k (by omega) ((zD (by omega)).trans (congrArg some hk))),h.ap,h.bl.setCell (p:=⟨hB,n,none⟩) (h.ge hB (bL hhB)) _,h.ge⟩;have:=h.hr;rw[hhv]at this ⊢;have h2:=(this.stored n (.bool true)).1;have e:(cS hd).set n (.bool true)=cS (hd.set n true):=by unfold cS;rw[map_set]
 rw[e]at h2;exact h2
theorem qj.loop(h:qj w W S c0 hv kv wv WV lp hd bd m i)(him:i<=m):qj w (W.setCell ⟨S,2,none⟩ (.bool true)) S c0 hv kv wv WV true hd bd m i:=by
 have hw:=h.wl;have aJ:∀p k,p≠0->(nF S hv kv wv (replicate m aF) WV)[p]?=some (some k)->(W.setCell ⟨S,2,none⟩ (.bool true)).heap[k]?=W.heap[k]?:=λp k hp hk=>heap_setCell _ _ _ _ (λe=>hp (h.ap p 0 k hk (by rw[show k=S from e];rfl)));exact⟨h.bs.set 2 (.bool true),h.hl,ae h.hr (λk hk=>aJ 1 k (by omega) (congrArg some hk)),ae h.kr (λk hk=>aJ 2 k (by omega) (congrArg some hk)),ae h.wr (λk hk=>aJ 3 k (by omega) (congrArg some hk)),λj hj=>ae (h.we j hj) (λk hk=>aJ _ k (by omega) ((zD (by omega)).trans (congrArg some hk))),h.ap,h.bl.setCell (p:=⟨S,2,none⟩) (h.ge S fJ) _,h.ge⟩
end
