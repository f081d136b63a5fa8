import Derived.Test.YtciihepbeacppaaGreatM26
import Derived.Deep.RegionWith
set_option maxRecDepth 100000
set_option maxHeartbeats 0
namespace Go.Proofs.YtciihepbeacppaaGreat
open Tryz Go.RowKit List World Below
set_option linter.unusedVariables false
section
variable {w W:World} {S:Nat} {c:Cd} {c0 hv kv wv:Value} {KV WV:List Value} {K:List (List En)} {s:Sr} {n:Nat} {l:List En}
def iq(l:List En)(k:Nat):List En:=(l.take k).filter (λe=>!e.d)
theorem II{l:List En}{k:Nat}(h:k<l.length):iq l (k+1)=iq l k++if l[k].d=true then [] else [l[k]]:=by
 unfold iq;rw[FX h];congr 1;cases l[k].d <;> rfl
theorem RR(l:List En)(k:Nat):(iq l k).length<=l.length:=zq3 (length_filter_le _ _) (by rw[length_take];omega)
theorem Sh.lE(h:Sh w S c c0 hv kv wv KV WV K s){k g cap n:Nat}{l:List En}(hn:n<K.length)(hl:l=K.getD n [])(hg:KV.getD n aH=.slice (some ⟨g,0,none⟩) l.length cap)(hk:k<l.length):w.cell? ⟨g,k*2,none⟩=some (.pointer (some ⟨l[k].D,0,none⟩))/\w.cell? ⟨g,k*2+1,none⟩=some (.bool l[k].d)/\w.frozen? ⟨g,k*2+1,none⟩=false:=by
 have h1:=h.ke n hn;rw[hg,<-hl]at h1;obtain⟨h2,h3⟩:=kS h1 rfl hk;exact⟨h2,h3,h1.frozenAt _⟩
theorem PB{Q:Nat}{ws:List ByteArray}{ps:PS}{al:List bt}{vv pv nvv:Value}(h:Sh w S c (.pointer (some ⟨Q,0,none⟩)) hv kv wv KV WV K s)(hC:Cp w Q ws ps al vv pv nvv)(hCd:∀k∈qK Q vv pv nvv,k ∉ cD S hv kv wv KV WV)(fs:c.nds=ps.nodes)(hN:J9 c.nds)(hn:n<K.length)(vt:K.length<=100000){fuel:Nat}(aY:(uD c fuel n s).ok=true)(po:(bN s n).length<=qI+1):
  Calls prog 142 #[.pointer (some ⟨S,0,none⟩),.int .i64 n] w λe w'=>e=.returned (.tuple #[])/\fM w S c (.pointer (some ⟨Q,0,none⟩)) hv kv wv KV WV K [] (uD c fuel n s) w':=by
 obtain⟨i0,iy,dG,du,ef⟩:=info_parts infoPF;obtain⟨kB,kC,Bl,-⟩:=h.kc hn;subst Bl;obtain⟨l,hl⟩:∃l,l=K.getD n []:=⟨_,rfl⟩;have fC:=h.knE n;rw[<-hl]at fC;rw[fC,length_map]at po;have SF:l.length<=1000000000001:=by unfold qI at po;omega
 obtain⟨va,vc,q7,Jr,NE⟩:=ah (h.ke n hn);rw[<-hl]at q7 Jr;have hlK:l∈K:=by rw[hl,bp hn];exact getElem_mem hn
 obtain⟨s1,cN⟩:∃s1:Sr,s1={ s with kn:=s.kn.set n ((eI l l.length).map En.m) }:=⟨_,rfl⟩;have hvi:uD c fuel n s=pu c fuel n ((l.filter (λe=>!e.d)).map (λe=>e.x.f)) s1:=by
  unfold uD;rw[fC,cN,Rt (zq4 _)];have e1:lN (l.map En.m)=(l.filter (λe=>!e.d)).map (λe=>e.x.f):=by
   unfold lN;rw[filter_map,map_map];rfl
  have e2:(l.map En.m).map (λe=>(⟨e.f,true⟩:gC))=(l.map En.dn).map En.m:=by
   rw[map_map,map_map];rfl
  rw[e1,e2]
 rw[hvi]at aY ⊢;obtain⟨R,hR⟩:∃R,R=pu c fuel n ((l.filter (λe=>!e.d)).map (λe=>e.x.f)) s1:=⟨_,rfl⟩;rw[<-hR]at aY ⊢;have H0:Hid (Sh w S c (.pointer (some ⟨Q,0,none⟩)) hv (.slice (some ⟨kB,0,none⟩) K.length kC) wv KV WV (K.set n (eI l 0)) { s with kn:=s.kn.set n ((eI l 0).map En.m) }):=ab (by
  rw[LP];have e1:K.set n l=K:=by rw[hl,lD hn]
  have e2:s.kn.set n (l.map En.m)=s.kn:=by
   rw[<-fC];exact lD (by rw[h.km,length_map];exact hn)
  rw[e1,e2];exact h)
 have hCl:=hC.lt;have HA:=ab (zq2 h (zq2 hC (zq2 hCd (zq2 fs hN))));have HL:=ab (zq2 hl hlK);have Xa:=ab q7;have HR:=ab hR;have bC:=ab cN;have kj:=ab aY;obtain⟨dQ,cW⟩:∃dQ:World->Prop,dQ=λw'=>fM w S c (.pointer (some ⟨Q,0,none⟩)) hv (.slice (some ⟨kB,0,none⟩) K.length kC) wv KV WV K [] R w':=⟨_,rfl⟩;have eU:=ab cW;rw[show(fun(e:Ending) (w':World)=>e=.returned (.tuple #[])/\fM w S c (.pointer (some ⟨Q,0,none⟩)) hv (.slice (some ⟨kB,0,none⟩) K.length kC) wv KV WV K [] R w')=(λe w'=>e=.returned (.tuple #[])/\dQ w') by rw[cW]];have i1:(0:Int)<=(n:Int):=by omega
 have i2:(n:Int)<(K.length:Int):=by omega
 have bR:Hid ((w.alloc (.cells #[] 126)).ownsRow w.heap.size 126 1 (.slice (some ⟨w.heap.size,0,none⟩) 0 0) (iq l 0).length ((iq l 0).map (λe=>e.x.p))/\fL w (w.alloc (.cells #[] 126)) (cD S hv (.slice (some ⟨kB,0,none⟩) K.length kC) wv KV WV) (cD S hv (.slice (some ⟨kB,0,none⟩) K.length kC) wv KV WV) (dK K) (dK K) []/\Sh (w.alloc (.cells #[] 126)) S c (.pointer (some ⟨Q,0,none⟩)) hv (.slice (some ⟨kB,0,none⟩) K.length kC) wv KV WV (K.set n (eI l 0)) { s with kn:=s.kn.set n ((eI l 0).map En.m) }):=ab ⟨ownsRow_lit (base:=w.heap.size) (e:=126) (size:=1) w #[] 0 (zq4 _) (by simp[maxLen]) rfl,fL.below (af w _),(uh H0).below (af w _)⟩;clear h hC hCd fs hN hl hlK q7 hvi aY hR cN fC po cW H0 hCl;go_enter func142,ntmps142;go_wp2_with fail
 go_loopg [4,5] l.length (λgn fv iv wx=>∃(k:Nat),k+gn=l.length/\iv=.int .i64 k/\Hid (wx.ownsRow w.heap.size 126 1 fv (iq l k).length ((iq l k).map (λe=>e.x.p))/\fL w wx (cD S hv (.slice (some ⟨kB,0,none⟩) K.length kC) wv KV WV) (cD S hv (.slice (some ⟨kB,0,none⟩) K.length kC) wv KV WV) (dK K) (dK K) []/\Sh wx S c (.pointer (some ⟨Q,0,none⟩)) hv (.slice (some ⟨kB,0,none⟩) K.length kC) wv KV WV (K.set n (eI l k)) { s with kn:=s.kn.set n ((eI l k).map En.m) }))
 case atStart=>exact⟨0,by omega,rfl,bR⟩
 case round =>
  clear bR;obtain⟨k,fC,rfl,hI⟩:=hrel;obtain⟨G1,wK⟩:∃G1,G1=gk:=⟨_,rfl⟩;obtain⟨h1,h2,h3⟩:=uh hI;obtain⟨fa,fc,VJ,-,-⟩:=ah h1;subst VJ;have wM:(K.set n (eI l k)).length=K.length:=length_set;have c3:=h3.bs.cell 3 rfl;obtain⟨kB',kC',n7,ckc⟩:=h3.kc (n:=n) (by rw[wM];exact hn);simp only[Value.slice.injEq,Option.some.injEq,Addr.mk.injEq,and_true]at n7;obtain⟨rfl,-,rfl⟩:=n7;rw[uh Xa]at ckc;by_cases ar:k<l.length
  .have hd:decide ((k:Int)<(l.length:Int))=true:=(by simp;omega);obtain⟨g,cap,cM⟩:∃g cap,KV.getD n aH=.slice (some ⟨g,0,none⟩) l.length cap:=by
    have h4:=h3.ke n (by rw[wM];exact hn);have e2:(K.set n (eI l k)).getD n []=eI l k:=(by simp[hn]);rw[e2,cB]at h4;obtain⟨g,cap,h5,-,-,-⟩:=aS h4 (by omega);exact⟨g,cap,h5⟩
   have cS:=cM;rw[uh Xa]at cS;simp only[Value.slice.injEq,true_and]at cS;obtain⟨rfl,rfl⟩:=cS;have e2:(K.set n (eI l k)).getD n []=eI l k:=(by simp[hn]);obtain⟨x0,x1,xz⟩:=h3.lE (k:=k) (l:=eI l k) (by rw[wM];exact hn) e2.symm (by rw[cB];exact cM) (by rw[cB];exact ar);have hek:(eI l k)[k]'(by rw[cB];exact ar)=l[k]:=by
    have h6:=yh ar;rw[getElem?_eq_getElem (by rw[cB];exact ar)]at h6;injection h6
   rw[hek]at x0 x1;have aE:=II ar;have k1:(0:Int)<=(k:Int):=(by omega);have k2:(k:Int)<(l.length:Int):=(by omega);cases Be:l[k].d
   .rw[Be]at x1 aE;rw[if_neg (by decide)]at aE;obtain⟨h4,uM⟩:=h3.done hn ar cM;obtain⟨W4,vu⟩:∃W4,W4=wr.setCell ⟨g,k*2+1,none⟩ (.bool true):=⟨_,rfl⟩;rw[<-vu]at h4;have hsW:am [g] wr [g] W4:=(by rw[vu];exact(am.refl [g] wr).setCell (p:=⟨g,k*2+1,none⟩) (zq0 (by simp)) (.bool true));have X5:(K.set n (eI l (k+1))).length=K.length:=length_set;have d3:=h4.bs.cell 3 rfl;obtain⟨kB',kC',n7,dkc⟩:=h4.kc (n:=n) (by rw[X5];exact hn);simp only[Value.slice.injEq,Option.some.injEq,Addr.mk.injEq,and_true]at n7;obtain⟨rfl,-,rfl⟩:=n7;rw[cM]at dkc;have e3:(K.set n (eI l (k+1))).getD n []=eI l (k+1):=(by simp[hn]);obtain⟨z0,z1,-⟩:=h4.lE (k:=k) (l:=eI l (k+1)) (by rw[X5];exact hn) e3.symm (by rw[cB];exact cM) (by rw[cB];exact ar);have hdD:((eI l (k+1))[k]'(by rw[cB];exact ar)).D=l[k].D:=by
     have h6:(eI l (k+1))[k]?=some l[k].dn:=(by rw[nP ar,getElem?_set_self (by rw[cB];exact ar)]);rw[getElem?_eq_getElem (by rw[cB];exact ar)]at h6;injection h6 with h6;rw[h6];rfl
    rw[hdD]at z0;have VO:eI l (k+1)∈K.set n (eI l (k+1)):=mem_iff_getElem?.2 ⟨n,by rw[getElem?_set_self hn]⟩;have hem:l[k].dn∈eI l (k+1):=mem_iff_getElem?.2 ⟨k,by rw[nP ar,getElem?_set_self (by rw[cB];exact ar)]⟩;have gJ:=(h4.dr _ VO _ hem).1.fo;have adO:W4.cell? ⟨l[k].D,0,none⟩=some (.pointer (some ⟨l[k].x.A,0,none⟩)):=gJ;have mI:=h1.lt;have gE:=h3.lt g uM;have hgw:=(uh HA).1.lt g uM;have PU:Hid (W4.ownsRow w.heap.size 126 1 (.slice fa (iq l k).length fc) (iq l k).length ((iq l k).map (λe=>e.x.p))):=ab (ae h1 (λq hq=>hsW.block q (mI q hq).2 (λe=>by
     rw[mem_singleton]at e;have:=(mI q hq).1;omega)))
    have Kk:=h2.trans (fL.stp (X:=[]) hsW (λq hq=>zq0 (by rw[mem_singleton]at hq;rw[hq];exact uM))) (λq hq=>by simp at hq);have jN:=RR l k;have aqF:=Kk.st.size;obtain⟨Dk,hDk⟩:∃Dk,Dk=l[k].D:=⟨_,rfl⟩;obtain⟨Ak,hAk⟩:∃Ak,Ak=l[k].x.A:=⟨_,rfl⟩;rw[<-hDk]at x0 z0 adO;rw[<-hAk]at adO;have H4:=ab (zq2 h4 (zq2 Kk (zq2 aE hAk)));clear h1 h2 h3 uM hsW hek e2 e3 X5 hdD VO hem gJ mI gE hgw h4 Kk Be hDk hAk aE hI wM cM;go_upto_region 6 with fail;rw[<-vu];clear vu c3 ckc x0 x1 xz z1;go_wp2_with (at_builtin;refine qE _ rfl (.tmp 42) (.tmp 57) 125 rfl w.heap.size 126 i0 _ 1 8 underlying125 iy dG du ef rfl (by decide) _ (iq l k).length ((iq l k).map (λe=>e.x.p)) rfl ((uh PU).alloc _) ⟨_,0,none⟩ 1 [.pointer (some ⟨Ak,0,none⟩)] rfl rfl (aJ _ _ (by simp) [.pointer (some ⟨Ak,0,none⟩)] _) (by intro u hu;simp only[mem_singleton]at hu;subst hu;rfl) (by omega) (by omega) (by simp;omega) ?_)
    intro g7 cap7 w7 gp cX eO;have tA:=jI cX (by simpa using eO);have od:=(uh PU).lt;have Jc:∀q,q<w.heap.size->q ∉ (Value.slice fa (iq l k).length fc).ownBlock.toList:=λq hq e=>by
     have:=(od q (by simpa using e)).1;omega
    obtain⟨h4,Kk,aE,hAk⟩:=uh H4;have hKV:∀q∈cD S hv (.slice (some ⟨kB,0,none⟩) K.length kC) wv KV WV,q<w.heap.size:=(uh HA).1.lt;have hKD:∀q∈dK (K.set n (eI l (k+1))),q<w.heap.size:=λq hq=>(uh HA).1.drlt q ((AL (uh HL).1 hn (k+1) q).1 hq);have h7:=h4.stp tA (λq hq=>Jc q (hKV q hq)) (λq hq=>Jc q (hKD q hq));have hg7:fL w w7 (cD S hv (.slice (some ⟨kB,0,none⟩) K.length kC) wv KV WV) (cD S hv (.slice (some ⟨kB,0,none⟩) K.length kC) wv KV WV) (dK K) (dK K) []:=Kk.trans (fL.stp (X:=(Value.slice fa (iq l k).length fc).ownBlock.toList) tA (λq hq=>zq1 hq)) (λq hq=>zq1 (od q (by simpa using hq)).1);have VY:w7.ownsRow w.heap.size 126 1 (.slice (some ⟨g7,0,none⟩) ((iq l k).length+1) cap7) (iq l (k+1)).length ((iq l (k+1)).map (λe=>e.x.p)):=by
     rw[aE,length_append,map_append];have e5:[l[k]].map (λe=>e.x.p)=[Value.pointer (some ⟨Ak,0,none⟩)]:=(by rw[hAk];rfl);rw[e5];exact gp
    have HN:=ab (zq2 VY (zq2 hg7 h7));clear gp cX eO tA od Jc h4 Kk aE hAk hKV hKD h7 hg7 VY H4 PU;go_wp2_with fail
    go_roundg (G1-1)
    case rel=>exact⟨k+1,by omega,by go_num,HN⟩
    case measure=>omega
   .have e4:=LO ar Be;rw[Be]at x1 aE;rw[if_pos rfl,append_nil]at aE;have HN:Hid (wr.ownsRow w.heap.size 126 1 (.slice fa (iq l k).length fc) (iq l (k+1)).length ((iq l (k+1)).map (λe=>e.x.p))/\fL w wr (cD S hv (.slice (some ⟨kB,0,none⟩) K.length kC) wv KV WV) (cD S hv (.slice (some ⟨kB,0,none⟩) K.length kC) wv KV WV) (dK K) (dK K) []/\Sh wr S c (.pointer (some ⟨Q,0,none⟩)) hv (.slice (some ⟨kB,0,none⟩) K.length kC) wv KV WV (K.set n (eI l (k+1))) { s with kn:=s.kn.set n ((eI l (k+1)).map En.m) }):=ab (by rw[aE,e4];exact⟨h1,h2,h3⟩);clear h1 h2 h3 hek e2 wM Be aE hI cM e4;go_wp2_with fail
    go_roundg (G1-1)
    case rel=>exact⟨k+1,by omega,by go_num,HN⟩
    case measure=>omega
  .have hd:decide ((k:Int)<(l.length:Int))=false:=(by simp;omega);have gy:k=l.length:=(by omega);have hFR:iq l k=l.filter (λe=>!e.d):=(by unfold iq;rw[take_of_length_le (by omega)]);have hDN:eI l k=eI l l.length:=(by rw[gy]);rw[hFR]at h1 ⊢;rw[hDN]at h3;rw[<-uh bC]at h3;obtain⟨FR,R6⟩:∃FR,FR=l.filter (λe=>!e.d):=⟨_,rfl⟩;have hR:=uh HR;rw[<-R6]at h1 hR ⊢;have hFl:FR.length<=l.length:=(by rw[R6];exact length_filter_le _ _);have Ek:∀q,(Value.slice fa FR.length fc).ownBlock=some q->q ∉ (cD S hv (.slice (some ⟨kB,0,none⟩) K.length kC) wv KV WV):=λq hq e=>by
    have h7:=(h1.lt q hq).1;have h8:=(uh HA).1.lt q e;omega
   have wT:fL w wr (cD S hv (.slice (some ⟨kB,0,none⟩) K.length kC) wv KV WV) (cD S hv (.slice (some ⟨kB,0,none⟩) K.length kC) wv KV WV) (dK K) (dK (K.set n (eI l l.length))) []:=⟨h2.st,λq hq=>zq0 ((AL (uh HL).1 hn l.length q).1 hq)⟩;have bR:=ab (zq2 h3 (zq2 wT (zq2 h1 (zq2 Ek hR))));have HFM:Hid (∀e∈FR,e∈l):=ab (λe he=>by rw[R6]at he;exact(mem_filter.1 he).1);clear h1 h2 h3 hI hFR hDN R6 hR Ek wT wM fC gy HR bC;go_wp2_with fail
   go_loopg [6] FR.length (λgn iv wx=>∃(j:Nat) (KV':List Value) (K':List (List En)) (s':Sr),j+gn=FR.length/\iv=.int .i64 j/\Hid (Sh wx S c (.pointer (some ⟨Q,0,none⟩)) hv (.slice (some ⟨kB,0,none⟩) K.length kC) wv KV' WV K' s'/\K'.length=K.length/\fL w wx (cD S hv (.slice (some ⟨kB,0,none⟩) K.length kC) wv KV WV) (cD S hv (.slice (some ⟨kB,0,none⟩) K.length kC) wv KV' WV) (dK K) (dK K') []/\wx.ownsRow w.heap.size 126 1 (.slice fa FR.length fc) FR.length (FR.map (λe=>e.x.p))/\(∀q,(Value.slice fa FR.length fc).ownBlock=some q->q ∉ (cD S hv (.slice (some ⟨kB,0,none⟩) K.length kC) wv KV' WV))/\pu c fuel n ((FR.drop j).map (λe=>e.x.f)) s'=R))
   case atStart=>exact⟨0,KV,_,s1,by omega,rfl,ab ⟨(uh bR).1,length_set,(uh bR).2.1,(uh bR).2.2.1,(uh bR).2.2.2.1,by rw[drop_zero];exact(uh bR).2.2.2.2.symm⟩⟩
   case round =>
    clear bR;obtain⟨j,KV',K',s',wU,rfl,hI⟩:=hrel;obtain⟨G2,AY⟩:∃G2,G2=gk:=⟨_,rfl⟩;obtain⟨h1,h2,h3,h4,h5,h6⟩:=uh hI;have c8:=h1.bs.cell 8 rfl;have Mw:s'=R->Hid (dQ wr):=λe=>ab (by rw[uh eU,<-e];exact⟨KV',K',h1,h2,h3⟩);by_cases ar:j<FR.length
    .have gx:decide ((j:Int)<(FR.length:Int))=true:=(by simp;omega);have lO:FR.drop j=FR[j]::FR.drop (j+1):=drop_eq_getElem_cons ar;rw[lO,map_cons]at h6;unfold pu at h6;cases dM:s'.fu
     .rw[dM]at c8 h6;rw[if_neg (by decide)]at h6;obtain⟨g2,cap2,cS,-,-,-⟩:=aS h4 (by omega);simp only[Value.slice.injEq,true_and]at cS;obtain⟨rfl,rfl⟩:=cS;have aq:wr.cell? ⟨g2,j,none⟩=some (.pointer (some ⟨FR[j].x.A,0,none⟩)):=by
       rw[h4.cellAt j (by omega),getElem?_map,getElem?_eq_getElem ar];rfl
      have mr:=uh HFM _ (getElem_mem ar);have wS:=(uh HA).1.dr l (uh HL).2 _ mr;have hbK:∀q∈FR[j].x.bs,q∈dK K:=λq hq=>bi.2 ⟨l,(uh HL).2,_,mr,mem_cons_of_mem _ hq⟩;have Yt:∀q,q<w.heap.size->q ∉ (cD S hv (.slice (some ⟨kB,0,none⟩) K.length kC) wv KV WV)->q ∉ (cD S hv (.slice (some ⟨kB,0,none⟩) K.length kC) wv KV' WV)/\wr.heap[q]?=w.heap[q]?:=λq hq nE=>⟨λe=>by
       rcases h3.st.foot q e with p|p
       .exact nE (by simpa using p)
       .omega,h3.st.block q hq (by simpa using nE)⟩
      have aT:∀q∈FR[j].x.bs,q ∉ (cD S hv (.slice (some ⟨kB,0,none⟩) K.length kC) wv KV' WV)/\wr.heap[q]?=w.heap[q]?:=λq hq=>Yt q ((uh HA).1.drlt q (hbK q hq)) ((uh HA).1.da q (hbK q hq));have hFw:=wS.1.ff.of_eq (w':=wr) (λq hq=>(aT q hq).2);have hCp:=(uh HA).2.1.of_eq (w':=wr) (λq hq=>(Yt q ((uh HA).2.1.lt q hq) ((uh HA).2.2.1 q hq)).2);have n8:(qB c fuel n FR[j].x.f s').ok=true:=oW _ (by rw[h6];exact uh kj);have WY:=ab (Uq h1 hCp (uh HA).2.2.2.1 (uh HA).2.2.2.2 hFw wS.2 (λq hq=>(aT q hq).1) (n:=n) (by omega) (by omega) n8);have HI:=ab (zq2 h2 (zq2 h3 (zq2 h4 (zq2 h5 h6))));obtain⟨Aj,hAj⟩:∃Aj,Aj=FR[j].x.A:=⟨_,rfl⟩;rw[<-hAj]at aq WY;have k1:(0:Int)<=(j:Int):=(by omega);have k2:(j:Int)<(FR.length:Int):=(by omega);clear h1 h2 h3 h4 h5 h6 mr wS hbK Yt aT hFw hCp n8 hAj lO hI Mw dM;go_wp2_with fail
      refine(uh WY).mono ?_;rintro e w5 ⟨rfl,qH,K2,q1,q2,q3⟩;obtain⟨h2,h3,h4,h5,h6⟩:=uh HI;have tx:=ae h4 (λq hq=>q3.st.block q (h4.lt q hq).2 (by simpa using h5 q hq));have hq5:∀q,(Value.slice (some ⟨g2,0,none⟩) FR.length fc).ownBlock=some q->q ∉ cD S hv (.slice (some ⟨kB,0,none⟩) K.length kC) wv qH WV:=λq hq e=>by
       rcases q3.st.foot q e with p|p
       .exact h5 q hq (by simpa using p)
       .have:=(h4.lt q hq).2;omega
      have HN:=ab (zq2 q1 (zq2 (q2.trans h2) (zq2 (h3.trans q3 (λq hq=>by simp at hq)) (zq2 tx (zq2 hq5 h6)))));clear q1 q2 q3 h2 h3 h4 h5 h6 tx hq5 WY HI c8 aq;go_wp2_with fail
      go_roundg (G2-1)
      case rel=>exact⟨j+1,qH,K2,_,by omega,by go_num,HN⟩
      case measure=>omega
     .rw[dM]at c8 h6;rw[if_pos rfl]at h6;have HP:=Mw h6;clear h1 h2 h3 h4 h5 h6 lO hI Mw dM;go_wp2_with fail
      go_end0
      exact⟨rfl,uh HP⟩
    .have gx:decide ((j:Int)<(FR.length:Int))=false:=(by simp;omega);rw[drop_eq_nil_of_le (by omega)]at h6;have HP:=Mw h6;clear h1 h2 h3 h4 h5 h6 hI Mw;go_wp2_with fail
     go_end0
     exact⟨rfl,uh HP⟩
end
theorem Oz{s:Sr}{n:Nat}(hn:n<s.kn.length)(h1:(s.kn[n]).any (λe=>!e.d)=true)(h2:∀m,m<n->∀l,s.kn[m]?=some l->l.any (λe=>!e.d)=false):JK s=some n:=by
 unfold JK;rw[findIdx?_eq_some_iff_getElem];refine⟨hn,h1,λj hj=>?_⟩;rw[h2 j hj _ (getElem?_eq_getElem (by omega))];decide
theorem Oy{s:Sr}(h2:∀(m:Nat) (l:List gC),s.kn[m]?=some l->l.any (λe=>!e.d)=false):JK s=none:=by
 unfold JK;rw[findIdx?_eq_none_iff];intro l hl;obtain⟨m,hm⟩:=mem_iff_getElem?.1 hl;exact h2 m l hm
section
variable {w:World} {S:Nat} {c:Cd} {c0 hv kv wv:Value} {KV WV:List Value} {K:List (List En)} {s:Sr}
theorem Sh.kn_at(h:Sh w S c c0 hv kv wv KV WV K s){m:Nat}{l:List gC}(hl:s.kn[m]?=some l):∃L,K[m]?=some L/\l=L.map En.m:=by
 rw[h.km,getElem?_map]at hl;cases hk:K[m]? with
 |none=>rw[hk]at hl;simp at hl
 |some L=>rw[hk]at hl;exact⟨L,rfl,by simpa[eq_comm] using hl⟩
theorem tX(h:Sh w S c c0 hv kv wv KV WV K s)(vt:K.length<=100000):
  Calls prog 141 #[.pointer (some ⟨S,0,none⟩)] w λe w'=>e=.returned (.int .i64 (eH (JK s)))/\Below w.heap.size w w':=by
 obtain⟨R,hR⟩:∃R,R=eH (JK s):=⟨_,rfl⟩;rw[<-hR];obtain⟨ka,kC,Bl,-,-⟩:=ah h.kr;subst Bl;have bR:Hid (Below w.heap.size w w/\∀m,m<0->∀L,K[m]?=some L->L.any (λe=>!e.d)=false):=ab ⟨Below.refl _ _,λm hm=>by omega⟩;have H:=ab h;have HR:=ab hR;have Wt:Hid (∀L:List En,(L.map En.m).any (λe=>!e.d)=L.any (λe=>!e.d)):=ab (λL=>by rw[any_map];rfl);clear h hR;go_enter func141,ntmps141;go_wp2_with fail
 go_loopg [3] K.length (λgn iv wx=>∃(k:Nat),k+gn=K.length/\iv=.int .i64 k/\Hid (Below w.heap.size w wx/\∀m,m<k->∀L,K[m]?=some L->L.any (λe=>!e.d)=false))
 case atStart=>exact⟨0,by omega,rfl,bR⟩
 case round =>
  clear bR;obtain⟨k,fC,rfl,hI⟩:=hrel;obtain⟨G1,wK⟩:∃G1,G1=gk:=⟨_,rfl⟩;have h1:=(uh H).below (uh hI).1;have c3:=h1.bs.cell 3 rfl;by_cases ar:k<K.length
  .have hd:decide ((k:Int)<(K.length:Int))=true:=(by simp;omega);obtain⟨kB',kC',n7,ckc⟩:=h1.kc ar;simp only[Value.slice.injEq,true_and]at n7;obtain⟨rfl,rfl⟩:=n7;obtain⟨L,hL⟩:∃L,L=K.getD k []:=⟨_,rfl⟩;have hLK:K[k]?=some L:=(by rw[hL,bp ar,getElem?_eq_getElem ar]);have iz:=(uh H).ke k ar;rw[<-hL]at iz;obtain⟨va,vc,q7,Jr,NE⟩:=ah iz;rw[q7]at ckc iz;have HK:=ab iz;have PR:=ab hLK;have i1:(0:Int)<=(k:Int):=(by omega);have i2:(k:Int)<(K.length:Int):=(by omega);have mi:Hid (Below w.heap.size w wr/\∀i,i<0->∀e,L[i]?=some e->e.d=true):=ab ⟨(uh hI).1,λm hm=>by omega⟩;have db:=ab (uh hI).2;clear h1 hL hLK iz q7 hI;go_wp2_with fail
   go_loopg [23] L.length (λgn iv wx=>∃(j:Nat),j+gn=L.length/\iv=.int .i64 j/\Hid (Below w.heap.size w wx/\∀i,i<j->∀e,L[i]?=some e->e.d=true))
   case atStart=>exact⟨0,by omega,rfl,mi⟩
   case round =>
    clear mi c3 ckc;obtain⟨j,wU,rfl,hJ⟩:=hrel;obtain⟨G2,AY⟩:∃G2,G2=gk:=⟨_,rfl⟩;by_cases bf:j<L.length
    .have gx:decide ((j:Int)<(L.length:Int))=true:=(by simp;omega);have fH:=b8 (uh HK) (uh hJ).1;obtain⟨g,cap,cM,-,-⟩:=aS fH (by omega);simp only[Value.slice.injEq,true_and]at cM;obtain⟨rfl,rfl⟩:=cM;obtain⟨x0,x1⟩:=kS fH rfl bf;have bZ:L[j]?=some L[j]:=getElem?_eq_getElem bf;obtain⟨e,Ki⟩:∃e,e=L[j]:=⟨_,rfl⟩;rw[<-Ki]at x0 x1 bZ;obtain⟨eD,ex,ed⟩:=e;simp only at x0 x1;have zG:=ab bZ;have k1:(0:Int)<=(j:Int):=(by omega);have k2:(j:Int)<(L.length:Int):=(by omega);have b6:Below w.heap.size w (wr.alloc (.cells #[Value.pointer (some ⟨eD,0,none⟩),.bool ed] 258)):=(uh hJ).1.trans ((af wr _).mono (uh hJ).1.size);have gH:=ab b6;clear fH bZ Ki b6;cases ed
     .have HE:Hid (R=(k:Int)):=ab (by
       have hkL:k<s.kn.length:=(by rw[(uh H).km,length_map];exact ar);rw[uh HR,Oz hkL ?_ ?_]
       .rfl
       .obtain⟨L2,h2,h3⟩:=(uh H).kn_at (getElem?_eq_getElem hkL);rw[uh PR]at h2;injection h2 with h2;rw[h3,<-h2,uh Wt,any_eq_true];exact⟨_,mem_of_getElem? (uh zG),rfl⟩
       .intro m hm l hl;obtain⟨L2,h2,rfl⟩:=(uh H).kn_at hl;rw[uh Wt];exact uh db m hm L2 h2)
      go_wp2_with fail
      go_ret;exact⟨aQ (uh HE).symm,uh gH⟩
     .go_wp2_with fail
      go_roundg (G2-1)
      case rel=>exact⟨j+1,by omega,by go_num,ab ⟨uh gH,λi hi y hy=>by
       by_cases e':i=j
       .rw[e',uh zG]at hy;injection hy with hy;rw[<-hy]
       .exact(uh hJ).2 i (by omega) y hy⟩⟩
      case measure=>omega
    .have gx:decide ((j:Int)<(L.length:Int))=false:=(by simp;omega);go_wp2_with fail
     go_roundg (G1-1)
     case rel=>exact⟨k+1,by omega,by go_num,ab ⟨(uh hJ).1,λm hm L2 h2=>by
      by_cases e':m=k
      .rw[e',uh PR]at h2;injection h2 with h2;rw[<-h2,any_eq_false];intro e he;obtain⟨i,hi⟩:=mem_iff_getElem?.1 he;rw[(uh hJ).2 i (by have:=(List.getElem?_eq_some_iff.1 hi).1;omega) e hi];decide
      .exact uh db m (by omega) L2 h2⟩⟩
     case measure=>omega
  .have hd:decide ((k:Int)<(K.length:Int))=false:=(by simp;omega);have HE:Hid (R=-1):=ab (by
    rw[uh HR,Oy (λm l hl=>?_)]
    .rfl
    .obtain⟨L,hL,rfl⟩:=(uh H).kn_at hl;rw[uh Wt];exact(uh hI).2 m (by have:=(List.getElem?_eq_some_iff.1 hL).1;omega) L hL)
   clear h1;go_wp2_with fail
   go_ret;exact⟨aQ (uh HE).symm,(uh hI).1⟩
end
def lP(m k i:Nat):Nat:=if k=2/\m<=i then i+1 else m
theorem Na{al:List bt}{k:Nat}(h:k<al.length):vA (al.take (k+1))=lP (lP (vA (al.take k)) al[k].lk al[k].li) al[k].rk al[k].ri:=by
 unfold vA;rw[take_succ_eq_append_getElem h,foldl_append];rfl
theorem D4{m k i:Nat}(hm:m<=101)(hi:i<=100):lP m k i<=101:=by unfold lP;split <;> omega
theorem M9:∀(al:List bt),(∀a∈al,a.li<=100/\a.ri<=100)->vA al<=101:=by
 intro al h;have key:∀(l:List bt) (m:Nat),(∀a∈l,a.li<=100/\a.ri<=100)->m<=101->l.foldl (λm a=>lP (lP m a.lk a.li) a.rk a.ri) m<=101:=by
  intro l;induction l with
  |nil=>intro m _ hm;exact hm
  |cons a l ih=>intro m hl hm;exact ih _ (λb hb=>hl b (mem_cons_of_mem _ hb)) (D4 (D4 hm (hl a (by simp)).1) (hl a (by simp)).2)
 exact key al 0 h (by omega)
theorem Ze(a b c d:Value)(w:World):(Instr.index 287 (.agg #[a,b,c,d]) (.int .i64 0)).run prog w=.ok (.agg #[a,b]) w:=by kernel_rfl
theorem Zf(a b c d:Value)(w:World):(Instr.index 287 (.agg #[a,b,c,d]) (.int .i64 1)).run prog w=.ok (.agg #[c,d]) w:=by kernel_rfl
section
variable {w:World} {B:Nat} {av:Value} {al:List bt}
theorem D5(h:w.ownsRow B 239 5 av al.length (bh al))(mG:al.length<=1000)(hb:∀a∈al,a.li<=100/\a.ri<=100):
  Calls prog 196 #[av] w λe w'=>e=.returned (.int .i64 (vA al:Nat))/\Below w.heap.size w w':=by
 obtain⟨ao,cap,eS,iw,fs,aq⟩:=lI h;have HC:=ab aq;have HBD:=ab hb;have CB:Hid (∀k,vA (al.take k)<=101):=ab (λk=>M9 _ (λa ha=>hb a (mem_of_mem_take ha)));rw[eS];clear h aq eS hb;go_enter func196,ntmps196;go_wp2_with fail
 go_loopg [3,10] al.length (λgn cv iv wx=>∃(k:Nat),k+gn=al.length/\iv=.int .i64 k/\cv=.int .i64 (vA (al.take k):Nat)/\Hid (Below w.heap.size w wx))
 case atStart=>exact⟨0,by omega,rfl,rfl,ab (Below.refl _ _)⟩
 case round =>
  obtain⟨k,fC,rfl,rfl,hI⟩:=hrel;obtain⟨G1,wK⟩:∃G1,G1=gk:=⟨_,rfl⟩;by_cases ar:k<al.length
  .have hd:decide ((k:Int)<(al.length:Int))=true:=(by simp;omega);obtain⟨g,rfl,gE,hc⟩:=uh HC (λe=>by rw[e]at ar;simp at ar);obtain⟨x0,x1,x2,x3,x4⟩:=hc k ar;have x0:=((uh hI).cell gE).trans x0;have x1:=((uh hI).cell gE).trans x1;have x2:=((uh hI).cell gE).trans x2;have x3:=((uh hI).cell gE).trans x3;have x4:=((uh hI).cell gE).trans x4;have aE:=Na ar;have hbd:=uh HBD _ (getElem_mem ar);have hm1:=uh CB k;obtain⟨a,ha⟩:∃a,a=al[k]:=⟨_,rfl⟩;rw[<-ha]at x0 x1 x2 x3 x4 aE hbd;obtain⟨m,hm⟩:∃m,m=vA (al.take k):=⟨_,rfl⟩;rw[<-hm]at aE hm1 ⊢;obtain⟨ak,alk,ali,ark,ari⟩:=a;simp only at x0 x1 x2 x3 x4 aE hbd;have bA:=ab aE;have cY:Hid (Below w.heap.size w (wr.alloc (.cells #[Value.int .i64 ak,.int .i64 alk,.int .i64 ali,.int .i64 ark,.int .i64 ari] 239))):=ab ((uh hI).trans ((af wr _).mono (uh hI).size));have i1:(0:Int)<=(k:Int):=(by omega);have i2:(k:Int)<(al.length:Int):=(by omega);have j0:=Ze (.int .i64 (alk:Int)) (.int .i64 (ali:Int)) (.int .i64 (ark:Int)) (.int .i64 (ari:Int));have j1:=Zf (.int .i64 (alk:Int)) (.int .i64 (ali:Int)) (.int .i64 (ark:Int)) (.int .i64 (ari:Int));clear hc aE ha hm hI;go_wp2_with fail
   go_loopg [3,19] 2 (λgn cv iv wx=>∃(j:Nat),j+gn=2/\iv=.int .i64 j/\cv=.int .i64 ((if j=0 then m else if j=1 then lP m alk ali else lP (lP m alk ali) ark ari:Nat):Int)/\Hid (Below w.heap.size w wx))
   case atStart=>exact⟨0,by omega,rfl,rfl,cY⟩
   case round =>
    clear cY;obtain⟨j,wU,rfl,rfl,hJ⟩:=hrel;obtain⟨G2,AY⟩:∃G2,G2=gk:=⟨_,rfl⟩;have hj3:j=0\/j=1\/j=2:=(by omega);rcases hj3 with rfl|rfl|rfl
    .rw[if_pos rfl];have HN:Hid (Below w.heap.size w (wr.alloc (.cells #[Value.int .i64 alk,.int .i64 ali] 184))):=ab ((uh hJ).trans ((af wr _).mono (uh hJ).size));clear hJ;by_cases h2:alk=2
     .have d2:((alk:Int)==(2:Int))=true:=(by simp[h2]);by_cases bZ:m<=ali
      .have d3:decide (m<=ali)=true:=(by simpa using bZ);have HT:Hid (lP m alk ali=ali+1):=ab (by unfold lP;rw[if_pos ⟨h2,bZ⟩]);clear h2 bZ;go_wp2_with fail
       go_roundg (G2-1)
       case rel=>exact⟨1,by omega,by go_num,by rw[if_neg (by decide),if_pos rfl,uh HT];go_num,HN⟩
       case measure=>omega
      .have d3:decide (m<=ali)=false:=(by simpa using bZ);have HT:Hid (lP m alk ali=m):=ab (by unfold lP;rw[if_neg (λh=>bZ h.2)]);clear h2 bZ;go_wp2_with fail
       go_roundg (G2-1)
       case rel=>exact⟨1,by omega,by go_num,by rw[if_neg (by decide),if_pos rfl,uh HT],HN⟩
       case measure=>omega
     .have d2:((alk:Int)==(2:Int))=false:=(by simp;omega);have HT:Hid (lP m alk ali=m):=ab (by unfold lP;rw[if_neg (λh=>h2 h.1)]);clear h2;go_wp2_with fail
      go_roundg (G2-1)
      case rel=>exact⟨1,by omega,by go_num,by rw[if_neg (by decide),if_pos rfl,uh HT],HN⟩
      case measure=>omega
    .rw[if_neg (by decide),if_pos rfl];have HN:Hid (Below w.heap.size w (wr.alloc (.cells #[Value.int .i64 ark,.int .i64 ari] 184))):=ab ((uh hJ).trans ((af wr _).mono (uh hJ).size));have qs:=D4 (k:=alk) hm1 hbd.1;obtain⟨m1,hm1e⟩:∃m1,m1=lP m alk ali:=⟨_,rfl⟩;have HM1:=ab hm1e;rw[<-hm1e]at qs ⊢;clear hJ hm1e;by_cases h2:ark=2
     .have d2:((ark:Int)==(2:Int))=true:=(by simp[h2]);by_cases bZ:m1<=ari
      .have d3:decide (m1<=ari)=true:=(by simpa using bZ);have HT:Hid (lP m1 ark ari=ari+1):=ab (by unfold lP;rw[if_pos ⟨h2,bZ⟩]);clear h2 bZ;go_wp2_with fail
       go_roundg (G2-1)
       case rel=>exact⟨2,by omega,by go_num,by rw[if_neg (by decide),if_neg (by decide),<-uh HM1,uh HT];go_num,HN⟩
       case measure=>omega
      .have d3:decide (m1<=ari)=false:=(by simpa using bZ);have HT:Hid (lP m1 ark ari=m1):=ab (by unfold lP;rw[if_neg (λh=>bZ h.2)]);clear h2 bZ;go_wp2_with fail
       go_roundg (G2-1)
       case rel=>exact⟨2,by omega,by go_num,by rw[if_neg (by decide),if_neg (by decide),<-uh HM1,uh HT],HN⟩
       case measure=>omega
     .have d2:((ark:Int)==(2:Int))=false:=(by simp;omega);have HT:Hid (lP m1 ark ari=m1):=ab (by unfold lP;rw[if_neg (λh=>h2 h.1)]);clear h2;go_wp2_with fail
      go_roundg (G2-1)
      case rel=>exact⟨2,by omega,by go_num,by rw[if_neg (by decide),if_neg (by decide),<-uh HM1,uh HT],HN⟩
      case measure=>omega
    .rw[if_neg (by decide),if_neg (by decide)];go_wp2_with fail
     go_roundg (G1-1)
     case rel=>exact⟨k+1,by omega,by go_num,by rw[uh bA],hJ⟩
     case measure=>omega
  .have hd:decide ((k:Int)<(al.length:Int))=false:=(by simp;omega);have gy:al.take k=al:=take_of_length_le (by omega);rw[gy];clear gy;go_wp2_with fail
   go_ret;exact⟨rfl,uh hI⟩
end
def qj(m:MS):Bool:=(mw (iM m.cs) m.cs.length [] m.st).length==m.cs.length
def pi(nds:List Nd)(m:MS)(n:Nat):MS:=if (Oc nds n).op=0 then { m with nd:=n,wh:=if qj m then 1 else 2 } else { m with nd:=n }
section
variable {w w':World} {R Q:Nat} {ws:List ByteArray} {s:PS} {al:List bt} {m:MS} {vv pv nv sv cv:Value}
theorem Mc.memR:R∈cZ R sv cv:=by simp[cZ]
theorem iX(h:Mc w R Q ws s al m vv pv nv sv cv)(n:Nat)(hl:s.nodes.length<=100000)(hc:m.cs.length<=100000):
  Calls prog 98 #[.pointer (some ⟨R,0,none⟩),.int .i64 n] w λe w'=>e=.returned (.tuple #[])/\Mc w' R Q ws s al (pi s.nodes m n) vv pv nv sv cv/\am (cZ R sv cv) w (cZ R sv cv) w':=by
 have c1:=h.c1;have f1:=h.bk.frz 1;have h1:=h.setNode n;have bC:Hid (am (cZ R sv cv) w (cZ R sv cv) (w.setCell ⟨R,1,none⟩ (.int .i64 (n:Int)))):=ab ((am.refl (cZ R sv cv) w).setCell (p:=⟨R,1,none⟩) (zq0 Mc.memR) _);have H1:=ab h1;have d0:=h1.c0;clear h h1;go_enter func98,ntmps98;go_wp2_with fail
 obtain⟨w1,qx⟩:∃w1,w1=w.setCell ⟨R,1,none⟩ (.int .i64 (n:Int)):=⟨_,rfl⟩;rw[<-qx]at bC H1 d0 ⊢;clear qx c1 f1;refine(Dl n (uh H1).cp hl).mono ?_;rintro e w2 ⟨rfl,ax⟩;obtain⟨nd,cH⟩:∃nd,nd=Oc s.nodes n:=⟨_,rfl⟩;rw[<-cH];obtain⟨op,v,ak,ai,nx,ot⟩:=nd;have KE:=ab cH;simp only[Nd.cells];obtain⟨z,hz⟩:∃z:Int,z=(op:Int):=⟨_,rfl⟩;rw[<-hz];have h2:=(uh H1).below ax;have bz:=ab ((uh bC).trans (am.ofBw ax));have aT:=af w2 (.cells #[Value.int .i64 z,.int .i64 v,.int .i64 ak,.int .i64 ai,.int .i64 nx,.int .i64 ot] 186);have h3:=h2.below aT;have dd:=ab ((uh bz).trans (am.ofBw aT));have H3:=ab h3;have e2:=h3.c2;have f2:=h3.bk.frz 2;clear cH h2 ax aT h3;have HZ:=ab hz;clear hz;by_cases dV:op=0
 .have HE:Hid (pi s.nodes m n={ m with nd:=n,wh:=if qj m then 1 else 2 }):=ab (by unfold pi;rw[<-uh KE];exact if_pos dV);have dG:(z != 0)=false:=by rw[uh HZ,dV];rfl
  clear dV;go_wp2_with fail
  obtain⟨w4,uT⟩:∃w4,w4=(w2.alloc (.cells #[Value.int .i64 z,.int .i64 v,.int .i64 ak,.int .i64 ai,.int .i64 nx,.int .i64 ot] 186)).setCell ⟨R,2,none⟩ (.int .i64 2):=⟨_,rfl⟩;rw[<-uT];have H4:Hid (Mc w4 R Q ws s al { m with nd:=n,wh:=2 } vv pv nv sv cv):=ab (by rw[uT];exact(uh H3).setWhat 2);have dW:Hid (am (cZ R sv cv) w (cZ R sv cv) w4):=ab (by rw[uT];exact(uh dd).setCell (p:=⟨R,2,none⟩) (zq0 Mc.memR) _);have g3:=(uh H4).c3;have qG:Hid (Calls prog 148 #[.pointer (some ⟨R,4,none⟩),sv] w4.drew λe w'=>e=.returned (.bool (qj m))/\Below w4.heap.size w4 w'):=ab ((Du (w:=w4.drew) (X:=R) (o:=4) (uh H4).c4 (uh H4).cs (uh H4).srt hc (uh H4).st (uh H4).ls).mono (by
   rintro e w5 ⟨rfl,b6⟩;exact⟨rfl,⟨b6.os,b6.tape,b6.output,b6.size,b6.block⟩⟩))
  clear uT e2 f2 dG;go_region_with (go_at_call 148;refine(uh qG).mono ?_;rintro e w5 ⟨rfl,b6⟩;have gH:=ab b6;clear b6)
  all_goals
   have h5:=(uh H4).below (uh gH);have gN:=ab ((uh dW).trans (am.ofBw (uh gH)));have H5:=ab h5;have k2:=h5.c2;have z2:=h5.bk.frz 2;clear h5;cases hdn:qj m with
   |true =>
    have H6:=ab ((uh H5).setWhat 1);have Ai:=ab ((uh gN).setCell (p:=⟨R,2,none⟩) (zq0 Mc.memR) (.int .i64 ((1:Nat):Int)));rw[hdn]at HE;go_wp2_with fail
    go_end0
    exact⟨rfl,by rw[uh HE];exact uh H6,uh Ai⟩
   |false =>
    rw[hdn]at HE;go_wp2_with fail
    go_end0
    exact⟨rfl,by rw[uh HE];exact uh H5,uh gN⟩
 .have HE:Hid (pi s.nodes m n={ m with nd:=n }):=ab (by unfold pi;rw[<-uh KE];exact if_neg dV);have aqs:(z != 0)=true:=by rw[uh HZ];simpa[bne] using dV
  clear e2 f2 dV;go_wp2_with fail
  exact bodyPost_ret (v:=.tuple #[]) (by simp[results,Tryz.results98,go_sem]) rfl ⟨rfl,by rw[uh HE];exact uh H3,uh dd⟩
end
def ni(nds:List Nd)(m:MS)(nd:Nd)(a:Int)(b:Bool):MS:=if b then pi nds m nd.nx else { m with wh:=if a=0 then 3 else 4 }
def GR(nds:List Nd)(m:MS)(nd:Nd)(b:Bool):MS:=pi nds m (if b then nd.nx else nd.ot)
section
variable {w w':World} {R Q:Nat} {ws:List ByteArray} {s:PS} {al:List bt} {m:MS} {vv pv nv sv cv:Value}
theorem yX(h:Mc w R Q ws s al m vv pv nv sv cv)(nd:Nd)(b:Bool)(hl:s.nodes.length<=100000)(hc:m.cs.length<=100000):
  Calls prog 112 #[.pointer (some ⟨R,0,none⟩),.agg nd.cells.toArray,.bool b] w λe w'=>e=.returned (.tuple #[])/\Mc w' R Q ws s al (GR s.nodes m nd b) vv pv nv sv cv/\am (cZ R sv cv) w (cZ R sv cv) w':=by
 obtain⟨op,v,ak,ai,nx,ot⟩:=nd;simp only[Nd.cells];have aT:=af w (.cells #[Value.int .i64 op,.int .i64 v,.int .i64 ak,.int .i64 ai,.int .i64 nx,.int .i64 ot] 186);have H1:=ab (h.below aT);have bC:Hid (am (cZ R sv cv) w (cZ R sv cv) _):=ab (am.ofBw aT);have n3:=(Bk.new w 186 [Value.int .i64 op,.int .i64 v,.int .i64 ak,.int .i64 ai,.int .i64 nx,.int .i64 ot]).cell 3 rfl;have n4:=(Bk.new w 186 [Value.int .i64 op,.int .i64 v,.int .i64 ak,.int .i64 ai,.int .i64 nx,.int .i64 ot]).cell 4 rfl;clear h aT;cases b with
 |true =>
  go_enter func112,ntmps112;go_wp2_with fail
  refine(iX (uh H1) nx hl hc).mono ?_;rintro e w2 ⟨rfl,h2,ce⟩;have H2:=ab h2;have bz:=ab ce;clear h2 ce;go_wp2_with fail
  exact bodyPost_ret (v:=.tuple #[]) (by simp[results,Tryz.results112,go_sem]) rfl ⟨rfl,uh H2,(uh bC).trans (uh bz)⟩
 |false =>
  go_enter func112,ntmps112;go_wp2_with fail
  refine(iX (uh H1) ot hl hc).mono ?_;rintro e w2 ⟨rfl,h2,ce⟩;have H2:=ab h2;have bz:=ab ce;clear h2 ce;go_wp2_with fail
  go_end0
  exact⟨rfl,uh H2,(uh bC).trans (uh bz)⟩
theorem lT(h:Mc w R Q ws s al m vv pv nv sv cv)(nd:Nd)(a:Int)(b:Bool)(hl:s.nodes.length<=100000)(hc:m.cs.length<=100000):
  Calls prog 110 #[.pointer (some ⟨R,0,none⟩),.agg nd.cells.toArray,.int .i64 a,.bool b] w λe w'=>e=.returned (.tuple #[])/\Mc w' R Q ws s al (ni s.nodes m nd a b) vv pv nv sv cv/\am (cZ R sv cv) w (cZ R sv cv) w':=by
 obtain⟨op,v,ak,ai,nx,ot⟩:=nd;simp only[Nd.cells];have aT:=af w (.cells #[Value.int .i64 op,.int .i64 v,.int .i64 ak,.int .i64 ai,.int .i64 nx,.int .i64 ot] 186);have h1:=h.below aT;have H1:=ab h1;have bC:Hid (am (cZ R sv cv) w (cZ R sv cv) _):=ab (am.ofBw aT);have n3:=(Bk.new w 186 [Value.int .i64 op,.int .i64 v,.int .i64 ak,.int .i64 ai,.int .i64 nx,.int .i64 ot]).cell 3 rfl;have e2:=h1.c2;have f2:=h1.bk.frz 2;clear h aT h1;cases b with
 |true =>
  go_enter func110,ntmps110;go_wp2_with fail
  refine(iX (uh H1) nx hl hc).mono ?_;rintro e w2 ⟨rfl,h2,ce⟩;have H2:=ab h2;have bz:=ab ce;clear h2 ce;go_wp2_with fail
  exact bodyPost_ret (v:=.tuple #[]) (by simp[results,Tryz.results110,go_sem]) rfl ⟨rfl,uh H2,(uh bC).trans (uh bz)⟩
 |false =>
  have h2:=(uh H1).setWhat 4;have H2:=ab h2;have bz:=ab ((uh bC).setCell (p:=⟨R,2,none⟩) (zq0 Mc.memR) (.int .i64 ((4:Nat):Int)));have k2:((w.alloc (.cells #[Value.int .i64 op,.int .i64 v,.int .i64 ak,.int .i64 ai,.int .i64 nx,.int .i64 ot] 186)).setCell ⟨R,2,none⟩ (.int .i64 4)).cell? ⟨R,2,none⟩=some (.int .i64 4):=h2.c2;have z2:=h2.bk.frz 2;have H3:=ab (h2.setWhat 3);have dd:=ab ((uh bz).setCell (p:=⟨R,2,none⟩) (zq0 Mc.memR) (.int .i64 ((3:Nat):Int)));clear h2;by_cases ha:a=0
  .have ha0:(a==0)=true:=(by simpa using ha);have HE:Hid (ni s.nodes m ⟨op,v,ak,ai,nx,ot⟩ a false={ m with wh:=3 }):=ab (by simp[ni,ha]);clear ha;go_enter func110,ntmps110;go_wp2_with fail
   go_end0
   refine⟨rfl,?_,?_⟩
   .rw[uh HE];first|exact uh H3
   .first|exact uh dd|exact(uh bC).setCell (p:=⟨R,2,none⟩) (zq0 Mc.memR) _
  .have ha0:(a==0)=false:=(by simpa using ha);have HE:Hid (ni s.nodes m ⟨op,v,ak,ai,nx,ot⟩ a false={ m with wh:=4 }):=ab (by simp[ni,ha]);clear ha;go_enter func110,ntmps110;go_wp2_with fail
   go_end0
   exact⟨rfl,by rw[uh HE];exact uh H2,uh bz⟩
end
theorem GN{l:List (Int × Int)}(h:ky l)(i:Nat)(n:Int):ky (uV l i n):=by
 by_cases hi:i<l.length
 .have e:(uV l i n).map (·.1)=l.map (·.1):=by
   unfold uV;rw[map_set];apply ext_getElem
   .simp
   .intro j h1 h2;rw[getElem_set];split
    .rename_i hj;subst hj;simp[hi]
    .rfl
  unfold ky at h ⊢;have h2:(l.map (·.1)).Pairwise (·<·):=pairwise_map.2 h;rw[<-e]at h2;exact pairwise_map.1 h2
 .unfold uV;rw[set_eq_of_length_le (by omega)];exact h
theorem Hf{l:List (Int × Int)}(h:ky l)(i:Nat):ky (Kq l i):=h.sublist (eraseIdx_sublist _ _)
theorem xP(l:List (Int × Int))(a n:Int):(CH l a n).length=l.length+1:=by
 have:=yV l a;simp[CH];omega
def Ix(nds:List Nd)(m:MS)(nd:Nd)(c:Int):MS × Nat :=
 if c<1\/1048576<c then (m,5) else match cq m.cs c with
  |some _=>(m,5)
  |none=>(pi nds { m with cs:=CH m.cs c 0,st:=m.st.set nd.v c } nd.nx,0)
def P0(nds:List Nd)(m:MS)(nd:Nd)(a:Int):MS:=match cq m.cs a with
 |some i=>ni nds { m with st:=m.st.set nd.v (m.cs.getD i (0,0)).2 } nd a true
 |none=>ni nds m nd a false
section
variable {w w':World} {R Q:Nat} {ws:List ByteArray} {s:PS} {al:List bt} {m:MS} {vv pv nv sv cv:Value}
theorem Ts(h:Mc w R Q ws s al m vv pv nv sv cv)(nd:Nd)(c:Int)(hl:s.nodes.length<=100000)(hc:m.cs.length<=99999):
  Calls prog 107 #[.pointer (some ⟨R,0,none⟩),.agg nd.cells.toArray,.int .i64 c] w λe w'=>e=.returned (.int .i64 ((Ix s.nodes m nd c).2:Nat))/\∃cv',Mc w' R Q ws s al (Ix s.nodes m nd c).1 vv pv nv sv cv'/\am (cZ R sv cv) w (cZ R sv cv') w':=by
 obtain⟨op,v,ak,ai,nx,ot⟩:=nd;simp only[Nd.cells];have aT:=af w (.cells #[Value.int .i64 op,.int .i64 v,.int .i64 ak,.int .i64 ai,.int .i64 nx,.int .i64 ot] 186);have h1:=h.below aT;have H1:=ab h1;have bC:Hid (am (cZ R sv cv) w (cZ R sv cv) _):=ab (am.ofBw aT);have HNw:=ab (Bk.new w 186 [Value.int .i64 op,.int .i64 v,.int .i64 ak,.int .i64 ai,.int .i64 nx,.int .i64 ot]);have wP:=h.lt;have WW:=ab wP;clear h aT wP;by_cases hb:c<1\/1048576<c
 .have HE:Hid (Ix s.nodes m ⟨op,v,ak,ai,nx,ot⟩ c=(m,5)):=ab (by unfold Ix;rw[if_pos hb]);clear h1;by_cases aO:c<1
  .go_enter func107,ntmps107;go_wp2_with fail
   go_ret;exact⟨by rw[uh HE];rfl,cv,by rw[uh HE];exact uh H1,uh bC⟩
  .have ax:1048576<c:=(by omega);have DW:decide (c<1)=false:=(by simpa using aO);go_enter func107,ntmps107;go_wp2_with fail
   go_ret;exact⟨by rw[uh HE];rfl,cv,by rw[uh HE];exact uh H1,uh bC⟩
 .have DW:decide (c<1)=false:=by simp;omega
  have gx:decide (1048576<c)=false:=by simp;omega
  have aO:¬ c<1:=by omega
  have ax:¬ 1048576<c:=by omega
  cases hf:cq m.cs c with
  |some i =>
   have HE:Hid (Ix s.nodes m ⟨op,v,ak,ai,nx,ot⟩ c=(m,5)):=ab (by unfold Ix;rw[if_neg hb,hf]);have HA:=ab (Ra c 0 h1.c4 h1.cs h1.srt hf);clear h1 hb hf;go_enter func107,ntmps107;go_wp2_with fail
   refine(uh HA).mono ?_;rintro e w2 ⟨rfl,rfl⟩;go_wp2_with fail
   go_ret;exact⟨by rw[uh HE];rfl,cv,by rw[uh HE];exact uh H1,uh bC⟩
  |none =>
   have HE:Hid (Ix s.nodes m ⟨op,v,ak,ai,nx,ot⟩ c=(pi s.nodes { m with cs:=CH m.cs c 0,st:=m.st.set v c } nx,0)):=ab (by unfold Ix;rw[if_neg hb,hf]);have HA:=ab (Ay (o:=4) c 0 h1.bk rfl h1.cs h1.srt h1.nds.2.1 (by omega) hf);have HSr:=ab (xQ (n:=0) h1.srt hf);clear h1 hb hf;go_enter func107,ntmps107;go_wp2_with fail
   refine(uh HA).mono ?_;rintro e w2 ⟨rfl,cv',ax,fH,nE,ce⟩;obtain⟨h2,bK⟩:=(uh H1).cells ax fH (xP _ _ _).symm (uh HSr) nE
    ce
   have ade:=(uh bC).trans bK;have uZ:Hid (w.heap.size ∉ cZ R sv cv'):=ab (by
    intro hm;rcases bK.foot _ hm with h1|h1
    .have:=uh WW _ h1;omega
    .simp at h1;omega)
   have sY:=(uh HNw).stp ce (by
    intro hm;rcases mem_cons.1 hm with e|hm
    .have:=uh WW R (by simp[cZ]);omega
    .have:=uh WW w.heap.size (by simp only[cZ,mem_cons,mem_append];exact zq1 (zq1 hm));omega)
   have n1:=sY.cell 1 rfl;have vX:=ab sY;have H2:=ab h2;have bz:=ab ade;clear ax fH nE ce h2 bK ade sY;go_wp2_with fail
   refine(tQ (uh H2) v c).mono ?_;rintro e w3 ⟨rfl,h3,dP⟩;have qN:=(uh vX).stp dP (uh uZ);have n3:=qN.cell 4 rfl;have H3:=ab h3;have dd:=ab ((uh bz).trans dP);clear h3 dP qN;go_wp2_with fail
   refine(iX (uh H3) nx hl (by show(CH m.cs c 0).length<=100000;rw[xP];omega)).mono ?_;rintro e w4 ⟨rfl,h4,eG⟩;have H4:=ab h4;have dW:=ab ((uh dd).trans eG);clear h4 eG;go_wp2_with fail
   go_ret;exact⟨by rw[uh HE];rfl,cv',by rw[uh HE];exact uh H4,uh dW⟩
theorem Tv(h:Mc w R Q ws s al m vv pv nv sv cv)(nd:Nd)(a:Int)(hl:s.nodes.length<=100000)(hc:m.cs.length<=100000):
  Calls prog 108 #[.pointer (some ⟨R,0,none⟩),.agg nd.cells.toArray,.int .i64 a] w λe w'=>e=.returned (.tuple #[])/\Mc w' R Q ws s al (P0 s.nodes m nd a) vv pv nv sv cv/\am (cZ R sv cv) w (cZ R sv cv) w':=by
 obtain⟨op,v,ak,ai,nx,ot⟩:=nd;have aT:=af w (.cells #[Value.int .i64 op,.int .i64 v,.int .i64 ak,.int .i64 ai,.int .i64 nx,.int .i64 ot] 186);have h1:=h.below aT;have H1:=ab h1;have bC:Hid (am (cZ R sv cv) w (cZ R sv cv) _):=ab (am.ofBw aT);have mq:=Bk.new w 186 [Value.int .i64 op,.int .i64 v,.int .i64 ak,.int .i64 ai,.int .i64 nx,.int .i64 ot];have Fk:=ab mq;have uZ:Hid (w.heap.size ∉ cZ R sv cv):=ab (λhm=>by have:=h.lt _ hm;omega);have HF:=ab (js a h1.c4 h1.cs h1.srt);have HNd:Hid (Nd.cells ⟨op,v,ak,ai,nx,ot⟩=[.int .i64 op,.int .i64 v,.int .i64 ak,.int .i64 ai,.int .i64 nx,.int .i64 ot]):=ab rfl;rw[uh HNd];cases hf:cq m.cs a with
 |none =>
  have HE:Hid (P0 s.nodes m ⟨op,v,ak,ai,nx,ot⟩ a=ni s.nodes m ⟨op,v,ak,ai,nx,ot⟩ a false):=ab (by unfold P0;rw[hf]);have e:nR m.cs a=-1:=by unfold nR;rw[hf]
  rw[e]at HF;have HP:=ab (lT h1 ⟨op,v,ak,ai,nx,ot⟩ a false hl hc);rw[uh HNd]at HP;clear h h1 aT mq hf e;go_enter func108,ntmps108;go_wp2_with fail
  refine(uh HF).mono ?_;rintro e w2 ⟨rfl,rfl⟩;go_wp2_with fail
  refine(uh HP).mono ?_;rintro e w3 ⟨rfl,h3,dP⟩;have H3:=ab h3;have dd:=ab dP;clear h3 dP;go_wp2_with fail
  go_end0
  exact⟨rfl,by rw[uh HE];exact uh H3,(uh bC).trans (uh dd)⟩
 |some i =>
  obtain⟨hi,-⟩:=ey hf;have HE:Hid (P0 s.nodes m ⟨op,v,ak,ai,nx,ot⟩ a=ni s.nodes { m with st:=m.st.set v m.cs[i].2 } ⟨op,v,ak,ai,nx,ot⟩ a true):=ab (by unfold P0;rw[hf];simp[hi]);have e:nR m.cs a=(i:Int):=by unfold nR;rw[hf]
  rw[e]at HF;have HA:=ab (xW i hi h1.c4 h1.cs);generalize m.cs[i].1=p1 at *;generalize m.cs[i].2=p2 at *;clear h h1 aT mq hf e;go_enter func108,ntmps108;go_wp2_with fail
  refine(uh HF).mono ?_;rintro e w2 ⟨rfl,rfl⟩;go_wp2_with fail
  refine(uh HA).mono ?_;rintro e w3 ⟨rfl,bF⟩;have gX:=bF.trans ((af w3 (.cells #[Value.int .i64 p1,.int .i64 p2] 231)).mono bF.size);have h4:=(uh H1).below gX;have rE:=(uh Fk).below gX;have n1:=rE.cell 1 rfl;have H4:=ab h4;have HN4:=ab rE;have dW:=ab ((uh bC).trans (am.ofBw gX));clear h4 rE bF gX;go_wp2_with fail
  refine(tQ (uh H4) v p2).mono ?_;rintro e w5 ⟨rfl,h5,f9⟩;have zio:=(uh HN4).stp f9 (uh uZ);have n50:=zio.cell 0 rfl;have n51:=zio.cell 1 rfl;have n52:=zio.cell 2 rfl;have n53:=zio.cell 3 rfl;have n54:=zio.cell 4 rfl;have n55:=zio.cell 5 rfl;have H5:=ab h5;have gN:=ab ((uh dW).trans f9);have HP:=ab (lT h5 ⟨op,v,ak,ai,nx,ot⟩ a true hl hc);rw[uh HNd]at HP;clear h5 f9 zio;go_wp2_with fail
  refine(uh HP).mono ?_;rintro e w6 ⟨rfl,h6,kI⟩;have H6:=ab h6;have Ai:=ab ((uh gN).trans kI);clear h6 kI;go_wp2_with fail
  go_end0
  exact⟨rfl,by rw[uh HE];exact uh H6,uh Ai⟩
end
