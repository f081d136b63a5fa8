import Derived.Test.YtciihepbeacppaaGreatM25
import Derived.Deep.RegionWith
set_option maxRecDepth 100000
set_option maxHeartbeats 0
namespace Go.Proofs.YtciihepbeacppaaGreat
open Tryz Go.RowKit List World Below
set_option linter.unusedVariables false
section
variable {w W:World} {S:Nat} {c:Cd} {c0 hv kv wv:Value} {KV WV:List Value} {K:List (List En)} {s:Sr} {n:Nat} {l:List En}
def jF(l:List En)(k:Nat):List En:=(l.take k).filter (λe=>!e.d)
theorem Kf{l:List En}{k:Nat}(h:k<l.length):jF l (k+1)=jF l k++if l[k].d=true then [] else [l[k]]:=by
 unfold jF;rw[Hq h];congr 1;cases l[k].d <;> rfl
theorem TC(l:List En)(k:Nat):(jF l k).length<=l.length:=zq3 (length_filter_le _ _) (by rw[length_take];omega)
theorem Sh.lE(h:Sh w S c c0 hv kv wv KV WV K s){k g cap n:Nat}{l:List En}(hn:n<K.length)(hl:l=K.getD n [])(hg:KV.getD n aJ=.slice (some ⟨g,0,none⟩) l.length cap)(hk:k<l.length):w.cell? ⟨g,k*2,none⟩=some (.pointer (some ⟨l[k].D,0,none⟩))/\w.cell? ⟨g,k*2+1,none⟩=some (.bool l[k].d)/\w.frozen? ⟨g,k*2+1,none⟩=false:=by
 have h1:=h.ke n hn;rw[hg,<-hl]at h1;obtain⟨h2,h3⟩:=mR h1 rfl hk;exact⟨h2,h3,h1.frozenAt _⟩
theorem Rk{Q:Nat}{ws:List ByteArray}{ps:PS}{al:List cn}{vv pv nvv:Value}(h:Sh w S c (.pointer (some ⟨Q,0,none⟩)) hv kv wv KV WV K s)(hC:Cp w Q ws ps al vv pv nvv)(hCd:∀k∈BE Q vv pv nvv,k ∉ cW S hv kv wv KV WV)(fZ:c.nds=ps.nodes)(hN:uG c.nds)(hn:n<K.length)(xS:K.length<=100000){fuel:Nat}(bD:(rp c fuel n s).ok=true)(pJ:(a7 s n).length<=th+1):
  Calls prog 142 #[.pointer (some ⟨S,0,none⟩),.int .i64 n] w λe w'=>e=.returned (.tuple #[])/\ij w S c (.pointer (some ⟨Q,0,none⟩)) hv kv wv KV WV K [] (rp c fuel n s) w':=by
 obtain⟨i0,k9,gX,fK,f9⟩:=info_parts infoPF;obtain⟨kB,kC,RQ,-⟩:=h.kc hn;subst RQ;obtain⟨l,hl⟩:∃l,l=K.getD n []:=⟨_,rfl⟩;have fJ:=h.knE n;rw[<-hl]at fJ;rw[fJ,length_map]at pJ;have Ua:l.length<=1000000000001:=by unfold th at pJ;omega
 obtain⟨va,vc,Ah,Ps,Uo⟩:=aj (h.ke n hn);rw[<-hl]at Ah Ps;have hlK:l∈K:=by rw[hl,bM hn];exact getElem_mem hn
 obtain⟨s1,dy⟩:∃s1:Sr,s1={ s with kn:=s.kn.set n ((fN l l.length).map En.m) }:=⟨_,rfl⟩;have hvi:rp c fuel n s=mJ c fuel n ((l.filter (λe=>!e.d)).map (λe=>e.x.f)) s1:=by
  unfold rp;rw[fJ,dy,Tf (zq4 _)];have e1:lJ (l.map En.m)=(l.filter (λe=>!e.d)).map (λe=>e.x.f):=by
   unfold lJ;rw[filter_map,map_map];rfl
  have e2:(l.map En.m).map (λe=>(⟨e.f,true⟩:gT))=(l.map En.dn).map En.m:=by
   rw[map_map,map_map];rfl
  rw[e1,e2]
 rw[hvi]at bD ⊢;obtain⟨R,hR⟩:∃R,R=mJ c fuel n ((l.filter (λe=>!e.d)).map (λe=>e.x.f)) s1:=⟨_,rfl⟩;rw[<-hR]at bD ⊢;have H0:Hid (Sh w S c (.pointer (some ⟨Q,0,none⟩)) hv (.slice (some ⟨kB,0,none⟩) K.length kC) wv KV WV (K.set n (fN l 0)) { s with kn:=s.kn.set n ((fN l 0).map En.m) }):=ab (by
  rw[NE];have e1:K.set n l=K:=by rw[hl,nJ hn]
  have e2:s.kn.set n (l.map En.m)=s.kn:=by
   rw[<-fJ];exact nJ (by rw[h.km,length_map];exact hn)
  rw[e1,e2];exact h)
 have LX:=hC.lt;have HA:=ab (zq2 h (zq2 hC (zq2 hCd (zq2 fZ hN))));have HL:=ab (zq2 hl hlK);have Yq:=ab Ah;have HR:=ab hR;have cD:=ab dy;have kO:=ab bD;obtain⟨eo,dD⟩:∃eo:World->Prop,eo=λw'=>ij w S c (.pointer (some ⟨Q,0,none⟩)) hv (.slice (some ⟨kB,0,none⟩) K.length kC) wv KV WV K [] R w':=⟨_,rfl⟩;have gq:=ab dD;rw[show(fun(e:Ending) (w':World)=>e=.returned (.tuple #[])/\ij w S c (.pointer (some ⟨Q,0,none⟩)) hv (.slice (some ⟨kB,0,none⟩) K.length kC) wv KV WV K [] R w')=(λe w'=>e=.returned (.tuple #[])/\eo w') by rw[dD]];have i1:(0:Int)<=(n:Int):=by omega
 have i2:(n:Int)<(K.length:Int):=by omega
 have cG:Hid ((w.alloc (.cells #[] 126)).ownsRow w.heap.size 126 1 (.slice (some ⟨w.heap.size,0,none⟩) 0 0) (jF l 0).length ((jF l 0).map (λe=>e.x.p))/\ii w (w.alloc (.cells #[] 126)) (cW S hv (.slice (some ⟨kB,0,none⟩) K.length kC) wv KV WV) (cW S hv (.slice (some ⟨kB,0,none⟩) K.length kC) wv KV WV) (ee K) (ee K) []/\Sh (w.alloc (.cells #[] 126)) S c (.pointer (some ⟨Q,0,none⟩)) hv (.slice (some ⟨kB,0,none⟩) K.length kC) wv KV WV (K.set n (fN l 0)) { s with kn:=s.kn.set n ((fN l 0).map En.m) }):=ab ⟨ownsRow_lit (base:=w.heap.size) (e:=126) (size:=1) w #[] 0 (zq4 _) (by simp[maxLen]) rfl,ii.below (ah w _),(uh H0).below (ah w _)⟩;clear h hC hCd fZ hN hl hlK Ah hvi bD hR dy fJ pJ dD H0 LX;go_enter func142,ntmps142;go_wp2_with fail
 go_loopg [4,5] l.length (λgn fv iv wx=>∃(k:Nat),k+gn=l.length/\iv=.int .i64 k/\Hid (wx.ownsRow w.heap.size 126 1 fv (jF l k).length ((jF l k).map (λe=>e.x.p))/\ii w wx (cW S hv (.slice (some ⟨kB,0,none⟩) K.length kC) wv KV WV) (cW S hv (.slice (some ⟨kB,0,none⟩) K.length kC) wv KV WV) (ee K) (ee K) []/\Sh wx S c (.pointer (some ⟨Q,0,none⟩)) hv (.slice (some ⟨kB,0,none⟩) K.length kC) wv KV WV (K.set n (fN l k)) { s with kn:=s.kn.set n ((fN l k).map En.m) }))
 case atStart=>exact⟨0,by omega,rfl,cG⟩
 case round =>
  clear cG;obtain⟨k,fJ,rfl,hI⟩:=hrel;obtain⟨G1,zW⟩:∃G1,G1=gk:=⟨_,rfl⟩;obtain⟨h1,h2,h3⟩:=uh hI;obtain⟨fa,fc,Xh,-,-⟩:=aj h1;subst Xh;have yK:(K.set n (fN l k)).length=K.length:=length_set;have c3:=h3.bs.cell 3 rfl;obtain⟨kB',kC',qA,ckc⟩:=h3.kc (n:=n) (by rw[yK];exact hn);simp only[Value.slice.injEq,Option.some.injEq,Addr.mk.injEq,and_true]at qA;obtain⟨rfl,-,rfl⟩:=qA;rw[uh Yq]at ckc;by_cases ar:k<l.length
  .have hd:decide ((k:Int)<(l.length:Int))=true:=(by simp;omega);obtain⟨g,cap,dQ⟩:∃g cap,KV.getD n aJ=.slice (some ⟨g,0,none⟩) l.length cap:=by
    have h4:=h3.ke n (by rw[yK];exact hn);have e2:(K.set n (fN l k)).getD n []=fN l k:=(by simp[hn]);rw[e2,cP]at h4;obtain⟨g,cap,h5,-,-,-⟩:=cR h4 (by omega);exact⟨g,cap,h5⟩
   have dx:=dQ;rw[uh Yq]at dx;simp only[Value.slice.injEq,true_and]at dx;obtain⟨rfl,rfl⟩:=dx;have e2:(K.set n (fN l k)).getD n []=fN l k:=(by simp[hn]);obtain⟨x0,x1,xz⟩:=h3.lE (k:=k) (l:=fN l k) (by rw[yK];exact hn) e2.symm (by rw[cP];exact dQ) (by rw[cP];exact ar);have hek:(fN l k)[k]'(by rw[cP];exact ar)=l[k]:=by
    have h6:=zN ar;rw[getElem?_eq_getElem (by rw[cP];exact ar)]at h6;injection h6
   rw[hek]at x0 x1;have aV:=Kf ar;have k1:(0:Int)<=(k:Int):=(by omega);have k2:(k:Int)<(l.length:Int):=(by omega);cases L6:l[k].d
   .rw[L6]at x1 aV;rw[if_neg (by decide)]at aV;obtain⟨h4,xu⟩:=h3.done hn ar dQ;obtain⟨W4,xT⟩:∃W4,W4=wr.setCell ⟨g,k*2+1,none⟩ (.bool true):=⟨_,rfl⟩;rw[<-xT]at h4;have hsW:au [g] wr [g] W4:=(by rw[xT];exact(au.refl [g] wr).setCell (p:=⟨g,k*2+1,none⟩) (zq0 (by simp)) (.bool true));have Zw:(K.set n (fN l (k+1))).length=K.length:=length_set;have d3:=h4.bs.cell 3 rfl;obtain⟨kB',kC',qA,dkc⟩:=h4.kc (n:=n) (by rw[Zw];exact hn);simp only[Value.slice.injEq,Option.some.injEq,Addr.mk.injEq,and_true]at qA;obtain⟨rfl,-,rfl⟩:=qA;rw[dQ]at dkc;have e3:(K.set n (fN l (k+1))).getD n []=fN l (k+1):=(by simp[hn]);obtain⟨z0,z1,-⟩:=h4.lE (k:=k) (l:=fN l (k+1)) (by rw[Zw];exact hn) e3.symm (by rw[cP];exact dQ) (by rw[cP];exact ar);have hdD:((fN l (k+1))[k]'(by rw[cP];exact ar)).D=l[k].D:=by
     have h6:(fN l (k+1))[k]?=some l[k].dn:=(by rw[qs ar,getElem?_set_self (by rw[cP];exact ar)]);rw[getElem?_eq_getElem (by rw[cP];exact ar)]at h6;injection h6 with h6;rw[h6];rfl
    rw[hdD]at z0;have hlm:fN l (k+1)∈K.set n (fN l (k+1)):=mem_iff_getElem?.2 ⟨n,by rw[getElem?_set_self hn]⟩;have hem:l[k].dn∈fN l (k+1):=mem_iff_getElem?.2 ⟨k,by rw[qs ar,getElem?_set_self (by rw[cP];exact ar)]⟩;have eP:=(h4.dr _ hlm _ hem).1.fo;have OO:W4.cell? ⟨l[k].D,0,none⟩=some (.pointer (some ⟨l[k].x.A,0,none⟩)):=eP;have pf:=h1.lt;have nS:=h3.lt g xu;have hgw:=(uh HA).1.lt g xu;have Wk:Hid (W4.ownsRow w.heap.size 126 1 (.slice fa (jF l k).length fc) (jF l k).length ((jF l k).map (λe=>e.x.p))):=ab (ae h1 (λq hq=>hsW.block q (pf q hq).2 (λe=>by
     rw[mem_singleton]at e;have:=(pf q hq).1;omega)))
    have Mb:=h2.trans (ii.stp (X:=[]) hsW (λq hq=>zq0 (by rw[mem_singleton]at hq;rw[hq];exact xu))) (λq hq=>by simp at hq);have kT:=TC l k;have ash:=Mb.st.size;obtain⟨Dk,hDk⟩:∃Dk,Dk=l[k].D:=⟨_,rfl⟩;obtain⟨Ak,hAk⟩:∃Ak,Ak=l[k].x.A:=⟨_,rfl⟩;rw[<-hDk]at x0 z0 OO;rw[<-hAk]at OO;have H4:=ab (zq2 h4 (zq2 Mb (zq2 aV hAk)));clear h1 h2 h3 xu hsW hek e2 e3 Zw hdD hlm hem eP pf nS hgw h4 Mb L6 hDk hAk aV hI yK dQ;go_upto_region 6 with fail;rw[<-xT];clear xT c3 ckc x0 x1 xz z1;go_wp2_with (at_builtin;refine s7 _ rfl (.tmp 42) (.tmp 57) 125 rfl w.heap.size 126 i0 _ 1 8 underlying125 k9 gX fK f9 rfl (by decide) _ (jF l k).length ((jF l k).map (λe=>e.x.p)) rfl ((uh Wk).alloc _) ⟨_,0,none⟩ 1 [.pointer (some ⟨Ak,0,none⟩)] rfl rfl (aN _ _ (by simp) [.pointer (some ⟨Ak,0,none⟩)] _) (by intro u hu;simp only[mem_singleton]at hu;subst hu;rfl) (by omega) (by omega) (by simp;omega) ?_)
    intro g7 cap7 w7 iH dF fY;have yP:=lB dF (by simpa using fY);have BU:=(uh Wk).lt;have KM:∀q,q<w.heap.size->q ∉ (Value.slice fa (jF l k).length fc).ownBlock.toList:=λq hq e=>by
     have:=(BU q (by simpa using e)).1;omega
    obtain⟨h4,Mb,aV,hAk⟩:=uh H4;have hKV:∀q∈cW S hv (.slice (some ⟨kB,0,none⟩) K.length kC) wv KV WV,q<w.heap.size:=(uh HA).1.lt;have hKD:∀q∈ee (K.set n (fN l (k+1))),q<w.heap.size:=λq hq=>(uh HA).1.drlt q ((Cr (uh HL).1 hn (k+1) q).1 hq);have h7:=h4.stp yP (λq hq=>KM q (hKV q hq)) (λq hq=>KM q (hKD q hq));have hg7:ii w w7 (cW S hv (.slice (some ⟨kB,0,none⟩) K.length kC) wv KV WV) (cW S hv (.slice (some ⟨kB,0,none⟩) K.length kC) wv KV WV) (ee K) (ee K) []:=Mb.trans (ii.stp (X:=(Value.slice fa (jF l k).length fc).ownBlock.toList) yP (λq hq=>zq1 hq)) (λq hq=>zq1 (BU q (by simpa using hq)).1);have Xv:w7.ownsRow w.heap.size 126 1 (.slice (some ⟨g7,0,none⟩) ((jF l k).length+1) cap7) (jF l (k+1)).length ((jF l (k+1)).map (λe=>e.x.p)):=by
     rw[aV,length_append,map_append];have e5:[l[k]].map (λe=>e.x.p)=[Value.pointer (some ⟨Ak,0,none⟩)]:=(by rw[hAk];rfl);rw[e5];exact iH
    have HN:=ab (zq2 Xv (zq2 hg7 h7));clear iH dF fY yP BU KM h4 Mb aV hAk hKV hKD h7 hg7 Xv H4 Wk;go_wp2_with fail
    go_roundg (G1-1)
    case rel=>exact⟨k+1,by omega,by go_num,HN⟩
    case measure=>omega
   .have e4:=ND ar L6;rw[L6]at x1 aV;rw[if_pos rfl,append_nil]at aV;have HN:Hid (wr.ownsRow w.heap.size 126 1 (.slice fa (jF l k).length fc) (jF l (k+1)).length ((jF l (k+1)).map (λe=>e.x.p))/\ii w wr (cW S hv (.slice (some ⟨kB,0,none⟩) K.length kC) wv KV WV) (cW S hv (.slice (some ⟨kB,0,none⟩) K.length kC) wv KV WV) (ee K) (ee K) []/\Sh wr S c (.pointer (some ⟨Q,0,none⟩)) hv (.slice (some ⟨kB,0,none⟩) K.length kC) wv KV WV (K.set n (fN l (k+1))) { s with kn:=s.kn.set n ((fN l (k+1)).map En.m) }):=ab (by rw[aV,e4];exact⟨h1,h2,h3⟩);clear h1 h2 h3 hek e2 yK L6 aV hI dQ e4;go_wp2_with fail
    go_roundg (G1-1)
    case rel=>exact⟨k+1,by omega,by go_num,HN⟩
    case measure=>omega
  .have hd:decide ((k:Int)<(l.length:Int))=false:=(by simp;omega);have j5:k=l.length:=(by omega);have hFR:jF l k=l.filter (λe=>!e.d):=(by unfold jF;rw[take_of_length_le (by omega)]);have hDN:fN l k=fN l l.length:=(by rw[j5]);rw[hFR]at h1 ⊢;rw[hDN]at h3;rw[<-uh cD]at h3;obtain⟨FR,TM⟩:∃FR,FR=l.filter (λe=>!e.d):=⟨_,rfl⟩;have hR:=uh HR;rw[<-TM]at h1 hR ⊢;have hFl:FR.length<=l.length:=(by rw[TM];exact length_filter_le _ _);have FK:∀q,(Value.slice fa FR.length fc).ownBlock=some q->q ∉ (cW S hv (.slice (some ⟨kB,0,none⟩) K.length kC) wv KV WV):=λq hq e=>by
    have h7:=(h1.lt q hq).1;have h8:=(uh HA).1.lt q e;omega
   have KF:ii w wr (cW S hv (.slice (some ⟨kB,0,none⟩) K.length kC) wv KV WV) (cW S hv (.slice (some ⟨kB,0,none⟩) K.length kC) wv KV WV) (ee K) (ee (K.set n (fN l l.length))) []:=⟨h2.st,λq hq=>zq0 ((Cr (uh HL).1 hn l.length q).1 hq)⟩;have cG:=ab (zq2 h3 (zq2 KF (zq2 h1 (zq2 FK hR))));have HFM:Hid (∀e∈FR,e∈l):=ab (λe he=>by rw[TM]at he;exact(mem_filter.1 he).1);clear h1 h2 h3 hI hFR hDN TM hR FK KF yK fJ j5 HR cD;go_wp2_with fail
   go_loopg [6] FR.length (λgn iv wx=>∃(j:Nat) (KV':List Value) (K':List (List En)) (s':Sr),j+gn=FR.length/\iv=.int .i64 j/\Hid (Sh wx S c (.pointer (some ⟨Q,0,none⟩)) hv (.slice (some ⟨kB,0,none⟩) K.length kC) wv KV' WV K' s'/\K'.length=K.length/\ii w wx (cW S hv (.slice (some ⟨kB,0,none⟩) K.length kC) wv KV WV) (cW S hv (.slice (some ⟨kB,0,none⟩) K.length kC) wv KV' WV) (ee K) (ee K') []/\wx.ownsRow w.heap.size 126 1 (.slice fa FR.length fc) FR.length (FR.map (λe=>e.x.p))/\(∀q,(Value.slice fa FR.length fc).ownBlock=some q->q ∉ (cW S hv (.slice (some ⟨kB,0,none⟩) K.length kC) wv KV' WV))/\mJ c fuel n ((FR.drop j).map (λe=>e.x.f)) s'=R))
   case atStart=>exact⟨0,KV,_,s1,by omega,rfl,ab ⟨(uh cG).1,length_set,(uh cG).2.1,(uh cG).2.2.1,(uh cG).2.2.2.1,by rw[drop_zero];exact(uh cG).2.2.2.2.symm⟩⟩
   case round =>
    clear cG;obtain⟨j,KV',K',s',BO,rfl,hI⟩:=hrel;obtain⟨G2,Fi⟩:∃G2,G2=gk:=⟨_,rfl⟩;obtain⟨h1,h2,h3,h4,h5,h6⟩:=uh hI;have c8:=h1.bs.cell 8 rfl;have Og:s'=R->Hid (eo wr):=λe=>ab (by rw[uh gq,<-e];exact⟨KV',K',h1,h2,h3⟩);by_cases ar:j<FR.length
    .have kj:decide ((j:Int)<(FR.length:Int))=true:=(by simp;omega);have kS:FR.drop j=FR[j]::FR.drop (j+1):=drop_eq_getElem_cons ar;rw[kS,map_cons]at h6;unfold mJ at h6;cases dK:s'.fu
     .rw[dK]at c8 h6;rw[if_neg (by decide)]at h6;obtain⟨g2,cap2,dx,-,-,-⟩:=cR h4 (by omega);simp only[Value.slice.injEq,true_and]at dx;obtain⟨rfl,rfl⟩:=dx;have ay:wr.cell? ⟨g2,j,none⟩=some (.pointer (some ⟨FR[j].x.A,0,none⟩)):=by
       rw[h4.cellAt j (by omega),getElem?_map,getElem?_eq_getElem ar];rfl
      have mD:=uh HFM _ (getElem_mem ar);have yM:=(uh HA).1.dr l (uh HL).2 _ mD;have hbK:∀q∈FR[j].x.bs,q∈ee K:=λq hq=>bI.2 ⟨l,(uh HL).2,_,mD,mem_cons_of_mem _ hq⟩;have hbn:∀q,q<w.heap.size->q ∉ (cW S hv (.slice (some ⟨kB,0,none⟩) K.length kC) wv KV WV)->q ∉ (cW S hv (.slice (some ⟨kB,0,none⟩) K.length kC) wv KV' WV)/\wr.heap[q]?=w.heap[q]?:=λq hq tY=>⟨λe=>by
       rcases h3.st.foot q e with p|p
       .exact tY (by simpa using p)
       .omega,h3.st.block q hq (by simpa using tY)⟩
      have cf:∀q∈FR[j].x.bs,q ∉ (cW S hv (.slice (some ⟨kB,0,none⟩) K.length kC) wv KV' WV)/\wr.heap[q]?=w.heap[q]?:=λq hq=>hbn q ((uh HA).1.drlt q (hbK q hq)) ((uh HA).1.da q (hbK q hq));have hFw:=yM.1.ff.of_eq (w':=wr) (λq hq=>(cf q hq).2);have hCp:=(uh HA).2.1.of_eq (w':=wr) (λq hq=>(hbn q ((uh HA).2.1.lt q hq) ((uh HA).2.2.1 q hq)).2);have qB:(oE c fuel n FR[j].x.f s').ok=true:=ro _ (by rw[h6];exact uh kO);have Yn:=ab (VL h1 hCp (uh HA).2.2.2.1 (uh HA).2.2.2.2 hFw yM.2 (λq hq=>(cf q hq).1) (n:=n) (by omega) (by omega) qB);have HI:=ab (zq2 h2 (zq2 h3 (zq2 h4 (zq2 h5 h6))));obtain⟨Aj,hAj⟩:∃Aj,Aj=FR[j].x.A:=⟨_,rfl⟩;rw[<-hAj]at ay Yn;have k1:(0:Int)<=(j:Int):=(by omega);have k2:(j:Int)<(FR.length:Int):=(by omega);clear h1 h2 h3 h4 h5 h6 mD yM hbK hbn cf hFw hCp qB hAj kS hI Og dK;go_wp2_with fail
      refine(uh Yn).mono ?_;rintro e w5 ⟨rfl,tb,K2,q1,q2,q3⟩;obtain⟨h2,h3,h4,h5,h6⟩:=uh HI;have Ad:=ae h4 (λq hq=>q3.st.block q (h4.lt q hq).2 (by simpa using h5 q hq));have hq5:∀q,(Value.slice (some ⟨g2,0,none⟩) FR.length fc).ownBlock=some q->q ∉ cW S hv (.slice (some ⟨kB,0,none⟩) K.length kC) wv tb WV:=λq hq e=>by
       rcases q3.st.foot q e with p|p
       .exact h5 q hq (by simpa using p)
       .have:=(h4.lt q hq).2;omega
      have HN:=ab (zq2 q1 (zq2 (q2.trans h2) (zq2 (h3.trans q3 (λq hq=>by simp at hq)) (zq2 Ad (zq2 hq5 h6)))));clear q1 q2 q3 h2 h3 h4 h5 h6 Ad hq5 Yn HI c8 ay;go_wp2_with fail
      go_roundg (G2-1)
      case rel=>exact⟨j+1,tb,K2,_,by omega,by go_num,HN⟩
      case measure=>omega
     .rw[dK]at c8 h6;rw[if_pos rfl]at h6;have HP:=Og h6;clear h1 h2 h3 h4 h5 h6 kS hI Og dK;go_wp2_with fail
      go_end0
      exact⟨rfl,uh HP⟩
    .have kj:decide ((j:Int)<(FR.length:Int))=false:=(by simp;omega);rw[drop_eq_nil_of_le (by omega)]at h6;have HP:=Og h6;clear h1 h2 h3 h4 h5 h6 hI Og;go_wp2_with fail
     go_end0
     exact⟨rfl,uh HP⟩
end
theorem Qo{s:Sr}{n:Nat}(hn:n<s.kn.length)(h1:(s.kn[n]).any (λe=>!e.d)=true)(h2:∀m,m<n->∀l,s.kn[m]?=some l->l.any (λe=>!e.d)=false):Et s=some n:=by
 unfold Et;rw[findIdx?_eq_some_iff_getElem];refine⟨hn,h1,λj hj=>?_⟩;rw[h2 j hj _ (getElem?_eq_getElem (by omega))];decide
theorem Qn{s:Sr}(h2:∀(m:Nat) (l:List gT),s.kn[m]?=some l->l.any (λe=>!e.d)=false):Et s=none:=by
 unfold Et;rw[findIdx?_eq_none_iff];intro l hl;obtain⟨m,hm⟩:=mem_iff_getElem?.1 hl;exact h2 m l hm
section
variable {w:World} {S:Nat} {c:Cd} {c0 hv kv wv:Value} {KV WV:List Value} {K:List (List En)} {s:Sr}
theorem Sh.kn_at(h:Sh w S c c0 hv kv wv KV WV K s){m:Nat}{l:List gT}(hl:s.kn[m]?=some l):∃L,K[m]?=some L/\l=L.map En.m:=by
 rw[h.km,getElem?_map]at hl;cases hk:K[m]? with
 |none=>rw[hk]at hl;simp at hl
 |some L=>rw[hk]at hl;exact⟨L,rfl,by simpa[eq_comm] using hl⟩
theorem wd(h:Sh w S c c0 hv kv wv KV WV K s)(xS:K.length<=100000):
  Calls prog 141 #[.pointer (some ⟨S,0,none⟩)] w λe w'=>e=.returned (.int .i64 (fL (Et s)))/\Below w.heap.size w w':=by
 obtain⟨R,hR⟩:∃R,R=fL (Et s):=⟨_,rfl⟩;rw[<-hR];obtain⟨ka,kC,RQ,-,-⟩:=aj h.kr;subst RQ;have cG:Hid (Below w.heap.size w w/\∀m,m<0->∀L,K[m]?=some L->L.any (λe=>!e.d)=false):=ab ⟨Below.refl _ _,λm hm=>by omega⟩;have H:=ab h;have HR:=ab hR;have X0:Hid (∀L:List En,(L.map En.m).any (λe=>!e.d)=L.any (λe=>!e.d)):=ab (λL=>by rw[any_map];rfl);clear h hR;go_enter func141,ntmps141;go_wp2_with fail
 go_loopg [3] K.length (λgn iv wx=>∃(k:Nat),k+gn=K.length/\iv=.int .i64 k/\Hid (Below w.heap.size w wx/\∀m,m<k->∀L,K[m]?=some L->L.any (λe=>!e.d)=false))
 case atStart=>exact⟨0,by omega,rfl,cG⟩
 case round =>
  clear cG;obtain⟨k,fJ,rfl,hI⟩:=hrel;obtain⟨G1,zW⟩:∃G1,G1=gk:=⟨_,rfl⟩;have h1:=(uh H).below (uh hI).1;have c3:=h1.bs.cell 3 rfl;by_cases ar:k<K.length
  .have hd:decide ((k:Int)<(K.length:Int))=true:=(by simp;omega);obtain⟨kB',kC',qA,ckc⟩:=h1.kc ar;simp only[Value.slice.injEq,true_and]at qA;obtain⟨rfl,rfl⟩:=qA;obtain⟨L,hL⟩:∃L,L=K.getD k []:=⟨_,rfl⟩;have hLK:K[k]?=some L:=(by rw[hL,bM ar,getElem?_eq_getElem ar]);have kk:=(uh H).ke k ar;rw[<-hL]at kk;obtain⟨va,vc,Ah,Ps,Uo⟩:=aj kk;rw[Ah]at ckc kk;have HK:=ab kk;have RA:=ab hLK;have i1:(0:Int)<=(k:Int):=(by omega);have i2:(k:Int)<(K.length:Int):=(by omega);have oK:Hid (Below w.heap.size w wr/\∀i,i<0->∀e,L[i]?=some e->e.d=true):=ab ⟨(uh hI).1,λm hm=>by omega⟩;have d7:=ab (uh hI).2;clear h1 hL hLK kk Ah hI;go_wp2_with fail
   go_loopg [23] L.length (λgn iv wx=>∃(j:Nat),j+gn=L.length/\iv=.int .i64 j/\Hid (Below w.heap.size w wx/\∀i,i<j->∀e,L[i]?=some e->e.d=true))
   case atStart=>exact⟨0,by omega,rfl,oK⟩
   case round =>
    clear oK c3 ckc;obtain⟨j,BO,rfl,hJ⟩:=hrel;obtain⟨G2,Fi⟩:∃G2,G2=gk:=⟨_,rfl⟩;by_cases cd:j<L.length
    .have kj:decide ((j:Int)<(L.length:Int))=true:=(by simp;omega);have mr:=ja (uh HK) (uh hJ).1;obtain⟨g,cap,dQ,-,-⟩:=cR mr (by omega);simp only[Value.slice.injEq,true_and]at dQ;obtain⟨rfl,rfl⟩:=dQ;obtain⟨x0,x1⟩:=mR mr rfl cd;have cN:L[j]?=some L[j]:=getElem?_eq_getElem cd;obtain⟨e,L9⟩:∃e,e=L[j]:=⟨_,rfl⟩;rw[<-L9]at x0 x1 cN;obtain⟨eD,ex,ed⟩:=e;simp only at x0 x1;have DZ:=ab cN;have k1:(0:Int)<=(j:Int):=(by omega);have k2:(j:Int)<(L.length:Int):=(by omega);have dT:Below w.heap.size w (wr.alloc (.cells #[Value.pointer (some ⟨eD,0,none⟩),.bool ed] 258)):=(uh hJ).1.trans ((ah wr _).mono (uh hJ).1.size);have lH:=ab dT;clear mr cN L9 dT;cases ed
     .have HE:Hid (R=(k:Int)):=ab (by
       have hkL:k<s.kn.length:=(by rw[(uh H).km,length_map];exact ar);rw[uh HR,Qo hkL ?_ ?_]
       .rfl
       .obtain⟨L2,h2,h3⟩:=(uh H).kn_at (getElem?_eq_getElem hkL);rw[uh RA]at h2;injection h2 with h2;rw[h3,<-h2,uh X0,any_eq_true];exact⟨_,mem_of_getElem? (uh DZ),rfl⟩
       .intro m hm l hl;obtain⟨L2,h2,rfl⟩:=(uh H).kn_at hl;rw[uh X0];exact uh d7 m hm L2 h2)
      go_wp2_with fail
      go_ret;exact⟨br (uh HE).symm,uh lH⟩
     .go_wp2_with fail
      go_roundg (G2-1)
      case rel=>exact⟨j+1,by omega,by go_num,ab ⟨uh lH,λi hi y hy=>by
       by_cases e':i=j
       .rw[e',uh DZ]at hy;injection hy with hy;rw[<-hy]
       .exact(uh hJ).2 i (by omega) y hy⟩⟩
      case measure=>omega
    .have kj:decide ((j:Int)<(L.length:Int))=false:=(by simp;omega);go_wp2_with fail
     go_roundg (G1-1)
     case rel=>exact⟨k+1,by omega,by go_num,ab ⟨(uh hJ).1,λm hm L2 h2=>by
      by_cases e':m=k
      .rw[e',uh RA]at h2;injection h2 with h2;rw[<-h2,any_eq_false];intro e he;obtain⟨i,hi⟩:=mem_iff_getElem?.1 he;rw[(uh hJ).2 i (by have:=(List.getElem?_eq_some_iff.1 hi).1;omega) e hi];decide
      .exact uh d7 m (by omega) L2 h2⟩⟩
     case measure=>omega
  .have hd:decide ((k:Int)<(K.length:Int))=false:=(by simp;omega);have HE:Hid (R=-1):=ab (by
    rw[uh HR,Qn (λm l hl=>?_)]
    .rfl
    .obtain⟨L,hL,rfl⟩:=(uh H).kn_at hl;rw[uh X0];exact(uh hI).2 m (by have:=(List.getElem?_eq_some_iff.1 hL).1;omega) L hL)
   clear h1;go_wp2_with fail
   go_ret;exact⟨br (uh HE).symm,(uh hI).1⟩
end
def nT(m k i:Nat):Nat:=if k=2/\m<=i then i+1 else m
theorem OY{al:List cn}{k:Nat}(h:k<al.length):xW (al.take (k+1))=nT (nT (xW (al.take k)) al[k].lk al[k].li) al[k].rk al[k].ri:=by
 unfold xW;rw[take_succ_eq_append_getElem h,foldl_append];rfl
theorem Fy{m k i:Nat}(hm:m<=101)(hi:i<=100):nT m k i<=101:=by unfold nT;split <;> omega
theorem OX:∀(al:List cn),(∀a∈al,a.li<=100/\a.ri<=100)->xW al<=101:=by
 intro al h;have key:∀(l:List cn) (m:Nat),(∀a∈l,a.li<=100/\a.ri<=100)->m<=101->l.foldl (λm a=>nT (nT m a.lk a.li) a.rk a.ri) m<=101:=by
  intro l;induction l with
  |nil=>intro m _ hm;exact hm
  |cons a l ih=>intro m hl hm;exact ih _ (λb hb=>hl b (mem_cons_of_mem _ hb)) (Fy (Fy hm (hl a (by simp)).1) (hl a (by simp)).2)
 exact key al 0 h (by omega)
theorem aaN(a b c d:Value)(w:World):(Instr.index 287 (.agg #[a,b,c,d]) (.int .i64 0)).run prog w=.ok (.agg #[a,b]) w:=by kernel_rfl
theorem aaO(a b c d:Value)(w:World):(Instr.index 287 (.agg #[a,b,c,d]) (.int .i64 1)).run prog w=.ok (.agg #[c,d]) w:=by kernel_rfl
section
variable {w:World} {B:Nat} {av:Value} {al:List cn}
theorem Fz(h:w.ownsRow B 239 5 av al.length (bT al))(qc:al.length<=1000)(hb:∀a∈al,a.li<=100/\a.ri<=100):
  Calls prog 196 #[av] w λe w'=>e=.returned (.int .i64 (xW al:Nat))/\Below w.heap.size w w':=by
 obtain⟨ao,cap,l5,mC,fZ,ay⟩:=nO h;have HC:=ab ay;have HBD:=ab hb;have HLE:Hid (∀k,xW (al.take k)<=101):=ab (λk=>OX _ (λa ha=>hb a (mem_of_mem_take ha)));rw[l5];clear h ay l5 hb;go_enter func196,ntmps196;go_wp2_with fail
 go_loopg [3,10] al.length (λgn cv iv wx=>∃(k:Nat),k+gn=al.length/\iv=.int .i64 k/\cv=.int .i64 (xW (al.take k):Nat)/\Hid (Below w.heap.size w wx))
 case atStart=>exact⟨0,by omega,rfl,rfl,ab (Below.refl _ _)⟩
 case round =>
  obtain⟨k,fJ,rfl,rfl,hI⟩:=hrel;obtain⟨G1,zW⟩:∃G1,G1=gk:=⟨_,rfl⟩;by_cases ar:k<al.length
  .have hd:decide ((k:Int)<(al.length:Int))=true:=(by simp;omega);obtain⟨g,rfl,nS,hc⟩:=uh HC (λe=>by rw[e]at ar;simp at ar);obtain⟨x0,x1,x2,x3,x4⟩:=hc k ar;have x0:=((uh hI).cell nS).trans x0;have x1:=((uh hI).cell nS).trans x1;have x2:=((uh hI).cell nS).trans x2;have x3:=((uh hI).cell nS).trans x3;have x4:=((uh hI).cell nS).trans x4;have aV:=OY ar;have hbd:=uh HBD _ (getElem_mem ar);have hm1:=uh HLE k;obtain⟨a,ha⟩:∃a,a=al[k]:=⟨_,rfl⟩;rw[<-ha]at x0 x1 x2 x3 x4 aV hbd;obtain⟨m,hm⟩:∃m,m=xW (al.take k):=⟨_,rfl⟩;rw[<-hm]at aV hm1 ⊢;obtain⟨ak,alk,ali,ark,ari⟩:=a;simp only at x0 x1 x2 x3 x4 aV hbd;have db:=ab aV;have fU:Hid (Below w.heap.size w (wr.alloc (.cells #[Value.int .i64 ak,.int .i64 alk,.int .i64 ali,.int .i64 ark,.int .i64 ari] 239))):=ab ((uh hI).trans ((ah wr _).mono (uh hI).size));have i1:(0:Int)<=(k:Int):=(by omega);have i2:(k:Int)<(al.length:Int):=(by omega);have j0:=aaN (.int .i64 (alk:Int)) (.int .i64 (ali:Int)) (.int .i64 (ark:Int)) (.int .i64 (ari:Int));have j1:=aaO (.int .i64 (alk:Int)) (.int .i64 (ali:Int)) (.int .i64 (ark:Int)) (.int .i64 (ari:Int));clear hc aV ha hm hI;go_wp2_with fail
   go_loopg [3,19] 2 (λgn cv iv wx=>∃(j:Nat),j+gn=2/\iv=.int .i64 j/\cv=.int .i64 ((if j=0 then m else if j=1 then nT m alk ali else nT (nT m alk ali) ark ari:Nat):Int)/\Hid (Below w.heap.size w wx))
   case atStart=>exact⟨0,by omega,rfl,rfl,fU⟩
   case round =>
    clear fU;obtain⟨j,BO,rfl,rfl,hJ⟩:=hrel;obtain⟨G2,Fi⟩:∃G2,G2=gk:=⟨_,rfl⟩;have hj3:j=0\/j=1\/j=2:=(by omega);rcases hj3 with rfl|rfl|rfl
    .rw[if_pos rfl];have HN:Hid (Below w.heap.size w (wr.alloc (.cells #[Value.int .i64 alk,.int .i64 ali] 184))):=ab ((uh hJ).trans ((ah wr _).mono (uh hJ).size));clear hJ;by_cases h2:alk=2
     .have d2:((alk:Int)==(2:Int))=true:=(by simp[h2]);by_cases cN:m<=ali
      .have d3:decide (m<=ali)=true:=(by simpa using cN);have HT:Hid (nT m alk ali=ali+1):=ab (by unfold nT;rw[if_pos ⟨h2,cN⟩]);clear h2 cN;go_wp2_with fail
       go_roundg (G2-1)
       case rel=>exact⟨1,by omega,by go_num,by rw[if_neg (by decide),if_pos rfl,uh HT];go_num,HN⟩
       case measure=>omega
      .have d3:decide (m<=ali)=false:=(by simpa using cN);have HT:Hid (nT m alk ali=m):=ab (by unfold nT;rw[if_neg (λh=>cN h.2)]);clear h2 cN;go_wp2_with fail
       go_roundg (G2-1)
       case rel=>exact⟨1,by omega,by go_num,by rw[if_neg (by decide),if_pos rfl,uh HT],HN⟩
       case measure=>omega
     .have d2:((alk:Int)==(2:Int))=false:=(by simp;omega);have HT:Hid (nT m alk ali=m):=ab (by unfold nT;rw[if_neg (λh=>h2 h.1)]);clear h2;go_wp2_with fail
      go_roundg (G2-1)
      case rel=>exact⟨1,by omega,by go_num,by rw[if_neg (by decide),if_pos rfl,uh HT],HN⟩
      case measure=>omega
    .rw[if_neg (by decide),if_pos rfl];have HN:Hid (Below w.heap.size w (wr.alloc (.cells #[Value.int .i64 ark,.int .i64 ari] 184))):=ab ((uh hJ).trans ((ah wr _).mono (uh hJ).size));have rz:=Fy (k:=alk) hm1 hbd.1;obtain⟨m1,hm1e⟩:∃m1,m1=nT m alk ali:=⟨_,rfl⟩;have HM1:=ab hm1e;rw[<-hm1e]at rz ⊢;clear hJ hm1e;by_cases h2:ark=2
     .have d2:((ark:Int)==(2:Int))=true:=(by simp[h2]);by_cases cN:m1<=ari
      .have d3:decide (m1<=ari)=true:=(by simpa using cN);have HT:Hid (nT m1 ark ari=ari+1):=ab (by unfold nT;rw[if_pos ⟨h2,cN⟩]);clear h2 cN;go_wp2_with fail
       go_roundg (G2-1)
       case rel=>exact⟨2,by omega,by go_num,by rw[if_neg (by decide),if_neg (by decide),<-uh HM1,uh HT];go_num,HN⟩
       case measure=>omega
      .have d3:decide (m1<=ari)=false:=(by simpa using cN);have HT:Hid (nT m1 ark ari=m1):=ab (by unfold nT;rw[if_neg (λh=>cN h.2)]);clear h2 cN;go_wp2_with fail
       go_roundg (G2-1)
       case rel=>exact⟨2,by omega,by go_num,by rw[if_neg (by decide),if_neg (by decide),<-uh HM1,uh HT],HN⟩
       case measure=>omega
     .have d2:((ark:Int)==(2:Int))=false:=(by simp;omega);have HT:Hid (nT m1 ark ari=m1):=ab (by unfold nT;rw[if_neg (λh=>h2 h.1)]);clear h2;go_wp2_with fail
      go_roundg (G2-1)
      case rel=>exact⟨2,by omega,by go_num,by rw[if_neg (by decide),if_neg (by decide),<-uh HM1,uh HT],HN⟩
      case measure=>omega
    .rw[if_neg (by decide),if_neg (by decide)];go_wp2_with fail
     go_roundg (G1-1)
     case rel=>exact⟨k+1,by omega,by go_num,by rw[uh db],hJ⟩
     case measure=>omega
  .have hd:decide ((k:Int)<(al.length:Int))=false:=(by simp;omega);have j5:al.take k=al:=take_of_length_le (by omega);rw[j5];clear j5;go_wp2_with fail
   go_ret;exact⟨rfl,uh hI⟩
end
structure HL where
 q:Nat
 f:Nat
 X:Nat
 o:Nat
 uv:Value
 hv:Value
 av:Value
 ov:Value
structure AOk(al:List cn):Prop where
 tm:rF al
 le:al.length<=1000
 bd:∀a∈al,a.lk<=2/\a.rk<=2/\a.li<=100/\a.ri<=100
section
variable {w:World} {Q:Nat} {ws:List ByteArray} {s:PS} {al:List cn} {vv pv nv sv0 lv:Value} {st ls:List Int}
end
def VU(n:Nd):Bool:=decide (n.op=7\/n.op=8\/n.op=9)
def P9(n:Nd):Bool:=decide (n.op=4)
theorem sI{α:Type}{l:List α}{P:α->Bool}{i:Nat}(h:i<l.length):(l.take (i+1)).countP P=(l.take i).countP P+if P l[i]=true then 1 else 0:=by
 rw[take_succ_eq_append_getElem h,countP_append];congr 1;by_cases e:P l[i]=true <;> simp[e]
theorem VC{nds:List Nd}{nv:Nat}{al:List cn}{i:Nat}(hi:i<nds.length)(h:lS nds i=true):Mi nds nv al=false:=by
 unfold Mi;have:(range nds.length).any (lS nds)=true:=by rw[any_eq_true];exact⟨i,mem_range.2 hi,h⟩
 rw[this];rfl
theorem VD{nds:List Nd}{nv:Nat}{al:List cn}{a:cn}(ha:a∈al)(h:a.k=4):Mi nds nv al=false:=by
 unfold Mi;have:al.any (λa=>decide (a.k=4))=true:=by rw[any_eq_true];exact⟨a,ha,by simpa using h⟩
 rw[this];simp
theorem abW{nds:List Nd}{nv:Nat}{al:List cn}(h1:∀i,i<nds.length->lS nds i=false)(h2:∀a∈al,a.k≠4):Mi nds nv al=(decide (nds.countP VU<=5)&&decide (nds.countP P9<=4)&&decide (nv+xW al<=6)&&decide (nv+xW al+nds.countP P9<=8)):=by
 unfold Mi;have e1:(range nds.length).any (lS nds)=false:=by rw[any_eq_false];intro i hi;rw[h1 i (mem_range.1 hi)];decide
 have e2:al.any (λa=>decide (a.k=4))=false:=by rw[any_eq_false];intro a ha;simpa using h2 a ha
 rw[e1,e2];rfl
section
variable {w:World} {Q:Nat} {ws:List ByteArray} {ps:PS} {al:List cn} {vv pv nv:Value}
theorem Cp.nd(h:Cp w Q ws ps al vv pv nv){i:Nat}(hi:i<ps.nodes.length):∃g cap,nv=.slice (some ⟨g,0,none⟩) ps.nodes.length cap/\w.cell? ⟨g,i*6,none⟩=some (.int .i64 (ps.nodes[i].op:Int))/\w.cell? ⟨g,i*6+1,none⟩=some (.int .i64 (ps.nodes[i].v:Int))/\w.cell? ⟨g,i*6+2,none⟩=some (.int .i64 (ps.nodes[i].ak:Int))/\w.cell? ⟨g,i*6+3,none⟩=some (.int .i64 (ps.nodes[i].ai:Int))/\w.cell? ⟨g,i*6+4,none⟩=some (.int .i64 (ps.nodes[i].nx:Int))/\w.cell? ⟨g,i*6+5,none⟩=some (.int .i64 (ps.nodes[i].ot:Int)):=by
 obtain⟨g,cap,hv,-,-,-⟩:=cR h.nr (by omega);subst hv;have key:∀j,j<6->w.cell? ⟨g,i*6+j,none⟩=ps.nodes[i].cells[j]?:=λj hj=>by rw[h.nr.cellAt _ (by omega),P2 hi j hj]
 exact⟨g,cap,rfl,key 0 (by omega),key 1 (by omega),key 2 (by omega),key 3 (by omega),key 4 (by omega),key 5 (by omega)⟩
theorem At(h:Cp w Q ws ps al vv pv nv)(hA:AOk al)(jX:ps.nodes.length<=100000)(FO:ps.vars.length<=1000):
  Calls prog 170 #[.pointer (some ⟨Q,0,none⟩)] w λe w'=>e=.returned (.bool (Mi ps.nodes ps.vars.length al))/\Below w.heap.size w w':=by
 obtain⟨R,hR⟩:∃R,R=Mi ps.nodes ps.vars.length al:=⟨_,rfl⟩;rw[<-hR];have Eh:∀a∈al,a.li<=100/\a.ri<=100:=λa ha=>(hA.bd a ha).2.2;have fP:=hA.le;have HH:Hid (∀W,Below w.heap.size w W->Calls prog 196 #[pv] W λe w'=>e=.returned (.int .i64 (xW al:Nat))/\Below W.heap.size W w'):=ab (λW hW=>Fz (h.below hW).pr hA.le Eh);have hhl:=OX al Eh;obtain⟨na,nc,BT,-,-⟩:=aj h.nr;obtain⟨va,vc,Ah,-,-⟩:=aj h.vr;obtain⟨ao,cap,l5,mC,fZ,ay⟩:=nO h.pr;subst BT;subst Ah;subst l5;have c1:=h.bk.cell 1 rfl;have c2:=h.bk.cell 2 rfl;have c3:=h.bk.cell 3 rfl;have hQl:=h.bk.lt;have H:=ab h;have HR:=ab hR;have HC:=ab ay;obtain⟨nds,CW⟩:∃nds,nds=ps.nodes:=⟨_,rfl⟩;have HN:Hid (∀i,(hi:i<nds.length)->∃g cap,Value.slice na ps.nodes.length nc=.slice (some ⟨g,0,none⟩) nds.length cap/\w.cell? ⟨g,i*6,none⟩=some (.int .i64 (nds[i].op:Int))/\w.cell? ⟨g,i*6+4,none⟩=some (.int .i64 (nds[i].nx:Int))):=ab (by
  subst CW;intro i hi;obtain⟨g,cap,e,x0,-,-,-,x4,-⟩:=h.nd hi;exact⟨g,cap,e,x0,x4⟩)
 rw[<-CW]at c3 jX HN HR;clear h hA hR ay Eh CW;go_enter func170,ntmps170;go_wp2_with fail
 go_loopg [3,4,5] nds.length (λgn tv nwv iv wx=>∃(k:Nat),k+gn=nds.length/\iv=.int .i64 k/\tv=.int .i64 ((nds.take k).countP VU:Nat)/\nwv=.int .i64 ((nds.take k).countP P9:Nat)/\Hid (wx=w/\∀i,i<k->lS nds i=false))
 case atStart=>exact⟨0,by omega,rfl,rfl,rfl,ab ⟨rfl,λi hi=>by omega⟩⟩
 case round =>
  obtain⟨k,fJ,rfl,rfl,rfl,hI⟩:=hrel;obtain⟨G1,zW⟩:∃G1,G1=gk:=⟨_,rfl⟩;obtain⟨hwr,hbj⟩:=uh hI;rw[hwr];clear hwr;have HBJ:=ab hbj;have x9:(nds.take k).countP VU<=k:=zq3 countP_le_length (by rw[length_take];omega);have j7:(nds.take k).countP P9<=k:=zq3 countP_le_length (by rw[length_take];omega);clear hI hbj;by_cases ar:k<nds.length
  .have hd:decide ((k:Int)<(nds.length:Int))=true:=(by simp;omega);obtain⟨g,cap2,dQ,x0,x4⟩:=uh HN k ar;simp only[Value.slice.injEq]at dQ;obtain⟨rfl,-,rfl⟩:=dQ;have hts:=sI (P:=VU) ar;have hnw:=sI (P:=P9) ar;have iy:lS nds k=(decide (nds[k].op=10)&&decide (nds[k].nx<k)):=(by unfold lS;rw[bM ar]);obtain⟨nd,c9⟩:∃nd,nd=nds[k]:=⟨_,rfl⟩;rw[<-c9]at x0 x4 hts hnw iy;obtain⟨T,hT⟩:∃T,T=(nds.take k).countP VU:=⟨_,rfl⟩;obtain⟨N,hN⟩:∃N,N=(nds.take k).countP P9:=⟨_,rfl⟩;rw[<-hT]at hts x9 ⊢;rw[<-hN]at hnw j7 ⊢;have pX:Hid (lS nds k=false->∀i,i<k+1->lS nds i=false):=ab (λe i hi=>by
    by_cases h1:i=k
    .rw[h1];exact e
    .exact uh HBJ i (by omega))
   have k1:(0:Int)<=(k:Int):=(by omega);have k2:(k:Int)<(nds.length:Int):=(by omega);have Yo:=ab hts;have Wg:=ab hnw;have GI:=ab iy;clear hts hnw iy c9 hT hN;have htsB:VU nd=decide (nd.op=7\/nd.op=8\/nd.op=9):=rfl;have hnwB:P9 nd=decide (nd.op=4):=rfl;by_cases ht:nd.op=7\/nd.op=8\/nd.op=9
   .have GQ:Hid ((nds.take (k+1)).countP VU=T+1):=ab (by rw[uh Yo,htsB,if_pos (by simpa using ht)]);have D0:Hid ((nds.take (k+1)).countP P9=N):=ab (by rw[uh Wg,hnwB,if_neg (by simp;omega),Nat.add_zero]);have eu:Hid (∀i,i<k+1->lS nds i=false):=ab (uh pX (by rw[uh GI];simp;omega));clear htsB hnwB Yo Wg GI;rcases ht with ht|ht|ht
    .rw[ht]at x0;go_wp2_with fail
     go_roundg (G1-1)
     case rel=>exact⟨k+1,by omega,by go_num,by rw[uh GQ];go_num,by rw[uh D0],ab ⟨rfl,uh eu⟩⟩
     case measure=>omega
    .rw[ht]at x0;go_wp2_with fail
     go_roundg (G1-1)
     case rel=>exact⟨k+1,by omega,by go_num,by rw[uh GQ];go_num,by rw[uh D0],ab ⟨rfl,uh eu⟩⟩
     case measure=>omega
    .rw[ht]at x0;go_wp2_with fail
     go_roundg (G1-1)
     case rel=>exact⟨k+1,by omega,by go_num,by rw[uh GQ];go_num,by rw[uh D0],ab ⟨rfl,uh eu⟩⟩
     case measure=>omega
   .have GQ:Hid ((nds.take (k+1)).countP VU=T):=ab (by rw[uh Yo,htsB,if_neg (by simpa using ht),Nat.add_zero]);have t7:((nd.op:Int)==(7:Int))=false:=(by simp;omega);have t8:((nd.op:Int)==(8:Int))=false:=(by simp;omega);have t9:((nd.op:Int)==(9:Int))=false:=(by simp;omega);by_cases h4:nd.op=4
    .have D0:Hid ((nds.take (k+1)).countP P9=N+1):=ab (by rw[uh Wg,hnwB,if_pos (by simpa using h4)]);have eu:Hid (∀i,i<k+1->lS nds i=false):=ab (uh pX (by rw[uh GI];simp;omega));rw[h4]at x0;clear htsB hnwB Yo Wg GI t7 t8 t9;go_wp2_with fail
     go_roundg (G1-1)
     case rel=>exact⟨k+1,by omega,by go_num,by rw[uh GQ],by rw[uh D0];go_num,ab ⟨rfl,uh eu⟩⟩
     case measure=>omega
    .have D0:Hid ((nds.take (k+1)).countP P9=N):=ab (by rw[uh Wg,hnwB,if_neg (by simpa using h4),Nat.add_zero]);have t4:((nd.op:Int)==(4:Int))=false:=(by simp;omega);by_cases Ic:nd.op=10
     .rw[Ic]at x0;by_cases hb:nd.nx<k
      .have d1:decide ((nd.nx:Int)<(k:Int))=true:=(by simp;omega);have HE:Hid (R=false):=ab (by rw[uh HR];exact VC ar (by rw[uh GI];simp[Ic,hb]));clear htsB hnwB Yo Wg GI t7 t8 t9 t4;go_wp2_with fail
       go_ret;exact⟨aB (uh HE).symm,Below.refl _ _⟩
      .have d1:decide ((nd.nx:Int)<(k:Int))=false:=(by simp;omega);have eu:Hid (∀i,i<k+1->lS nds i=false):=ab (uh pX (by rw[uh GI];simp[hb]));clear htsB hnwB Yo Wg GI t7 t8 t9 t4;go_wp2_with fail
       go_roundg (G1-1)
       case rel=>exact⟨k+1,by omega,by go_num,by rw[uh GQ],by rw[uh D0],ab ⟨rfl,uh eu⟩⟩
       case measure=>omega
     .have t10:((nd.op:Int)==(10:Int))=false:=(by simp;omega);have eu:Hid (∀i,i<k+1->lS nds i=false):=ab (uh pX (by rw[uh GI];simp[Ic]));clear htsB hnwB Yo Wg GI;go_wp2_with fail
      go_roundg (G1-1)
      case rel=>exact⟨k+1,by omega,by go_num,by rw[uh GQ],by rw[uh D0],ab ⟨rfl,uh eu⟩⟩
      case measure=>omega
  .have hd:decide ((k:Int)<(nds.length:Int))=false:=(by simp;omega);have j5:nds.take k=nds:=take_of_length_le (by omega);rw[j5]at x9 j7 ⊢;have eu:Hid (∀i,i<nds.length->lS nds i=false):=ab (λi hi=>uh HBJ i (by omega));obtain⟨T,hT⟩:∃T,T=nds.countP VU:=⟨_,rfl⟩;obtain⟨N,hN⟩:∃N,N=nds.countP P9:=⟨_,rfl⟩;rw[<-hT]at x9 ⊢;rw[<-hN]at j7 ⊢;have HTN:=ab (zq2 hT hN);clear j5 hT hN HBJ HN;go_wp2_with fail
   go_loopg [58] al.length (λgn iv wx=>∃(j:Nat),j+gn=al.length/\iv=.int .i64 j/\Hid (Below w.heap.size w wx/\∀i,i<j->∀a,al[i]?=some a->a.k≠4))
   case atStart=>exact⟨0,by omega,rfl,ab ⟨Below.refl _ _,λi hi=>by omega⟩⟩
   case round =>
    obtain⟨j,BO,rfl,hJ⟩:=hrel;obtain⟨G2,Fi⟩:∃G2,G2=gk:=⟨_,rfl⟩;by_cases cd:j<al.length
    .have kj:decide ((j:Int)<(al.length:Int))=true:=(by simp;omega);obtain⟨g,rfl,nS,hc⟩:=uh HC (λe=>by rw[e]at cd;simp at cd);obtain⟨x0,x1,x2,x3,x4⟩:=hc j cd;have x0:=((uh hJ).1.cell nS).trans x0;have x1:=((uh hJ).1.cell nS).trans x1;have x2:=((uh hJ).1.cell nS).trans x2;have x3:=((uh hJ).1.cell nS).trans x3;have x4:=((uh hJ).1.cell nS).trans x4;have cN:al[j]?=some al[j]:=getElem?_eq_getElem cd;obtain⟨a,ha⟩:∃a,a=al[j]:=⟨_,rfl⟩;rw[<-ha]at x0 x1 x2 x3 x4 cN;obtain⟨ak,alk,ali,ark,ari⟩:=a;simp only at x0 x1 x2 x3 x4;have DZ:=ab cN;have fU:Hid (Below w.heap.size w (wr.alloc (.cells #[Value.int .i64 ak,.int .i64 alk,.int .i64 ali,.int .i64 ark,.int .i64 ari] 239))):=ab ((uh hJ).1.trans ((ah wr _).mono (uh hJ).1.size));have k1:(0:Int)<=(j:Int):=(by omega);have k2:(j:Int)<(al.length:Int):=(by omega);clear hc ha cN;by_cases h4:ak=4
     .have d4:((ak:Int)==(4:Int))=true:=(by simp[h4]);have HE:Hid (R=false):=ab (by rw[uh HR];exact VD (mem_of_getElem? (uh DZ)) h4);clear h4;go_wp2_with fail
      go_ret;exact⟨aB (uh HE).symm,uh fU⟩
     .have d4:((ak:Int)==(4:Int))=false:=(by simp;omega);have xG:=ab h4;clear h4;go_wp2_with fail
      go_roundg (G2-1)
      case rel=>exact⟨j+1,by omega,by go_num,ab ⟨uh fU,λi hi y hy=>by
       by_cases e':i=j
       .rw[e',uh DZ]at hy;injection hy with hy;rw[<-hy];exact uh xG
       .exact(uh hJ).2 i (by omega) y hy⟩⟩
      case measure=>omega
    .have kj:decide ((j:Int)<(al.length:Int))=false:=(by simp;omega);obtain⟨hb,FD⟩:=uh hJ;have d2:=(hb.cell hQl).trans c2;have HH2:=ab (uh HH wr hb);obtain⟨V,hV⟩:∃V,V=ps.vars.length:=⟨_,rfl⟩;have asr:V<=1000:=(by rw[hV];exact FO);rw[<-hV]at HR ⊢;obtain⟨Hn,hHn⟩:∃Hn,Hn=xW al:=⟨_,rfl⟩;rw[<-hHn]at HH2 hhl;have hRe:R=(decide (T<=5)&&decide (N<=4)&&decide (V+Hn<=6)&&decide (V+Hn+N<=8)):=by
      rw[uh HR,abW (uh eu) (λa ha=>?_),<-(uh HTN).1,<-(uh HTN).2,<-hHn];obtain⟨i,hi⟩:=mem_iff_getElem?.1 ha;exact FD i (by have:=(List.getElem?_eq_some_iff.1 hi).1;omega) a hi
     obtain⟨M,hM⟩:∃M,M=V+Hn:=⟨_,rfl⟩;rw[<-hM]at hRe;have RT:IntKind.i64.wrap ((V:Int)+(Hn:Int))=(M:Int):=(by rw[IntKind.wrap_i64];omega);have D4:=ab hRe;have HB:=ab hb;have hM2:M<=2000:=(by omega);obtain⟨P,hP⟩:∃P,P=M+N:=⟨_,rfl⟩;have hq2:IntKind.i64.wrap ((M:Int)+(N:Int))=(P:Int):=(by rw[IntKind.wrap_i64];omega);rw[<-hP]at D4;clear hb FD hV hHn hRe hM hP hJ HR eu HTN HH HC;go_wp2_with fail
     refine(uh HH2).mono ?_;rintro e w5 ⟨rfl,dT⟩;have lH:=ab ((uh HB).trans (dT.mono (uh HB).size));clear dT HB HH2;by_cases p1:T<=5
     .have e1:decide (T<=5)=true:=(by simpa using p1);have e1':decide ((T:Int)<=(5:Int))=true:=(by simp;omega);by_cases p2:N<=4
      .have e2:decide (N<=4)=true:=(by simpa using p2);have e2':decide ((N:Int)<=(4:Int))=true:=(by simp;omega);by_cases p3:M<=6
       .have e3:decide (M<=6)=true:=(by simpa using p3);have e3':decide ((M:Int)<=(6:Int))=true:=(by simp;omega);by_cases p4:P<=8
        .have e4:decide (P<=8)=true:=(by simpa using p4);have e4':decide ((P:Int)<=(8:Int))=true:=(by simp;omega);have HE:Hid (R=true):=ab (by rw[uh D4,e1,e2,e3,e4];rfl);clear p1 p2 p3 p4 e1 e2 e3 e4;go_wp2_with fail
         go_ret;exact⟨aB (uh HE).symm,uh lH⟩
        .have e4:decide (P<=8)=false:=(by simpa using p4);have e4':decide ((P:Int)<=(8:Int))=false:=(by simp;omega);have HE:Hid (R=false):=ab (by rw[uh D4,e1,e2,e3,e4];rfl);clear p1 p2 p3 p4 e1 e2 e3 e4;go_wp2_with fail
         go_ret;exact⟨aB (uh HE).symm,uh lH⟩
       .have e3:decide (M<=6)=false:=(by simpa using p3);have e3':decide ((M:Int)<=(6:Int))=false:=(by simp;omega);have HE:Hid (R=false):=ab (by rw[uh D4,e1,e2,e3];rfl);clear p1 p2 p3 e1 e2 e3;go_wp2_with fail
        go_ret;exact⟨aB (uh HE).symm,uh lH⟩
      .have e2:decide (N<=4)=false:=(by simpa using p2);have e2':decide ((N:Int)<=(4:Int))=false:=(by simp;omega);have HE:Hid (R=false):=ab (by rw[uh D4,e1,e2];rfl);clear p1 p2 e1 e2;go_wp2_with fail
       go_ret;exact⟨aB (uh HE).symm,uh lH⟩
     .have e1:decide (T<=5)=false:=(by simpa using p1);have e1':decide ((T:Int)<=(5:Int))=false:=(by simp;omega);have HE:Hid (R=false):=ab (by rw[uh D4,e1];rfl);clear p1 e1;go_wp2_with fail
      go_ret;exact⟨aB (uh HE).symm,uh lH⟩
end
theorem infoBl:(prog.info? 4).map (λi=>(i.zero,i.size,i.bytes))=some (some (.bool false),1,1):=by kernel_rfl
theorem infoEs:(prog.info? 255).map (λi=>(i.zero,i.size,i.bytes))=some (some (.slice none 0 0),1,24):=by kernel_rfl
theorem infoBs:(prog.info? 200).map (λi=>(i.zero,i.size,i.bytes))=some (some (.slice none 0 0),1,24):=by kernel_rfl
theorem I2{S:Nat}{hv kv wv:Value}{KV WV:List Value}{n:Nat}(v:Value):pp S hv kv wv KV (WV.set n v)=(pp S hv kv wv KV WV).set (4+(KV.length+n)) v.ownBlock:=by
 unfold pp;rw[show 4+(KV.length+n)=(KV.length+n)+1+1+1+1 by omega];simp only[set_cons_succ];rw[set_append_right _ _ (by simp),map_set];simp
structure rt(w W:World)(S:Nat)(c0 hv kv wv:Value)(WV:List Value)(lp:Bool)(hd:List Bool)(bd:Bool)(m i:Nat):Prop where
 bs:Bk W S 229 (qi c0 hv lp kv wv bd 3000 2097152 false)
 hl:hd.length=m
 hr:W.ownsRow 0 4 1 hv m (dd hd)
 kr:W.ownsRow 0 255 1 kv m (replicate m aJ)
 wr:W.ownsRow 0 200 1 wv m WV
 we:∀j,j<i->W.ownsRow 0 4 1 (WV.getD j aJ) 5 (dd (replicate 5 false))
 ap:Apt (pp S hv kv wv (replicate m aJ) WV)
 bl:Below w.heap.size w W
 ge:∀k∈cW S hv kv wv (replicate m aJ) WV,w.heap.size<=k
section
variable {w W W':World} {S:Nat} {c0 hv kv wv:Value} {WV:List Value} {lp bd:Bool} {hd:List Bool} {m i:Nat}
theorem rt.wl(h:rt w W S c0 hv kv wv WV lp hd bd m i):WV.length=m:=by have:=h.wr.1;omega
theorem rt.of_eq(h:rt w W S c0 hv kv wv WV lp hd bd m i)(him:i<=m)(he:∀k∈cW S hv kv wv (replicate m aJ) WV,W'.heap[k]?=W.heap[k]?)(hb:Below w.heap.size w W'):rt w W' S c0 hv kv wv WV lp hd bd m i:=by
 have hw:=h.wl;exact⟨h.bs.of_eq (he S gL),h.hl,ae h.hr (λk hk=>he k (bU (i:=1) (congrArg some hk))),ae h.kr (λk hk=>he k (bU (i:=2) (congrArg some hk))),ae h.wr (λk hk=>he k (bU (i:=3) (congrArg some hk))),λj hj=>ae (h.we j hj) (λk hk=>he k (bU ((AO (by omega)).trans (congrArg some hk)))),h.ap,hb,h.ge⟩
theorem rt.lt(h:rt w W S c0 hv kv wv WV lp hd bd m i)(hn:∀j,i<=j->WV.getD j aJ=aJ):∀k∈cW S hv kv wv (replicate m aJ) WV,k<W.heap.size:=by
 intro k hk;obtain⟨p,hp⟩:=aT.1 hk;rcases Qb hp with⟨-,rfl⟩|⟨-,e⟩|⟨-,e⟩|⟨-,e⟩|⟨j,hj,-,e⟩|⟨j,hj,-,e⟩
 .exact h.bs.lt
 .exact(h.hr.lt k e).2
 .exact(h.kr.lt k e).2
 .exact(h.wr.lt k e).2
 .have:(replicate m aJ).getD j aJ=aJ:=by rw[length_replicate]at hj;simp[hj]
  rw[this]at e;cases e
 .by_cases hji:j<i
  .exact((h.we j hji).lt k e).2
  .rw[hn j (by omega)]at e;cases e
theorem rt.below(h:rt w W S c0 hv kv wv WV lp hd bd m i)(him:i<=m)(hn:∀j,i<=j->WV.getD j aJ=aJ)(hb:Below W.heap.size W W'):rt w W' S c0 hv kv wv WV lp hd bd m i:=h.of_eq him (λk hk=>hb.block k (h.lt hn k hk)) (h.bl.trans (hb.mono h.bl.size))
theorem rt.row(h:rt w W S c0 hv kv wv WV lp hd bd m i)(him:i<m)(hn:∀j,i<=j->WV.getD j aJ=aJ){o:Obj}(ho:o=.cells (madeCells #[Value.bool false] 5) 4){wB wC:Nat}(RU:wv=.slice (some ⟨wB,0,none⟩) m wC):
  rt w ((W.alloc o).setCell ⟨wB,i,none⟩ (.slice (some ⟨W.heap.size,0,none⟩) 5 5)) S c0 hv kv wv (WV.set i (.slice (some ⟨W.heap.size,0,none⟩) 5 5)) lp hd bd m (i+1)/\∀j,i+1<=j->(WV.set i (.slice (some ⟨W.heap.size,0,none⟩) 5 5)).getD j aJ=aJ:=by
 have hw:=h.wl;have bH:=ah W o;have h1:=h.below (Nat.le_of_lt him) hn bH;have ar:=h.lt hn;have nV:W.heap.size<(W.alloc o).heap.size:=by simp
 have hwB:(pp S hv kv wv (replicate m aJ) WV)[3]?=some (some wB):=by rw[RU];rfl
 have hwBl:=ar wB (bU hwB);have hwBg:=h.ge wB (bU hwB);obtain⟨v,hv0⟩:∃v,v=Value.slice (some ⟨W.heap.size,0,none⟩) 5 5:=⟨_,rfl⟩;have Up:v.ownBlock=some W.heap.size:=by rw[hv0];rfl
 rw[<-hv0];have aL:∀p k,p≠3->(pp S hv kv wv (replicate m aJ) WV)[p]?=some (some k)->((W.alloc o).setCell ⟨wB,i,none⟩ v).heap[k]?=(W.alloc o).heap[k]?:=λp k hp hk=>heap_setCell _ _ _ _ (λe=>hp (h.ap p 3 k hk (by rw[hwB,show k=wB from e])));have cO:∀j,j≠i->(WV.set i v).getD j aJ=WV.getD j aJ:=λj hj=>by rw[getD_eq_getElem?_getD,getElem?_set_ne (λe=>hj e.symm),<-getD_eq_getElem?_getD]
 have tA:∀k,W.heap.size=k->∀p,(pp S hv kv wv (replicate m aJ) WV)[p]?≠some (some k):=λk hk p hp=>by have:=ar k (bU hp);omega
 refine⟨⟨h1.bs.of_eq (aL 0 S (by omega) rfl),h.hl,ae h1.hr (λk hk=>aL 1 k (by omega) (congrArg some hk)),ae h1.kr (λk hk=>aL 2 k (by omega) (congrArg some hk)),?_,λj hj=>?_,?_,h1.bl.setCell (p:=⟨wB,i,none⟩) hwBg _,λk hk=>?_⟩,λj hj=>by rw[cO j (by omega)];exact hn j (by omega)⟩
 .have:=h1.wr;rw[RU]at this ⊢;exact(this.stored i v).1
 .by_cases hji:j=i
  .subst hji;have e1:(WV.set j v).getD j aJ=v:=(by rw[getD_eq_getElem?_getD,getElem?_set_self (by omega)];rfl);rw[e1,hv0];have h2:=ownsRow_lit (base:=0) (e:=4) (size:=1) W (madeCells #[Value.bool false] 5) 5 (zq5 _) (by simp[maxLen]) (by simp[madeCells]);rw[toList_madeCells_one,<-ho]at h2;exact cy h2 (p:=⟨wB,j,none⟩) (by show some W.heap.size≠some wB;intro e;injection e with e;omega) _
  .rw[cO j hji];refine ae (h1.we j (by omega)) (λk hk=>aL (4+((replicate m aJ).length+j)) k (by omega) ((AO (by omega)).trans (congrArg some hk)))
 .rw[I2];refine h.ap.set _ (λk hk=>zq1 (tA k ?_));rw[Up]at hk;injection hk
 .obtain⟨p,hp⟩:=aT.1 hk;rw[I2,getElem?_set]at hp;split at hp
  .split at hp
   .simp only[Option.some.injEq]at hp;rw[Up]at hp;injection hp with hp;rw[<-hp];exact h.bl.size
   .simp at hp
  .exact h.ge k (bU hp)
theorem rt.head(h:rt w W S c0 hv kv wv WV lp hd bd m i)(him:i<=m){n hB hC:Nat}(hhv:hv=.slice (some ⟨hB,0,none⟩) m hC):rt w (W.setCell ⟨hB,n,none⟩ (.bool true)) S c0 hv kv wv WV lp (hd.set n true) bd m i:=by
 have hw:=h.wl;have hhB:(pp S hv kv wv (replicate m aJ) WV)[1]?=some (some hB):=by rw[hhv];rfl
 have aL:∀p k,p≠1->(pp S hv kv wv (replicate m aJ) WV)[p]?=some (some k)->(W.setCell ⟨hB,n,none⟩ (.bool true)).heap[k]?=W.heap[k]?:=λp k hp hk=>heap_setCell _ _ _ _ (λe=>hp (h.ap p 1 k hk (by rw[hhB,show k=hB from e])));refine⟨h.bs.of_eq (aL 0 S (by omega) rfl),by rw[length_set];exact h.hl,?_,ae h.kr (λk hk=>aL 2 k (by omega) (congrArg some hk)),ae h.wr (λk hk=>aL 3 k (by omega) (congrArg some hk)),λj hj=>ae (h.we j hj) (λk hk=>aL _ k (by omega) ((AO (by omega)).trans (congrArg some hk))),h.ap,h.bl.setCell (p:=⟨hB,n,none⟩) (h.ge hB (bU hhB)) _,h.ge⟩;have:=h.hr;rw[hhv]at this ⊢;have h2:=(this.stored n (.bool true)).1;have e:(dd hd).set n (.bool true)=dd (hd.set n true):=by unfold dd;rw[map_set]
 rw[e]at h2;exact h2
theorem rt.loop(h:rt w W S c0 hv kv wv WV lp hd bd m i)(him:i<=m):rt w (W.setCell ⟨S,2,none⟩ (.bool true)) S c0 hv kv wv WV true hd bd m i:=by
 have hw:=h.wl;have aL:∀p k,p≠0->(pp S hv kv wv (replicate m aJ) WV)[p]?=some (some k)->(W.setCell ⟨S,2,none⟩ (.bool true)).heap[k]?=W.heap[k]?:=λp k hp hk=>heap_setCell _ _ _ _ (λe=>hp (h.ap p 0 k hk (by rw[show k=S from e];rfl)));exact⟨h.bs.set 2 (.bool true),h.hl,ae h.hr (λk hk=>aL 1 k (by omega) (congrArg some hk)),ae h.kr (λk hk=>aL 2 k (by omega) (congrArg some hk)),ae h.wr (λk hk=>aL 3 k (by omega) (congrArg some hk)),λj hj=>ae (h.we j hj) (λk hk=>aL _ k (by omega) ((AO (by omega)).trans (congrArg some hk))),h.ap,h.bl.setCell (p:=⟨S,2,none⟩) (h.ge S gL) _,h.ge⟩
end
