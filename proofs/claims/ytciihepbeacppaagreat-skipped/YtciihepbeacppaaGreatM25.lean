import Derived.Test.YtciihepbeacppaaGreatM24
import Derived.Deep.RegionWith
set_option maxRecDepth 100000
set_option maxHeartbeats 0
namespace Go.Proofs.YtciihepbeacppaaGreat
open Tryz Go.RowKit List World Below
set_option linter.unusedVariables false
section
variable {w W:World} {S:Nat} {c:Cd} {c0 hv kv wv:Value} {KV WV:List Value} {K:List (List En)} {s:Sr} {n:Nat} {l:List En}
def jL(l:List En)(k:Nat):List En:=(l.take k).filter (λe=>!e.d)
theorem Kx{l:List En}{k:Nat}(h:k<l.length):jL l (k+1)=jL l k++if l[k].d=true then [] else [l[k]]:=by
 unfold jL;rw[Il h];congr 1;cases l[k].d <;> rfl
theorem Ub(l:List En)(k:Nat):(jL l k).length<=l.length:=zq3 (length_filter_le _ _) (by rw[length_take];omega)
theorem Sh.lE(h:Sh w S c c0 hv kv wv KV WV K s){k g cap n:Nat}{l:List En}(hn:n<K.length)(hl:l=K.getD n [])(hg:KV.getD n aJ=.slice (some ⟨g,0,none⟩) l.length cap)(hk:k<l.length):w.cell? ⟨g,k*2,none⟩=some (.pointer (some ⟨l[k].D,0,none⟩))/\w.cell? ⟨g,k*2+1,none⟩=some (.bool l[k].d)/\w.frozen? ⟨g,k*2+1,none⟩=false:=by
 have h1:=h.ke n hn;rw[hg,<-hl]at h1;obtain⟨h2,h3⟩:=mV h1 rfl hk;exact⟨h2,h3,h1.frozenAt _⟩
theorem RT{Q:Nat}{ws:List ByteArray}{ps:PS}{al:List cj}{vv pv nvv:Value}(h:Sh w S c (.pointer (some ⟨Q,0,none⟩)) hv kv wv KV WV K s)(hC:Cp w Q ws ps al vv pv nvv)(hCd:∀k∈Cf Q vv pv nvv,k ∉ cZ S hv kv wv KV WV)(kH:c.nds=ps.nodes)(hN:sS c.nds)(hn:n<K.length)(yi:K.length<=100000){fuel:Nat}(bn:(sQ c fuel n s).ok=true)(nX:(br s n).length<=tH+1):
  Calls prog 142 #[.pointer (some ⟨S,0,none⟩),.int .i64 n] w λe w'=>e=.returned (.tuple #[])/\il w S c (.pointer (some ⟨Q,0,none⟩)) hv kv wv KV WV K [] (sQ c fuel n s) w':=by
 obtain⟨i0,lw,gY,gz,gL⟩:=info_parts infoPF;obtain⟨kB,kC,SH,-⟩:=h.kc hn;subst SH;obtain⟨l,hl⟩:∃l,l=K.getD n []:=⟨_,rfl⟩;have gw:=h.knE n;rw[<-hl]at gw;rw[gw,length_map]at nX;have EH:l.length<=1000000000001:=by unfold tH at nX;omega
 obtain⟨va,vc,AP,PQ,UQ⟩:=am (h.ke n hn);rw[<-hl]at AP PQ;have hlK:l∈K:=by rw[hl,bG hn];exact getElem_mem hn
 obtain⟨s1,dA⟩:∃s1:Sr,s1={ s with kn:=s.kn.set n ((fW l l.length).map En.m) }:=⟨_,rfl⟩;have hvi:sQ c fuel n s=nO c fuel n ((l.filter (λe=>!e.d)).map (λe=>e.x.f)) s1:=by
  unfold sQ;rw[gw,dA,TP (zq4 _)];have e1:mI (l.map En.m)=(l.filter (λe=>!e.d)).map (λe=>e.x.f):=by
   unfold mI;rw[filter_map,map_map];rfl
  have e2:(l.map En.m).map (λe=>(⟨e.f,true⟩:ii))=(l.map En.dn).map En.m:=by
   rw[map_map,map_map];rfl
  rw[e1,e2]
 rw[hvi]at bn ⊢;obtain⟨R,hR⟩:∃R,R=nO c fuel n ((l.filter (λe=>!e.d)).map (λe=>e.x.f)) s1:=⟨_,rfl⟩;rw[<-hR]at bn ⊢;have H0:Hid (Sh w S c (.pointer (some ⟨Q,0,none⟩)) hv (.slice (some ⟨kB,0,none⟩) K.length kC) wv KV WV (K.set n (fW l 0)) { s with kn:=s.kn.set n ((fW l 0).map En.m) }):=ab (by
  rw[NY];have e1:K.set n l=K:=by rw[hl,nL hn]
  have e2:s.kn.set n (l.map En.m)=s.kn:=by
   rw[<-gw];exact nL (by rw[h.km,length_map];exact hn)
  rw[e1,e2];exact h)
 have Mf:=hC.lt;have HA:=ab (zq2 h (zq2 hC (zq2 hCd (zq2 kH hN))));have HL:=ab (zq2 hl hlK);have YE:=ab AP;have HR:=ab hR;have cI:=ab dA;have mr:=ab bn;obtain⟨eI,dL⟩:∃eI:World->Prop,eI=λw'=>il w S c (.pointer (some ⟨Q,0,none⟩)) hv (.slice (some ⟨kB,0,none⟩) K.length kC) wv KV WV K [] R w':=⟨_,rfl⟩;have gD:=ab dL;rw[show(fun(e:Ending) (w':World)=>e=.returned (.tuple #[])/\il w S c (.pointer (some ⟨Q,0,none⟩)) hv (.slice (some ⟨kB,0,none⟩) K.length kC) wv KV WV K [] R w')=(λe w'=>e=.returned (.tuple #[])/\eI w') by rw[dL]];have i1:(0:Int)<=(n:Int):=by omega
 have i2:(n:Int)<(K.length:Int):=by omega
 have cG:Hid ((w.alloc (.cells #[] 126)).ownsRow w.heap.size 126 1 (.slice (some ⟨w.heap.size,0,none⟩) 0 0) (jL l 0).length ((jL l 0).map (λe=>e.x.p))/\ij w (w.alloc (.cells #[] 126)) (cZ S hv (.slice (some ⟨kB,0,none⟩) K.length kC) wv KV WV) (cZ S hv (.slice (some ⟨kB,0,none⟩) K.length kC) wv KV WV) (et K) (et K) []/\Sh (w.alloc (.cells #[] 126)) S c (.pointer (some ⟨Q,0,none⟩)) hv (.slice (some ⟨kB,0,none⟩) K.length kC) wv KV WV (K.set n (fW l 0)) { s with kn:=s.kn.set n ((fW l 0).map En.m) }):=ab ⟨ownsRow_lit (base:=w.heap.size) (e:=126) (size:=1) w #[] 0 (zq4 _) (by simp[maxLen]) rfl,ij.below (ah w _),(uh H0).below (ah w _)⟩;clear h hC hCd kH hN hl hlK AP hvi bn hR dA gw nX dL H0 Mf;go_enter func142,ntmps142;go_wp2_with fail
 go_loopg [4,5] l.length (λgn fv iv wx=>∃(k:Nat),k+gn=l.length/\iv=.int .i64 k/\Hid (wx.ownsRow w.heap.size 126 1 fv (jL l k).length ((jL l k).map (λe=>e.x.p))/\ij w wx (cZ S hv (.slice (some ⟨kB,0,none⟩) K.length kC) wv KV WV) (cZ S hv (.slice (some ⟨kB,0,none⟩) K.length kC) wv KV WV) (et K) (et K) []/\Sh wx S c (.pointer (some ⟨Q,0,none⟩)) hv (.slice (some ⟨kB,0,none⟩) K.length kC) wv KV WV (K.set n (fW l k)) { s with kn:=s.kn.set n ((fW l k).map En.m) }))
 case atStart=>exact⟨0,by omega,rfl,cG⟩
 case round =>
  clear cG;obtain⟨k,gw,rfl,hI⟩:=hrel;obtain⟨G1,zi⟩:∃G1,G1=gk:=⟨_,rfl⟩;obtain⟨h1,h2,h3⟩:=uh hI;obtain⟨fa,fc,Xy,-,-⟩:=am h1;subst Xy;have zj:(K.set n (fW l k)).length=K.length:=length_set;have c3:=h3.bs.cell 3 rfl;obtain⟨kB',kC',qJ,ckc⟩:=h3.kc (n:=n) (by rw[zj];exact hn);simp only[Value.slice.injEq,Option.some.injEq,Addr.mk.injEq,and_true]at qJ;obtain⟨rfl,-,rfl⟩:=qJ;rw[uh YE]at ckc;by_cases au:k<l.length
  .have hd:decide ((k:Int)<(l.length:Int))=true:=(by simp;omega);obtain⟨g,cap,dF⟩:∃g cap,KV.getD n aJ=.slice (some ⟨g,0,none⟩) l.length cap:=by
    have h4:=h3.ke n (by rw[zj];exact hn);have e2:(K.set n (fW l k)).getD n []=fW l k:=(by simp[hn]);rw[e2,cW]at h4;obtain⟨g,cap,h5,-,-,-⟩:=b9 h4 (by omega);exact⟨g,cap,h5⟩
   have dc:=dF;rw[uh YE]at dc;simp only[Value.slice.injEq,true_and]at dc;obtain⟨rfl,rfl⟩:=dc;have e2:(K.set n (fW l k)).getD n []=fW l k:=(by simp[hn]);obtain⟨x0,x1,xz⟩:=h3.lE (k:=k) (l:=fW l k) (by rw[zj];exact hn) e2.symm (by rw[cW];exact dF) (by rw[cW];exact au);have hek:(fW l k)[k]'(by rw[cW];exact au)=l[k]:=by
    have h6:=At au;rw[getElem?_eq_getElem (by rw[cW];exact au)]at h6;injection h6
   rw[hek]at x0 x1;have aP:=Kx au;have k1:(0:Int)<=(k:Int):=(by omega);have k2:(k:Int)<(l.length:Int):=(by omega);cases Xv:l[k].d
   .rw[Xv]at x1 aP;rw[if_neg (by decide)]at aP;obtain⟨h4,xT⟩:=h3.done hn au dF;obtain⟨W4,yj⟩:∃W4,W4=wr.setCell ⟨g,k*2+1,none⟩ (.bool true):=⟨_,rfl⟩;rw[<-yj]at h4;have hsW:ar [g] wr [g] W4:=(by rw[yj];exact(ar.refl [g] wr).setCell (p:=⟨g,k*2+1,none⟩) (zq0 (by simp)) (.bool true));have ZJ:(K.set n (fW l (k+1))).length=K.length:=length_set;have d3:=h4.bs.cell 3 rfl;obtain⟨kB',kC',qJ,dkc⟩:=h4.kc (n:=n) (by rw[ZJ];exact hn);simp only[Value.slice.injEq,Option.some.injEq,Addr.mk.injEq,and_true]at qJ;obtain⟨rfl,-,rfl⟩:=qJ;rw[dF]at dkc;have e3:(K.set n (fW l (k+1))).getD n []=fW l (k+1):=(by simp[hn]);obtain⟨z0,z1,-⟩:=h4.lE (k:=k) (l:=fW l (k+1)) (by rw[ZJ];exact hn) e3.symm (by rw[cW];exact dF) (by rw[cW];exact au);have hdD:((fW l (k+1))[k]'(by rw[cW];exact au)).D=l[k].D:=by
     have h6:(fW l (k+1))[k]?=some l[k].dn:=(by rw[qB au,getElem?_set_self (by rw[cW];exact au)]);rw[getElem?_eq_getElem (by rw[cW];exact au)]at h6;injection h6 with h6;rw[h6];rfl
    rw[hdD]at z0;have hlm:fW l (k+1)∈K.set n (fW l (k+1)):=mem_iff_getElem?.2 ⟨n,by rw[getElem?_set_self hn]⟩;have hem:l[k].dn∈fW l (k+1):=mem_iff_getElem?.2 ⟨k,by rw[qB au,getElem?_set_self (by rw[cW];exact au)]⟩;have fq:=(h4.dr _ hlm _ hem).1.fo;have afS:W4.cell? ⟨l[k].D,0,none⟩=some (.pointer (some ⟨l[k].x.A,0,none⟩)):=fq;have px:=h1.lt;have nZ:=h3.lt g xT;have hgw:=(uh HA).1.lt g xT;have WJ:Hid (W4.ownsRow w.heap.size 126 1 (.slice fa (jL l k).length fc) (jL l k).length ((jL l k).map (λe=>e.x.p))):=ab (ae h1 (λq hq=>hsW.block q (px q hq).2 (λe=>by
     rw[mem_singleton]at e;have:=(px q hq).1;omega)))
    have Mr:=h2.trans (ij.stp (X:=[]) hsW (λq hq=>zq0 (by rw[mem_singleton]at hq;rw[hq];exact xT))) (λq hq=>by simp at hq);have jx:=Ub l k;have asf:=Mr.st.size;obtain⟨Dk,hDk⟩:∃Dk,Dk=l[k].D:=⟨_,rfl⟩;obtain⟨Ak,hAk⟩:∃Ak,Ak=l[k].x.A:=⟨_,rfl⟩;rw[<-hDk]at x0 z0 afS;rw[<-hAk]at afS;have H4:=ab (zq2 h4 (zq2 Mr (zq2 aP hAk)));clear h1 h2 h3 xT hsW hek e2 e3 ZJ hdD hlm hem fq px nZ hgw h4 Mr Xv hDk hAk aP hI zj dF;go_upto_region 6 with fail;rw[<-yj];clear yj c3 ckc x0 x1 xz z1;go_wp2_with (at_builtin;refine tB _ rfl (.tmp 42) (.tmp 57) 125 rfl w.heap.size 126 i0 _ 1 8 underlying125 lw gY gz gL rfl (by decide) _ (jL l k).length ((jL l k).map (λe=>e.x.p)) rfl ((uh WJ).alloc _) ⟨_,0,none⟩ 1 [.pointer (some ⟨Ak,0,none⟩)] rfl rfl (aN _ _ (by simp) [.pointer (some ⟨Ak,0,none⟩)] _) (by intro u hu;simp only[mem_singleton]at hu;subst hu;rfl) (by omega) (by omega) (by simp;omega) ?_)
    intro g7 cap7 w7 iM dN gi;have zp:=lK dN (by simpa using gi);have Cw:=(uh WJ).lt;have K6:∀q,q<w.heap.size->q ∉ (Value.slice fa (jL l k).length fc).ownBlock.toList:=λq hq e=>by
     have:=(Cw q (by simpa using e)).1;omega
    obtain⟨h4,Mr,aP,hAk⟩:=uh H4;have hKV:∀q∈cZ S hv (.slice (some ⟨kB,0,none⟩) K.length kC) wv KV WV,q<w.heap.size:=(uh HA).1.lt;have hKD:∀q∈et (K.set n (fW l (k+1))),q<w.heap.size:=λq hq=>(uh HA).1.drlt q ((CS (uh HL).1 hn (k+1) q).1 hq);have h7:=h4.stp zp (λq hq=>K6 q (hKV q hq)) (λq hq=>K6 q (hKD q hq));have hg7:ij w w7 (cZ S hv (.slice (some ⟨kB,0,none⟩) K.length kC) wv KV WV) (cZ S hv (.slice (some ⟨kB,0,none⟩) K.length kC) wv KV WV) (et K) (et K) []:=Mr.trans (ij.stp (X:=(Value.slice fa (jL l k).length fc).ownBlock.toList) zp (λq hq=>zq1 hq)) (λq hq=>zq1 (Cw q (by simpa using hq)).1);have XJ:w7.ownsRow w.heap.size 126 1 (.slice (some ⟨g7,0,none⟩) ((jL l k).length+1) cap7) (jL l (k+1)).length ((jL l (k+1)).map (λe=>e.x.p)):=by
     rw[aP,length_append,map_append];have e5:[l[k]].map (λe=>e.x.p)=[Value.pointer (some ⟨Ak,0,none⟩)]:=(by rw[hAk];rfl);rw[e5];exact iM
    have HN:=ab (zq2 XJ (zq2 hg7 h7));clear iM dN gi zp Cw K6 h4 Mr aP hAk hKV hKD h7 hg7 XJ H4 WJ;go_wp2_with fail
    go_roundg (G1-1)
    case rel=>exact⟨k+1,by omega,by go_num,HN⟩
    case measure=>omega
   .have e4:=NX au Xv;rw[Xv]at x1 aP;rw[if_pos rfl,append_nil]at aP;have HN:Hid (wr.ownsRow w.heap.size 126 1 (.slice fa (jL l k).length fc) (jL l (k+1)).length ((jL l (k+1)).map (λe=>e.x.p))/\ij w wr (cZ S hv (.slice (some ⟨kB,0,none⟩) K.length kC) wv KV WV) (cZ S hv (.slice (some ⟨kB,0,none⟩) K.length kC) wv KV WV) (et K) (et K) []/\Sh wr S c (.pointer (some ⟨Q,0,none⟩)) hv (.slice (some ⟨kB,0,none⟩) K.length kC) wv KV WV (K.set n (fW l (k+1))) { s with kn:=s.kn.set n ((fW l (k+1)).map En.m) }):=ab (by rw[aP,e4];exact⟨h1,h2,h3⟩);clear h1 h2 h3 hek e2 zj Xv aP hI dF e4;go_wp2_with fail
    go_roundg (G1-1)
    case rel=>exact⟨k+1,by omega,by go_num,HN⟩
    case measure=>omega
  .have hd:decide ((k:Int)<(l.length:Int))=false:=(by simp;omega);have gK:k=l.length:=(by omega);have hFR:jL l k=l.filter (λe=>!e.d):=(by unfold jL;rw[take_of_length_le (by omega)]);have hDN:fW l k=fW l l.length:=(by rw[gK]);rw[hFR]at h1 ⊢;rw[hDN]at h3;rw[<-uh cI]at h3;obtain⟨FR,Un⟩:∃FR,FR=l.filter (λe=>!e.d):=⟨_,rfl⟩;have hR:=uh HR;rw[<-Un]at h1 hR ⊢;have hFl:FR.length<=l.length:=(by rw[Un];exact length_filter_le _ _);have F9:∀q,(Value.slice fa FR.length fc).ownBlock=some q->q ∉ (cZ S hv (.slice (some ⟨kB,0,none⟩) K.length kC) wv KV WV):=λq hq e=>by
    have h7:=(h1.lt q hq).1;have h8:=(uh HA).1.lt q e;omega
   have KW:ij w wr (cZ S hv (.slice (some ⟨kB,0,none⟩) K.length kC) wv KV WV) (cZ S hv (.slice (some ⟨kB,0,none⟩) K.length kC) wv KV WV) (et K) (et (K.set n (fW l l.length))) []:=⟨h2.st,λq hq=>zq0 ((CS (uh HL).1 hn l.length q).1 hq)⟩;have cG:=ab (zq2 h3 (zq2 KW (zq2 h1 (zq2 F9 hR))));have HFM:Hid (∀e∈FR,e∈l):=ab (λe he=>by rw[Un]at he;exact(mem_filter.1 he).1);clear h1 h2 h3 hI hFR hDN Un hR F9 KW zj gw gK HR cI;go_wp2_with fail
   go_loopg [6] FR.length (λgn iv wx=>∃(j:Nat) (KV':List Value) (K':List (List En)) (s':Sr),j+gn=FR.length/\iv=.int .i64 j/\Hid (Sh wx S c (.pointer (some ⟨Q,0,none⟩)) hv (.slice (some ⟨kB,0,none⟩) K.length kC) wv KV' WV K' s'/\K'.length=K.length/\ij w wx (cZ S hv (.slice (some ⟨kB,0,none⟩) K.length kC) wv KV WV) (cZ S hv (.slice (some ⟨kB,0,none⟩) K.length kC) wv KV' WV) (et K) (et K') []/\wx.ownsRow w.heap.size 126 1 (.slice fa FR.length fc) FR.length (FR.map (λe=>e.x.p))/\(∀q,(Value.slice fa FR.length fc).ownBlock=some q->q ∉ (cZ S hv (.slice (some ⟨kB,0,none⟩) K.length kC) wv KV' WV))/\nO c fuel n ((FR.drop j).map (λe=>e.x.f)) s'=R))
   case atStart=>exact⟨0,KV,_,s1,by omega,rfl,ab ⟨(uh cG).1,length_set,(uh cG).2.1,(uh cG).2.2.1,(uh cG).2.2.2.1,by rw[drop_zero];exact(uh cG).2.2.2.2.symm⟩⟩
   case round =>
    clear cG;obtain⟨j,KV',K',s',Cs,rfl,hI⟩:=hrel;obtain⟨G2,FD⟩:∃G2,G2=gk:=⟨_,rfl⟩;obtain⟨h1,h2,h3,h4,h5,h6⟩:=uh hI;have c8:=h1.bs.cell 8 rfl;have OK:s'=R->Hid (eI wr):=λe=>ab (by rw[uh gD,<-e];exact⟨KV',K',h1,h2,h3⟩);by_cases au:j<FR.length
    .have k6:decide ((j:Int)<(FR.length:Int))=true:=(by simp;omega);have nY:FR.drop j=FR[j]::FR.drop (j+1):=drop_eq_getElem_cons au;rw[nY,map_cons]at h6;unfold nO at h6;cases dY:s'.fu
     .rw[dY]at c8 h6;rw[if_neg (by decide)]at h6;obtain⟨g2,cap2,dc,-,-,-⟩:=b9 h4 (by omega);simp only[Value.slice.injEq,true_and]at dc;obtain⟨rfl,rfl⟩:=dc;have ax:wr.cell? ⟨g2,j,none⟩=some (.pointer (some ⟨FR[j].x.A,0,none⟩)):=by
       rw[h4.cellAt j (by omega),getElem?_map,getElem?_eq_getElem au];rfl
      have mJ:=uh HFM _ (getElem_mem au);have zm:=(uh HA).1.dr l (uh HL).2 _ mJ;have hbK:∀q∈FR[j].x.bs,q∈et K:=λq hq=>bC.2 ⟨l,(uh HL).2,_,mJ,mem_cons_of_mem _ hq⟩;have hbn:∀q,q<w.heap.size->q ∉ (cZ S hv (.slice (some ⟨kB,0,none⟩) K.length kC) wv KV WV)->q ∉ (cZ S hv (.slice (some ⟨kB,0,none⟩) K.length kC) wv KV' WV)/\wr.heap[q]?=w.heap[q]?:=λq hq xV=>⟨λe=>by
       rcases h3.st.foot q e with p|p
       .exact xV (by simpa using p)
       .omega,h3.st.block q hq (by simpa using xV)⟩
      have cf:∀q∈FR[j].x.bs,q ∉ (cZ S hv (.slice (some ⟨kB,0,none⟩) K.length kC) wv KV' WV)/\wr.heap[q]?=w.heap[q]?:=λq hq=>hbn q ((uh HA).1.drlt q (hbK q hq)) ((uh HA).1.da q (hbK q hq));have hFw:=zm.1.ff.of_eq (w':=wr) (λq hq=>(cf q hq).2);have hCp:=(uh HA).2.1.of_eq (w':=wr) (λq hq=>(hbn q ((uh HA).2.1.lt q hq) ((uh HA).2.2.1 q hq)).2);have qL:(po c fuel n FR[j].x.f s').ok=true:=nP _ (by rw[h6];exact uh mr);have YB:=ab (Wd h1 hCp (uh HA).2.2.2.1 (uh HA).2.2.2.2 hFw zm.2 (λq hq=>(cf q hq).1) (n:=n) (by omega) (by omega) qL);have HI:=ab (zq2 h2 (zq2 h3 (zq2 h4 (zq2 h5 h6))));obtain⟨Aj,hAj⟩:∃Aj,Aj=FR[j].x.A:=⟨_,rfl⟩;rw[<-hAj]at ax YB;have k1:(0:Int)<=(j:Int):=(by omega);have k2:(j:Int)<(FR.length:Int):=(by omega);clear h1 h2 h3 h4 h5 h6 mJ zm hbK hbn cf hFw hCp qL hAj nY hI OK dY;go_wp2_with fail
      refine(uh YB).mono ?_;rintro e w5 ⟨rfl,tG,K2,q1,q2,q3⟩;obtain⟨h2,h3,h4,h5,h6⟩:=uh HI;have AJ:=ae h4 (λq hq=>q3.st.block q (h4.lt q hq).2 (by simpa using h5 q hq));have hq5:∀q,(Value.slice (some ⟨g2,0,none⟩) FR.length fc).ownBlock=some q->q ∉ cZ S hv (.slice (some ⟨kB,0,none⟩) K.length kC) wv tG WV:=λq hq e=>by
       rcases q3.st.foot q e with p|p
       .exact h5 q hq (by simpa using p)
       .have:=(h4.lt q hq).2;omega
      have HN:=ab (zq2 q1 (zq2 (q2.trans h2) (zq2 (h3.trans q3 (λq hq=>by simp at hq)) (zq2 AJ (zq2 hq5 h6)))));clear q1 q2 q3 h2 h3 h4 h5 h6 AJ hq5 YB HI c8 ax;go_wp2_with fail
      go_roundg (G2-1)
      case rel=>exact⟨j+1,tG,K2,_,by omega,by go_num,HN⟩
      case measure=>omega
     .rw[dY]at c8 h6;rw[if_pos rfl]at h6;have HP:=OK h6;clear h1 h2 h3 h4 h5 h6 nY hI OK dY;go_wp2_with fail
      go_end0
      exact⟨rfl,uh HP⟩
    .have k6:decide ((j:Int)<(FR.length:Int))=false:=(by simp;omega);rw[drop_eq_nil_of_le (by omega)]at h6;have HP:=OK h6;clear h1 h2 h3 h4 h5 h6 hI OK;go_wp2_with fail
     go_end0
     exact⟨rfl,uh HP⟩
end
theorem QI{s:Sr}{n:Nat}(hn:n<s.kn.length)(h1:(s.kn[n]).any (λe=>!e.d)=true)(h2:∀m,m<n->∀l,s.kn[m]?=some l->l.any (λe=>!e.d)=false):EP s=some n:=by
 unfold EP;rw[findIdx?_eq_some_iff_getElem];refine⟨hn,h1,λj hj=>?_⟩;rw[h2 j hj _ (getElem?_eq_getElem (by omega))];decide
theorem QH{s:Sr}(h2:∀(m:Nat) (l:List ii),s.kn[m]?=some l->l.any (λe=>!e.d)=false):EP s=none:=by
 unfold EP;rw[findIdx?_eq_none_iff];intro l hl;obtain⟨m,hm⟩:=mem_iff_getElem?.1 hl;exact h2 m l hm
section
variable {w:World} {S:Nat} {c:Cd} {c0 hv kv wv:Value} {KV WV:List Value} {K:List (List En)} {s:Sr}
theorem Sh.kn_at(h:Sh w S c c0 hv kv wv KV WV K s){m:Nat}{l:List ii}(hl:s.kn[m]?=some l):∃L,K[m]?=some L/\l=L.map En.m:=by
 rw[h.km,getElem?_map]at hl;cases hk:K[m]? with
 |none=>rw[hk]at hl;simp at hl
 |some L=>rw[hk]at hl;exact⟨L,rfl,by simpa[eq_comm] using hl⟩
theorem wP(h:Sh w S c c0 hv kv wv KV WV K s)(yi:K.length<=100000):
  Calls prog 141 #[.pointer (some ⟨S,0,none⟩)] w λe w'=>e=.returned (.int .i64 (fV (EP s)))/\Below w.heap.size w w':=by
 obtain⟨R,hR⟩:∃R,R=fV (EP s):=⟨_,rfl⟩;rw[<-hR];obtain⟨ka,kC,SH,-,-⟩:=am h.kr;subst SH;have cG:Hid (Below w.heap.size w w/\∀m,m<0->∀L,K[m]?=some L->L.any (λe=>!e.d)=false):=ab ⟨Below.refl _ _,λm hm=>by omega⟩;have H:=ab h;have HR:=ab hR;have Yf:Hid (∀L:List En,(L.map En.m).any (λe=>!e.d)=L.any (λe=>!e.d)):=ab (λL=>by rw[any_map];rfl);clear h hR;go_enter func141,ntmps141;go_wp2_with fail
 go_loopg [3] K.length (λgn iv wx=>∃(k:Nat),k+gn=K.length/\iv=.int .i64 k/\Hid (Below w.heap.size w wx/\∀m,m<k->∀L,K[m]?=some L->L.any (λe=>!e.d)=false))
 case atStart=>exact⟨0,by omega,rfl,cG⟩
 case round =>
  clear cG;obtain⟨k,gw,rfl,hI⟩:=hrel;obtain⟨G1,zi⟩:∃G1,G1=gk:=⟨_,rfl⟩;have h1:=(uh H).below (uh hI).1;have c3:=h1.bs.cell 3 rfl;by_cases au:k<K.length
  .have hd:decide ((k:Int)<(K.length:Int))=true:=(by simp;omega);obtain⟨kB',kC',qJ,ckc⟩:=h1.kc au;simp only[Value.slice.injEq,true_and]at qJ;obtain⟨rfl,rfl⟩:=qJ;obtain⟨L,hL⟩:∃L,L=K.getD k []:=⟨_,rfl⟩;have hLK:K[k]?=some L:=(by rw[hL,bG au,getElem?_eq_getElem au]);have kI:=(uh H).ke k au;rw[<-hL]at kI;obtain⟨va,vc,AP,PQ,UQ⟩:=am kI;rw[AP]at ckc kI;have HK:=ab kI;have Sg:=ab hLK;have i1:(0:Int)<=(k:Int):=(by omega);have i2:(k:Int)<(K.length:Int):=(by omega);have oP:Hid (Below w.heap.size w wr/\∀i,i<0->∀e,L[i]?=some e->e.d=true):=ab ⟨(uh hI).1,λm hm=>by omega⟩;have ep:=ab (uh hI).2;clear h1 hL hLK kI AP hI;go_wp2_with fail
   go_loopg [23] L.length (λgn iv wx=>∃(j:Nat),j+gn=L.length/\iv=.int .i64 j/\Hid (Below w.heap.size w wx/\∀i,i<j->∀e,L[i]?=some e->e.d=true))
   case atStart=>exact⟨0,by omega,rfl,oP⟩
   case round =>
    clear oP c3 ckc;obtain⟨j,Cs,rfl,hJ⟩:=hrel;obtain⟨G2,FD⟩:∃G2,G2=gk:=⟨_,rfl⟩;by_cases b8:j<L.length
    .have k6:decide ((j:Int)<(L.length:Int))=true:=(by simp;omega);have ki:=eZ (uh HK) (uh hJ).1;obtain⟨g,cap,dF,-,-⟩:=b9 ki (by omega);simp only[Value.slice.injEq,true_and]at dF;obtain⟨rfl,rfl⟩:=dF;obtain⟨x0,x1⟩:=mV ki rfl b8;have cX:L[j]?=some L[j]:=getElem?_eq_getElem b8;obtain⟨e,Mn⟩:∃e,e=L[j]:=⟨_,rfl⟩;rw[<-Mn]at x0 x1 cX;obtain⟨eD,ex,ed⟩:=e;simp only at x0 x1;have Eo:=ab cX;have k1:(0:Int)<=(j:Int):=(by omega);have k2:(j:Int)<(L.length:Int):=(by omega);have eu:Below w.heap.size w (wr.alloc (.cells #[Value.pointer (some ⟨eD,0,none⟩),.bool ed] 258)):=(uh hJ).1.trans ((ah wr _).mono (uh hJ).1.size);have lO:=ab eu;clear ki cX Mn eu;cases ed
     .have HE:Hid (R=(k:Int)):=ab (by
       have hkL:k<s.kn.length:=(by rw[(uh H).km,length_map];exact au);rw[uh HR,QI hkL ?_ ?_]
       .rfl
       .obtain⟨L2,h2,h3⟩:=(uh H).kn_at (getElem?_eq_getElem hkL);rw[uh Sg]at h2;injection h2 with h2;rw[h3,<-h2,uh Yf,any_eq_true];exact⟨_,mem_of_getElem? (uh Eo),rfl⟩
       .intro m hm l hl;obtain⟨L2,h2,rfl⟩:=(uh H).kn_at hl;rw[uh Yf];exact uh ep m hm L2 h2)
      go_wp2_with fail
      go_ret;exact⟨bj (uh HE).symm,uh lO⟩
     .go_wp2_with fail
      go_roundg (G2-1)
      case rel=>exact⟨j+1,by omega,by go_num,ab ⟨uh lO,λi hi y hy=>by
       by_cases e':i=j
       .rw[e',uh Eo]at hy;injection hy with hy;rw[<-hy]
       .exact(uh hJ).2 i (by omega) y hy⟩⟩
      case measure=>omega
    .have k6:decide ((j:Int)<(L.length:Int))=false:=(by simp;omega);go_wp2_with fail
     go_roundg (G1-1)
     case rel=>exact⟨k+1,by omega,by go_num,ab ⟨(uh hJ).1,λm hm L2 h2=>by
      by_cases e':m=k
      .rw[e',uh Sg]at h2;injection h2 with h2;rw[<-h2,any_eq_false];intro e he;obtain⟨i,hi⟩:=mem_iff_getElem?.1 he;rw[(uh hJ).2 i (by have:=(List.getElem?_eq_some_iff.1 hi).1;omega) e hi];decide
      .exact uh ep m (by omega) L2 h2⟩⟩
     case measure=>omega
  .have hd:decide ((k:Int)<(K.length:Int))=false:=(by simp;omega);have HE:Hid (R=-1):=ab (by
    rw[uh HR,QH (λm l hl=>?_)]
    .rfl
    .obtain⟨L,hL,rfl⟩:=(uh H).kn_at hl;rw[uh Yf];exact(uh hI).2 m (by have:=(List.getElem?_eq_some_iff.1 hL).1;omega) L hL)
   clear h1;go_wp2_with fail
   go_ret;exact⟨bj (uh HE).symm,(uh hI).1⟩
end
def n7(m k i:Nat):Nat:=if k=2/\m<=i then i+1 else m
theorem Pm{al:List cj}{k:Nat}(h:k<al.length):yp (al.take (k+1))=n7 (n7 (yp (al.take k)) al[k].lk al[k].li) al[k].rk al[k].ri:=by
 unfold yp;rw[take_succ_eq_append_getElem h,foldl_append];rfl
theorem FP{m k i:Nat}(hm:m<=101)(hi:i<=100):n7 m k i<=101:=by unfold n7;split <;> omega
theorem Pl:∀(al:List cj),(∀a∈al,a.li<=100/\a.ri<=100)->yp al<=101:=by
 intro al h;have key:∀(l:List cj) (m:Nat),(∀a∈l,a.li<=100/\a.ri<=100)->m<=101->l.foldl (λm a=>n7 (n7 m a.lk a.li) a.rk a.ri) m<=101:=by
  intro l;induction l with
  |nil=>intro m _ hm;exact hm
  |cons a l ih=>intro m hl hm;exact ih _ (λb hb=>hl b (mem_cons_of_mem _ hb)) (FP (FP hm (hl a (by simp)).1) (hl a (by simp)).2)
 exact key al 0 h (by omega)
theorem aaN(a b c d:Value)(w:World):(Instr.index 287 (.agg #[a,b,c,d]) (.int .i64 0)).run prog w=.ok (.agg #[a,b]) w:=by kernel_rfl
theorem aaO(a b c d:Value)(w:World):(Instr.index 287 (.agg #[a,b,c,d]) (.int .i64 1)).run prog w=.ok (.agg #[c,d]) w:=by kernel_rfl
section
variable {w:World} {B:Nat} {av:Value} {al:List cj}
theorem FQ(h:w.ownsRow B 239 5 av al.length (bO al))(m6:al.length<=1000)(hb:∀a∈al,a.li<=100/\a.ri<=100):
  Calls prog 196 #[av] w λe w'=>e=.returned (.int .i64 (yp al:Nat))/\Below w.heap.size w w':=by
 obtain⟨ao,cap,kt,oU,kH,ax⟩:=nT h;have HC:=ab ax;have HBD:=ab hb;have HLE:Hid (∀k,yp (al.take k)<=101):=ab (λk=>Pl _ (λa ha=>hb a (mem_of_mem_take ha)));rw[kt];clear h ax kt hb;go_enter func196,ntmps196;go_wp2_with fail
 go_loopg [3,10] al.length (λgn cv iv wx=>∃(k:Nat),k+gn=al.length/\iv=.int .i64 k/\cv=.int .i64 (yp (al.take k):Nat)/\Hid (Below w.heap.size w wx))
 case atStart=>exact⟨0,by omega,rfl,rfl,ab (Below.refl _ _)⟩
 case round =>
  obtain⟨k,gw,rfl,rfl,hI⟩:=hrel;obtain⟨G1,zi⟩:∃G1,G1=gk:=⟨_,rfl⟩;by_cases au:k<al.length
  .have hd:decide ((k:Int)<(al.length:Int))=true:=(by simp;omega);obtain⟨g,rfl,nZ,hc⟩:=uh HC (λe=>by rw[e]at au;simp at au);obtain⟨x0,x1,x2,x3,x4⟩:=hc k au;have x0:=((uh hI).cell nZ).trans x0;have x1:=((uh hI).cell nZ).trans x1;have x2:=((uh hI).cell nZ).trans x2;have x3:=((uh hI).cell nZ).trans x3;have x4:=((uh hI).cell nZ).trans x4;have aP:=Pm au;have hbd:=uh HBD _ (getElem_mem au);have hm1:=uh HLE k;obtain⟨a,ha⟩:∃a,a=al[k]:=⟨_,rfl⟩;rw[<-ha]at x0 x1 x2 x3 x4 aP hbd;obtain⟨m,hm⟩:∃m,m=yp (al.take k):=⟨_,rfl⟩;rw[<-hm]at aP hm1 ⊢;obtain⟨ak,alk,ali,ark,ari⟩:=a;simp only at x0 x1 x2 x3 x4 aP hbd;have di:=ab aP;have gb:Hid (Below w.heap.size w (wr.alloc (.cells #[Value.int .i64 ak,.int .i64 alk,.int .i64 ali,.int .i64 ark,.int .i64 ari] 239))):=ab ((uh hI).trans ((ah wr _).mono (uh hI).size));have i1:(0:Int)<=(k:Int):=(by omega);have i2:(k:Int)<(al.length:Int):=(by omega);have j0:=aaN (.int .i64 (alk:Int)) (.int .i64 (ali:Int)) (.int .i64 (ark:Int)) (.int .i64 (ari:Int));have j1:=aaO (.int .i64 (alk:Int)) (.int .i64 (ali:Int)) (.int .i64 (ark:Int)) (.int .i64 (ari:Int));clear hc aP ha hm hI;go_wp2_with fail
   go_loopg [3,19] 2 (λgn cv iv wx=>∃(j:Nat),j+gn=2/\iv=.int .i64 j/\cv=.int .i64 ((if j=0 then m else if j=1 then n7 m alk ali else n7 (n7 m alk ali) ark ari:Nat):Int)/\Hid (Below w.heap.size w wx))
   case atStart=>exact⟨0,by omega,rfl,rfl,gb⟩
   case round =>
    clear gb;obtain⟨j,Cs,rfl,rfl,hJ⟩:=hrel;obtain⟨G2,FD⟩:∃G2,G2=gk:=⟨_,rfl⟩;have hj3:j=0\/j=1\/j=2:=(by omega);rcases hj3 with rfl|rfl|rfl
    .rw[if_pos rfl];have HN:Hid (Below w.heap.size w (wr.alloc (.cells #[Value.int .i64 alk,.int .i64 ali] 184))):=ab ((uh hJ).trans ((ah wr _).mono (uh hJ).size));clear hJ;by_cases h2:alk=2
     .have d2:((alk:Int)==(2:Int))=true:=(by simp[h2]);by_cases cX:m<=ali
      .have d3:decide (m<=ali)=true:=(by simpa using cX);have HT:Hid (n7 m alk ali=ali+1):=ab (by unfold n7;rw[if_pos ⟨h2,cX⟩]);clear h2 cX;go_wp2_with fail
       go_roundg (G2-1)
       case rel=>exact⟨1,by omega,by go_num,by rw[if_neg (by decide),if_pos rfl,uh HT];go_num,HN⟩
       case measure=>omega
      .have d3:decide (m<=ali)=false:=(by simpa using cX);have HT:Hid (n7 m alk ali=m):=ab (by unfold n7;rw[if_neg (λh=>cX h.2)]);clear h2 cX;go_wp2_with fail
       go_roundg (G2-1)
       case rel=>exact⟨1,by omega,by go_num,by rw[if_neg (by decide),if_pos rfl,uh HT],HN⟩
       case measure=>omega
     .have d2:((alk:Int)==(2:Int))=false:=(by simp;omega);have HT:Hid (n7 m alk ali=m):=ab (by unfold n7;rw[if_neg (λh=>h2 h.1)]);clear h2;go_wp2_with fail
      go_roundg (G2-1)
      case rel=>exact⟨1,by omega,by go_num,by rw[if_neg (by decide),if_pos rfl,uh HT],HN⟩
      case measure=>omega
    .rw[if_neg (by decide),if_pos rfl];have HN:Hid (Below w.heap.size w (wr.alloc (.cells #[Value.int .i64 ark,.int .i64 ari] 184))):=ab ((uh hJ).trans ((ah wr _).mono (uh hJ).size));have th:=FP (k:=alk) hm1 hbd.1;obtain⟨m1,hm1e⟩:∃m1,m1=n7 m alk ali:=⟨_,rfl⟩;have HM1:=ab hm1e;rw[<-hm1e]at th ⊢;clear hJ hm1e;by_cases h2:ark=2
     .have d2:((ark:Int)==(2:Int))=true:=(by simp[h2]);by_cases cX:m1<=ari
      .have d3:decide (m1<=ari)=true:=(by simpa using cX);have HT:Hid (n7 m1 ark ari=ari+1):=ab (by unfold n7;rw[if_pos ⟨h2,cX⟩]);clear h2 cX;go_wp2_with fail
       go_roundg (G2-1)
       case rel=>exact⟨2,by omega,by go_num,by rw[if_neg (by decide),if_neg (by decide),<-uh HM1,uh HT];go_num,HN⟩
       case measure=>omega
      .have d3:decide (m1<=ari)=false:=(by simpa using cX);have HT:Hid (n7 m1 ark ari=m1):=ab (by unfold n7;rw[if_neg (λh=>cX h.2)]);clear h2 cX;go_wp2_with fail
       go_roundg (G2-1)
       case rel=>exact⟨2,by omega,by go_num,by rw[if_neg (by decide),if_neg (by decide),<-uh HM1,uh HT],HN⟩
       case measure=>omega
     .have d2:((ark:Int)==(2:Int))=false:=(by simp;omega);have HT:Hid (n7 m1 ark ari=m1):=ab (by unfold n7;rw[if_neg (λh=>h2 h.1)]);clear h2;go_wp2_with fail
      go_roundg (G2-1)
      case rel=>exact⟨2,by omega,by go_num,by rw[if_neg (by decide),if_neg (by decide),<-uh HM1,uh HT],HN⟩
      case measure=>omega
    .rw[if_neg (by decide),if_neg (by decide)];go_wp2_with fail
     go_roundg (G1-1)
     case rel=>exact⟨k+1,by omega,by go_num,by rw[uh di],hJ⟩
     case measure=>omega
  .have hd:decide ((k:Int)<(al.length:Int))=false:=(by simp;omega);have gK:al.take k=al:=take_of_length_le (by omega);rw[gK];clear gK;go_wp2_with fail
   go_ret;exact⟨rfl,uh hI⟩
end
structure HL where
 q:Nat
 f:Nat
 X:Nat
 o:Nat
 uv:Value
 hv:Value
 av:Value
 ov:Value
structure MD(al:List cj):Prop where
 tm:vq al
 le:al.length<=1000
 bd:∀a∈al,a.lk<=2/\a.rk<=2/\a.li<=100/\a.ri<=100
section
variable {w:World} {Q:Nat} {ws:List ByteArray} {s:PS} {al:List cj} {vv pv nv sv0 lv:Value} {st ls:List Int}
end
def Wl(n:Nd):Bool:=decide (n.op=7\/n.op=8\/n.op=9)
def Qv(n:Nd):Bool:=decide (n.op=4)
theorem sW{α:Type}{l:List α}{P:α->Bool}{i:Nat}(h:i<l.length):(l.take (i+1)).countP P=(l.take i).countP P+if P l[i]=true then 1 else 0:=by
 rw[take_succ_eq_append_getElem h,countP_append];congr 1;by_cases e:P l[i]=true <;> simp[e]
theorem VZ{nds:List Nd}{nv:Nat}{al:List cj}{i:Nat}(hi:i<nds.length)(h:jb nds i=true):MA nds nv al=false:=by
 unfold MA;have:(range nds.length).any (jb nds)=true:=by rw[any_eq_true];exact⟨i,mem_range.2 hi,h⟩
 rw[this];rfl
theorem V2{nds:List Nd}{nv:Nat}{al:List cj}{a:cj}(ha:a∈al)(h:a.k=4):MA nds nv al=false:=by
 unfold MA;have:al.any (λa=>decide (a.k=4))=true:=by rw[any_eq_true];exact⟨a,ha,by simpa using h⟩
 rw[this];simp
theorem abS{nds:List Nd}{nv:Nat}{al:List cj}(h1:∀i,i<nds.length->jb nds i=false)(h2:∀a∈al,a.k≠4):MA nds nv al=(decide (nds.countP Wl<=5)&&decide (nds.countP Qv<=4)&&decide (nv+yp al<=6)&&decide (nv+yp al+nds.countP Qv<=8)):=by
 unfold MA;have e1:(range nds.length).any (jb nds)=false:=by rw[any_eq_false];intro i hi;rw[h1 i (mem_range.1 hi)];decide
 have e2:al.any (λa=>decide (a.k=4))=false:=by rw[any_eq_false];intro a ha;simpa using h2 a ha
 rw[e1,e2];rfl
section
variable {w:World} {Q:Nat} {ws:List ByteArray} {ps:PS} {al:List cj} {vv pv nv:Value}
theorem Cp.nd(h:Cp w Q ws ps al vv pv nv){i:Nat}(hi:i<ps.nodes.length):∃g cap,nv=.slice (some ⟨g,0,none⟩) ps.nodes.length cap/\w.cell? ⟨g,i*6,none⟩=some (.int .i64 (ps.nodes[i].op:Int))/\w.cell? ⟨g,i*6+1,none⟩=some (.int .i64 (ps.nodes[i].v:Int))/\w.cell? ⟨g,i*6+2,none⟩=some (.int .i64 (ps.nodes[i].ak:Int))/\w.cell? ⟨g,i*6+3,none⟩=some (.int .i64 (ps.nodes[i].ai:Int))/\w.cell? ⟨g,i*6+4,none⟩=some (.int .i64 (ps.nodes[i].nx:Int))/\w.cell? ⟨g,i*6+5,none⟩=some (.int .i64 (ps.nodes[i].ot:Int)):=by
 obtain⟨g,cap,hv,-,-,-⟩:=b9 h.nr (by omega);subst hv;have key:∀j,j<6->w.cell? ⟨g,i*6+j,none⟩=ps.nodes[i].cells[j]?:=λj hj=>by rw[h.nr.cellAt _ (by omega),Qq hi j hj]
 exact⟨g,cap,rfl,key 0 (by omega),key 1 (by omega),key 2 (by omega),key 3 (by omega),key 4 (by omega),key 5 (by omega)⟩
theorem AX(h:Cp w Q ws ps al vv pv nv)(hA:MD al)(jQ:ps.nodes.length<=100000)(Gf:ps.vars.length<=1000):
  Calls prog 170 #[.pointer (some ⟨Q,0,none⟩)] w λe w'=>e=.returned (.bool (MA ps.nodes ps.vars.length al))/\Below w.heap.size w w':=by
 obtain⟨R,hR⟩:∃R,R=MA ps.nodes ps.vars.length al:=⟨_,rfl⟩;rw[<-hR];have EB:∀a∈al,a.li<=100/\a.ri<=100:=λa ha=>(hA.bd a ha).2.2;have ee:=hA.le;have HH:Hid (∀W,Below w.heap.size w W->Calls prog 196 #[pv] W λe w'=>e=.returned (.int .i64 (yp al:Nat))/\Below W.heap.size W w'):=ab (λW hW=>FQ (h.below hW).pr hA.le EB);have hhl:=Pl al EB;obtain⟨na,nc,K8,-,-⟩:=am h.nr;obtain⟨va,vc,AP,-,-⟩:=am h.vr;obtain⟨ao,cap,kt,oU,kH,ax⟩:=nT h.pr;subst K8;subst AP;subst kt;have c1:=h.bk.cell 1 rfl;have c2:=h.bk.cell 2 rfl;have c3:=h.bk.cell 3 rfl;have hQl:=h.bk.lt;have H:=ab h;have HR:=ab hR;have HC:=ab ax;obtain⟨nds,Dn⟩:∃nds,nds=ps.nodes:=⟨_,rfl⟩;have HN:Hid (∀i,(hi:i<nds.length)->∃g cap,Value.slice na ps.nodes.length nc=.slice (some ⟨g,0,none⟩) nds.length cap/\w.cell? ⟨g,i*6,none⟩=some (.int .i64 (nds[i].op:Int))/\w.cell? ⟨g,i*6+4,none⟩=some (.int .i64 (nds[i].nx:Int))):=ab (by
  subst Dn;intro i hi;obtain⟨g,cap,e,x0,-,-,-,x4,-⟩:=h.nd hi;exact⟨g,cap,e,x0,x4⟩)
 rw[<-Dn]at c3 jQ HN HR;clear h hA hR ax EB Dn;go_enter func170,ntmps170;go_wp2_with fail
 go_loopg [3,4,5] nds.length (λgn tv nwv iv wx=>∃(k:Nat),k+gn=nds.length/\iv=.int .i64 k/\tv=.int .i64 ((nds.take k).countP Wl:Nat)/\nwv=.int .i64 ((nds.take k).countP Qv:Nat)/\Hid (wx=w/\∀i,i<k->jb nds i=false))
 case atStart=>exact⟨0,by omega,rfl,rfl,rfl,ab ⟨rfl,λi hi=>by omega⟩⟩
 case round =>
  obtain⟨k,gw,rfl,rfl,rfl,hI⟩:=hrel;obtain⟨G1,zi⟩:∃G1,G1=gk:=⟨_,rfl⟩;obtain⟨hwr,hbj⟩:=uh hI;rw[hwr];clear hwr;have HBJ:=ab hbj;have yx:(nds.take k).countP Wl<=k:=zq3 countP_le_length (by rw[length_take];omega);have ku:(nds.take k).countP Qv<=k:=zq3 countP_le_length (by rw[length_take];omega);clear hI hbj;by_cases au:k<nds.length
  .have hd:decide ((k:Int)<(nds.length:Int))=true:=(by simp;omega);obtain⟨g,cap2,dF,x0,x4⟩:=uh HN k au;simp only[Value.slice.injEq]at dF;obtain⟨rfl,-,rfl⟩:=dF;have hts:=sW (P:=Wl) au;have hnw:=sW (P:=Qv) au;have iC:jb nds k=(decide (nds[k].op=10)&&decide (nds[k].nx<k)):=(by unfold jb;rw[bG au]);obtain⟨nd,dG⟩:∃nd,nd=nds[k]:=⟨_,rfl⟩;rw[<-dG]at x0 x4 hts hnw iC;obtain⟨T,hT⟩:∃T,T=(nds.take k).countP Wl:=⟨_,rfl⟩;obtain⟨N,hN⟩:∃N,N=(nds.take k).countP Qv:=⟨_,rfl⟩;rw[<-hT]at hts yx ⊢;rw[<-hN]at hnw ku ⊢;have qn:Hid (jb nds k=false->∀i,i<k+1->jb nds i=false):=ab (λe i hi=>by
    by_cases h1:i=k
    .rw[h1];exact e
    .exact uh HBJ i (by omega))
   have k1:(0:Int)<=(k:Int):=(by omega);have k2:(k:Int)<(nds.length:Int):=(by omega);have YC:=ab hts;have WF:=ab hnw;have G0:=ab iC;clear hts hnw iC dG hT hN;have htsB:Wl nd=decide (nd.op=7\/nd.op=8\/nd.op=9):=rfl;have hnwB:Qv nd=decide (nd.op=4):=rfl;by_cases ht:nd.op=7\/nd.op=8\/nd.op=9
   .have Hd:Hid ((nds.take (k+1)).countP Wl=T+1):=ab (by rw[uh YC,htsB,if_pos (by simpa using ht)]);have Ep:Hid ((nds.take (k+1)).countP Qv=N):=ab (by rw[uh WF,hnwB,if_neg (by simp;omega),Nat.add_zero]);have eP:Hid (∀i,i<k+1->jb nds i=false):=ab (uh qn (by rw[uh G0];simp;omega));clear htsB hnwB YC WF G0;rcases ht with ht|ht|ht
    .rw[ht]at x0;go_wp2_with fail
     go_roundg (G1-1)
     case rel=>exact⟨k+1,by omega,by go_num,by rw[uh Hd];go_num,by rw[uh Ep],ab ⟨rfl,uh eP⟩⟩
     case measure=>omega
    .rw[ht]at x0;go_wp2_with fail
     go_roundg (G1-1)
     case rel=>exact⟨k+1,by omega,by go_num,by rw[uh Hd];go_num,by rw[uh Ep],ab ⟨rfl,uh eP⟩⟩
     case measure=>omega
    .rw[ht]at x0;go_wp2_with fail
     go_roundg (G1-1)
     case rel=>exact⟨k+1,by omega,by go_num,by rw[uh Hd];go_num,by rw[uh Ep],ab ⟨rfl,uh eP⟩⟩
     case measure=>omega
   .have Hd:Hid ((nds.take (k+1)).countP Wl=T):=ab (by rw[uh YC,htsB,if_neg (by simpa using ht),Nat.add_zero]);have t7:((nd.op:Int)==(7:Int))=false:=(by simp;omega);have t8:((nd.op:Int)==(8:Int))=false:=(by simp;omega);have t9:((nd.op:Int)==(9:Int))=false:=(by simp;omega);by_cases h4:nd.op=4
    .have Ep:Hid ((nds.take (k+1)).countP Qv=N+1):=ab (by rw[uh WF,hnwB,if_pos (by simpa using h4)]);have eP:Hid (∀i,i<k+1->jb nds i=false):=ab (uh qn (by rw[uh G0];simp;omega));rw[h4]at x0;clear htsB hnwB YC WF G0 t7 t8 t9;go_wp2_with fail
     go_roundg (G1-1)
     case rel=>exact⟨k+1,by omega,by go_num,by rw[uh Hd],by rw[uh Ep];go_num,ab ⟨rfl,uh eP⟩⟩
     case measure=>omega
    .have Ep:Hid ((nds.take (k+1)).countP Qv=N):=ab (by rw[uh WF,hnwB,if_neg (by simpa using h4),Nat.add_zero]);have t4:((nd.op:Int)==(4:Int))=false:=(by simp;omega);by_cases Iw:nd.op=10
     .rw[Iw]at x0;by_cases hb:nd.nx<k
      .have d1:decide ((nd.nx:Int)<(k:Int))=true:=(by simp;omega);have HE:Hid (R=false):=ab (by rw[uh HR];exact VZ au (by rw[uh G0];simp[Iw,hb]));clear htsB hnwB YC WF G0 t7 t8 t9 t4;go_wp2_with fail
       go_ret;exact⟨aC (uh HE).symm,Below.refl _ _⟩
      .have d1:decide ((nd.nx:Int)<(k:Int))=false:=(by simp;omega);have eP:Hid (∀i,i<k+1->jb nds i=false):=ab (uh qn (by rw[uh G0];simp[hb]));clear htsB hnwB YC WF G0 t7 t8 t9 t4;go_wp2_with fail
       go_roundg (G1-1)
       case rel=>exact⟨k+1,by omega,by go_num,by rw[uh Hd],by rw[uh Ep],ab ⟨rfl,uh eP⟩⟩
       case measure=>omega
     .have t10:((nd.op:Int)==(10:Int))=false:=(by simp;omega);have eP:Hid (∀i,i<k+1->jb nds i=false):=ab (uh qn (by rw[uh G0];simp[Iw]));clear htsB hnwB YC WF G0;go_wp2_with fail
      go_roundg (G1-1)
      case rel=>exact⟨k+1,by omega,by go_num,by rw[uh Hd],by rw[uh Ep],ab ⟨rfl,uh eP⟩⟩
      case measure=>omega
  .have hd:decide ((k:Int)<(nds.length:Int))=false:=(by simp;omega);have gK:nds.take k=nds:=take_of_length_le (by omega);rw[gK]at yx ku ⊢;have eP:Hid (∀i,i<nds.length->jb nds i=false):=ab (λi hi=>uh HBJ i (by omega));obtain⟨T,hT⟩:∃T,T=nds.countP Wl:=⟨_,rfl⟩;obtain⟨N,hN⟩:∃N,N=nds.countP Qv:=⟨_,rfl⟩;rw[<-hT]at yx ⊢;rw[<-hN]at ku ⊢;have HTN:=ab (zq2 hT hN);clear gK hT hN HBJ HN;go_wp2_with fail
   go_loopg [58] al.length (λgn iv wx=>∃(j:Nat),j+gn=al.length/\iv=.int .i64 j/\Hid (Below w.heap.size w wx/\∀i,i<j->∀a,al[i]?=some a->a.k≠4))
   case atStart=>exact⟨0,by omega,rfl,ab ⟨Below.refl _ _,λi hi=>by omega⟩⟩
   case round =>
    obtain⟨j,Cs,rfl,hJ⟩:=hrel;obtain⟨G2,FD⟩:∃G2,G2=gk:=⟨_,rfl⟩;by_cases b8:j<al.length
    .have k6:decide ((j:Int)<(al.length:Int))=true:=(by simp;omega);obtain⟨g,rfl,nZ,hc⟩:=uh HC (λe=>by rw[e]at b8;simp at b8);obtain⟨x0,x1,x2,x3,x4⟩:=hc j b8;have x0:=((uh hJ).1.cell nZ).trans x0;have x1:=((uh hJ).1.cell nZ).trans x1;have x2:=((uh hJ).1.cell nZ).trans x2;have x3:=((uh hJ).1.cell nZ).trans x3;have x4:=((uh hJ).1.cell nZ).trans x4;have cX:al[j]?=some al[j]:=getElem?_eq_getElem b8;obtain⟨a,ha⟩:∃a,a=al[j]:=⟨_,rfl⟩;rw[<-ha]at x0 x1 x2 x3 x4 cX;obtain⟨ak,alk,ali,ark,ari⟩:=a;simp only at x0 x1 x2 x3 x4;have Eo:=ab cX;have gb:Hid (Below w.heap.size w (wr.alloc (.cells #[Value.int .i64 ak,.int .i64 alk,.int .i64 ali,.int .i64 ark,.int .i64 ari] 239))):=ab ((uh hJ).1.trans ((ah wr _).mono (uh hJ).1.size));have k1:(0:Int)<=(j:Int):=(by omega);have k2:(j:Int)<(al.length:Int):=(by omega);clear hc ha cX;by_cases h4:ak=4
     .have d4:((ak:Int)==(4:Int))=true:=(by simp[h4]);have HE:Hid (R=false):=ab (by rw[uh HR];exact V2 (mem_of_getElem? (uh Eo)) h4);clear h4;go_wp2_with fail
      go_ret;exact⟨aC (uh HE).symm,uh gb⟩
     .have d4:((ak:Int)==(4:Int))=false:=(by simp;omega);have x8:=ab h4;clear h4;go_wp2_with fail
      go_roundg (G2-1)
      case rel=>exact⟨j+1,by omega,by go_num,ab ⟨uh gb,λi hi y hy=>by
       by_cases e':i=j
       .rw[e',uh Eo]at hy;injection hy with hy;rw[<-hy];exact uh x8
       .exact(uh hJ).2 i (by omega) y hy⟩⟩
      case measure=>omega
    .have k6:decide ((j:Int)<(al.length:Int))=false:=(by simp;omega);obtain⟨hb,Dp⟩:=uh hJ;have d2:=(hb.cell hQl).trans c2;have HH2:=ab (uh HH wr hb);obtain⟨V,hV⟩:∃V,V=ps.vars.length:=⟨_,rfl⟩;have asp:V<=1000:=(by rw[hV];exact Gf);rw[<-hV]at HR ⊢;obtain⟨Hn,hHn⟩:∃Hn,Hn=yp al:=⟨_,rfl⟩;rw[<-hHn]at HH2 hhl;have hRe:R=(decide (T<=5)&&decide (N<=4)&&decide (V+Hn<=6)&&decide (V+Hn+N<=8)):=by
      rw[uh HR,abS (uh eP) (λa ha=>?_),<-(uh HTN).1,<-(uh HTN).2,<-hHn];obtain⟨i,hi⟩:=mem_iff_getElem?.1 ha;exact Dp i (by have:=(List.getElem?_eq_some_iff.1 hi).1;omega) a hi
     obtain⟨M,hM⟩:∃M,M=V+Hn:=⟨_,rfl⟩;rw[<-hM]at hRe;have hq1:IntKind.i64.wrap ((V:Int)+(Hn:Int))=(M:Int):=(by rw[IntKind.wrap_i64];omega);have Er:=ab hRe;have HB:=ab hb;have hM2:M<=2000:=(by omega);obtain⟨P,hP⟩:∃P,P=M+N:=⟨_,rfl⟩;have hq2:IntKind.i64.wrap ((M:Int)+(N:Int))=(P:Int):=(by rw[IntKind.wrap_i64];omega);rw[<-hP]at Er;clear hb Dp hV hHn hRe hM hP hJ HR eP HTN HH HC;go_wp2_with fail
     refine(uh HH2).mono ?_;rintro e w5 ⟨rfl,eu⟩;have lO:=ab ((uh HB).trans (eu.mono (uh HB).size));clear eu HB HH2;by_cases p1:T<=5
     .have e1:decide (T<=5)=true:=(by simpa using p1);have e1':decide ((T:Int)<=(5:Int))=true:=(by simp;omega);by_cases p2:N<=4
      .have e2:decide (N<=4)=true:=(by simpa using p2);have e2':decide ((N:Int)<=(4:Int))=true:=(by simp;omega);by_cases p3:M<=6
       .have e3:decide (M<=6)=true:=(by simpa using p3);have e3':decide ((M:Int)<=(6:Int))=true:=(by simp;omega);by_cases p4:P<=8
        .have e4:decide (P<=8)=true:=(by simpa using p4);have e4':decide ((P:Int)<=(8:Int))=true:=(by simp;omega);have HE:Hid (R=true):=ab (by rw[uh Er,e1,e2,e3,e4];rfl);clear p1 p2 p3 p4 e1 e2 e3 e4;go_wp2_with fail
         go_ret;exact⟨aC (uh HE).symm,uh lO⟩
        .have e4:decide (P<=8)=false:=(by simpa using p4);have e4':decide ((P:Int)<=(8:Int))=false:=(by simp;omega);have HE:Hid (R=false):=ab (by rw[uh Er,e1,e2,e3,e4];rfl);clear p1 p2 p3 p4 e1 e2 e3 e4;go_wp2_with fail
         go_ret;exact⟨aC (uh HE).symm,uh lO⟩
       .have e3:decide (M<=6)=false:=(by simpa using p3);have e3':decide ((M:Int)<=(6:Int))=false:=(by simp;omega);have HE:Hid (R=false):=ab (by rw[uh Er,e1,e2,e3];rfl);clear p1 p2 p3 e1 e2 e3;go_wp2_with fail
        go_ret;exact⟨aC (uh HE).symm,uh lO⟩
      .have e2:decide (N<=4)=false:=(by simpa using p2);have e2':decide ((N:Int)<=(4:Int))=false:=(by simp;omega);have HE:Hid (R=false):=ab (by rw[uh Er,e1,e2];rfl);clear p1 p2 e1 e2;go_wp2_with fail
       go_ret;exact⟨aC (uh HE).symm,uh lO⟩
     .have e1:decide (T<=5)=false:=(by simpa using p1);have e1':decide ((T:Int)<=(5:Int))=false:=(by simp;omega);have HE:Hid (R=false):=ab (by rw[uh Er,e1];rfl);clear p1 e1;go_wp2_with fail
      go_ret;exact⟨aC (uh HE).symm,uh lO⟩
end
theorem infoBl:(prog.info? 4).map (λi=>(i.zero,i.size,i.bytes))=some (some (.bool false),1,1):=by kernel_rfl
theorem infoEs:(prog.info? 255).map (λi=>(i.zero,i.size,i.bytes))=some (some (.slice none 0 0),1,24):=by kernel_rfl
theorem infoBs:(prog.info? 200).map (λi=>(i.zero,i.size,i.bytes))=some (some (.slice none 0 0),1,24):=by kernel_rfl
theorem Jl{S:Nat}{hv kv wv:Value}{KV WV:List Value}{n:Nat}(v:Value):pB S hv kv wv KV (WV.set n v)=(pB S hv kv wv KV WV).set (4+(KV.length+n)) v.ownBlock:=by
 unfold pB;rw[show 4+(KV.length+n)=(KV.length+n)+1+1+1+1 by omega];simp only[set_cons_succ];rw[set_append_right _ _ (by simp),map_set];simp
structure rD(w W:World)(S:Nat)(c0 hv kv wv:Value)(WV:List Value)(lp:Bool)(hd:List Bool)(bd:Bool)(m i:Nat):Prop where
 bs:Bk W S 229 (qt c0 hv lp kv wv bd 3000 2097152 false)
 hl:hd.length=m
 hr:W.ownsRow 0 4 1 hv m (dp hd)
 kr:W.ownsRow 0 255 1 kv m (replicate m aJ)
 wr:W.ownsRow 0 200 1 wv m WV
 we:∀j,j<i->W.ownsRow 0 4 1 (WV.getD j aJ) 5 (dp (replicate 5 false))
 ap:Apt (pB S hv kv wv (replicate m aJ) WV)
 bl:Below w.heap.size w W
 ge:∀k∈cZ S hv kv wv (replicate m aJ) WV,w.heap.size<=k
section
variable {w W W':World} {S:Nat} {c0 hv kv wv:Value} {WV:List Value} {lp bd:Bool} {hd:List Bool} {m i:Nat}
theorem rD.wl(h:rD w W S c0 hv kv wv WV lp hd bd m i):WV.length=m:=by have:=h.wr.1;omega
theorem rD.of_eq(h:rD w W S c0 hv kv wv WV lp hd bd m i)(him:i<=m)(he:∀k∈cZ S hv kv wv (replicate m aJ) WV,W'.heap[k]?=W.heap[k]?)(hb:Below w.heap.size w W'):rD w W' S c0 hv kv wv WV lp hd bd m i:=by
 have hw:=h.wl;exact⟨h.bs.of_eq (he S gO),h.hl,ae h.hr (λk hk=>he k (bQ (i:=1) (congrArg some hk))),ae h.kr (λk hk=>he k (bQ (i:=2) (congrArg some hk))),ae h.wr (λk hk=>he k (bQ (i:=3) (congrArg some hk))),λj hj=>ae (h.we j hj) (λk hk=>he k (bQ ((Bz (by omega)).trans (congrArg some hk)))),h.ap,hb,h.ge⟩
theorem rD.lt(h:rD w W S c0 hv kv wv WV lp hd bd m i)(hn:∀j,i<=j->WV.getD j aJ=aJ):∀k∈cZ S hv kv wv (replicate m aJ) WV,k<W.heap.size:=by
 intro k hk;obtain⟨p,hp⟩:=aU.1 hk;rcases Qx hp with⟨-,rfl⟩|⟨-,e⟩|⟨-,e⟩|⟨-,e⟩|⟨j,hj,-,e⟩|⟨j,hj,-,e⟩
 .exact h.bs.lt
 .exact(h.hr.lt k e).2
 .exact(h.kr.lt k e).2
 .exact(h.wr.lt k e).2
 .have:(replicate m aJ).getD j aJ=aJ:=by rw[length_replicate]at hj;simp[hj]
  rw[this]at e;cases e
 .by_cases hji:j<i
  .exact((h.we j hji).lt k e).2
  .rw[hn j (by omega)]at e;cases e
theorem rD.below(h:rD w W S c0 hv kv wv WV lp hd bd m i)(him:i<=m)(hn:∀j,i<=j->WV.getD j aJ=aJ)(hb:Below W.heap.size W W'):rD w W' S c0 hv kv wv WV lp hd bd m i:=h.of_eq him (λk hk=>hb.block k (h.lt hn k hk)) (h.bl.trans (hb.mono h.bl.size))
theorem rD.row(h:rD w W S c0 hv kv wv WV lp hd bd m i)(him:i<m)(hn:∀j,i<=j->WV.getD j aJ=aJ){o:Obj}(ho:o=.cells (madeCells #[Value.bool false] 5) 4){wB wC:Nat}(SM:wv=.slice (some ⟨wB,0,none⟩) m wC):
  rD w ((W.alloc o).setCell ⟨wB,i,none⟩ (.slice (some ⟨W.heap.size,0,none⟩) 5 5)) S c0 hv kv wv (WV.set i (.slice (some ⟨W.heap.size,0,none⟩) 5 5)) lp hd bd m (i+1)/\∀j,i+1<=j->(WV.set i (.slice (some ⟨W.heap.size,0,none⟩) 5 5)).getD j aJ=aJ:=by
 have hw:=h.wl;have bB:=ah W o;have h1:=h.below (Nat.le_of_lt him) hn bB;have au:=h.lt hn;have mP:W.heap.size<(W.alloc o).heap.size:=by simp
 have hwB:(pB S hv kv wv (replicate m aJ) WV)[3]?=some (some wB):=by rw[SM];rfl
 have hwBl:=au wB (bQ hwB);have hwBg:=h.ge wB (bQ hwB);obtain⟨v,hv0⟩:∃v,v=Value.slice (some ⟨W.heap.size,0,none⟩) 5 5:=⟨_,rfl⟩;have UR:v.ownBlock=some W.heap.size:=by rw[hv0];rfl
 rw[<-hv0];have aH:∀p k,p≠3->(pB S hv kv wv (replicate m aJ) WV)[p]?=some (some k)->((W.alloc o).setCell ⟨wB,i,none⟩ v).heap[k]?=(W.alloc o).heap[k]?:=λp k hp hk=>heap_setCell _ _ _ _ (λe=>hp (h.ap p 3 k hk (by rw[hwB,show k=wB from e])));have cU:∀j,j≠i->(WV.set i v).getD j aJ=WV.getD j aJ:=λj hj=>by rw[getD_eq_getElem?_getD,getElem?_set_ne (λe=>hj e.symm),<-getD_eq_getElem?_getD]
 have tN:∀k,W.heap.size=k->∀p,(pB S hv kv wv (replicate m aJ) WV)[p]?≠some (some k):=λk hk p hp=>by have:=au k (bQ hp);omega
 refine⟨⟨h1.bs.of_eq (aH 0 S (by omega) rfl),h.hl,ae h1.hr (λk hk=>aH 1 k (by omega) (congrArg some hk)),ae h1.kr (λk hk=>aH 2 k (by omega) (congrArg some hk)),?_,λj hj=>?_,?_,h1.bl.setCell (p:=⟨wB,i,none⟩) hwBg _,λk hk=>?_⟩,λj hj=>by rw[cU j (by omega)];exact hn j (by omega)⟩
 .have:=h1.wr;rw[SM]at this ⊢;exact(this.stored i v).1
 .by_cases hji:j=i
  .subst hji;have e1:(WV.set j v).getD j aJ=v:=(by rw[getD_eq_getElem?_getD,getElem?_set_self (by omega)];rfl);rw[e1,hv0];have h2:=ownsRow_lit (base:=0) (e:=4) (size:=1) W (madeCells #[Value.bool false] 5) 5 (zq5 _) (by simp[maxLen]) (by simp[madeCells]);rw[toList_madeCells_one,<-ho]at h2;exact cF h2 (p:=⟨wB,j,none⟩) (by show some W.heap.size≠some wB;intro e;injection e with e;omega) _
  .rw[cU j hji];refine ae (h1.we j (by omega)) (λk hk=>aH (4+((replicate m aJ).length+j)) k (by omega) ((Bz (by omega)).trans (congrArg some hk)))
 .rw[Jl];refine h.ap.set _ (λk hk=>zq1 (tN k ?_));rw[UR]at hk;injection hk
 .obtain⟨p,hp⟩:=aU.1 hk;rw[Jl,getElem?_set]at hp;split at hp
  .split at hp
   .simp only[Option.some.injEq]at hp;rw[UR]at hp;injection hp with hp;rw[<-hp];exact h.bl.size
   .simp at hp
  .exact h.ge k (bQ hp)
theorem rD.head(h:rD w W S c0 hv kv wv WV lp hd bd m i)(him:i<=m){n hB hC:Nat}(hhv:hv=.slice (some ⟨hB,0,none⟩) m hC):rD w (W.setCell ⟨hB,n,none⟩ (.bool true)) S c0 hv kv wv WV lp (hd.set n true) bd m i:=by
 have hw:=h.wl;have hhB:(pB S hv kv wv (replicate m aJ) WV)[1]?=some (some hB):=by rw[hhv];rfl
 have aH:∀p k,p≠1->(pB S hv kv wv (replicate m aJ) WV)[p]?=some (some k)->(W.setCell ⟨hB,n,none⟩ (.bool true)).heap[k]?=W.heap[k]?:=λp k hp hk=>heap_setCell _ _ _ _ (λe=>hp (h.ap p 1 k hk (by rw[hhB,show k=hB from e])));refine⟨h.bs.of_eq (aH 0 S (by omega) rfl),by rw[length_set];exact h.hl,?_,ae h.kr (λk hk=>aH 2 k (by omega) (congrArg some hk)),ae h.wr (λk hk=>aH 3 k (by omega) (congrArg some hk)),λj hj=>ae (h.we j hj) (λk hk=>aH _ k (by omega) ((Bz (by omega)).trans (congrArg some hk))),h.ap,h.bl.setCell (p:=⟨hB,n,none⟩) (h.ge hB (bQ hhB)) _,h.ge⟩;have:=h.hr;rw[hhv]at this ⊢;have h2:=(this.stored n (.bool true)).1;have e:(dp hd).set n (.bool true)=dp (hd.set n true):=by unfold dp;rw[map_set]
 rw[e]at h2;exact h2
theorem rD.loop(h:rD w W S c0 hv kv wv WV lp hd bd m i)(him:i<=m):rD w (W.setCell ⟨S,2,none⟩ (.bool true)) S c0 hv kv wv WV true hd bd m i:=by
 have hw:=h.wl;have aH:∀p k,p≠0->(pB S hv kv wv (replicate m aJ) WV)[p]?=some (some k)->(W.setCell ⟨S,2,none⟩ (.bool true)).heap[k]?=W.heap[k]?:=λp k hp hk=>heap_setCell _ _ _ _ (λe=>hp (h.ap p 0 k hk (by rw[show k=S from e];rfl)));exact⟨h.bs.set 2 (.bool true),h.hl,ae h.hr (λk hk=>aH 1 k (by omega) (congrArg some hk)),ae h.kr (λk hk=>aH 2 k (by omega) (congrArg some hk)),ae h.wr (λk hk=>aH 3 k (by omega) (congrArg some hk)),λj hj=>ae (h.we j hj) (λk hk=>aH _ k (by omega) ((Bz (by omega)).trans (congrArg some hk))),h.ap,h.bl.setCell (p:=⟨S,2,none⟩) (h.ge S gO) _,h.ge⟩
end
