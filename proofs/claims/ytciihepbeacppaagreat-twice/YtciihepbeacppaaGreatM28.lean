import Derived.Test.YtciihepbeacppaaGreatM27
import Derived.Deep.RegionWith
set_option maxRecDepth 100000
set_option maxHeartbeats 0
namespace Go.Proofs.YtciihepbeacppaaGreat
open Tryz Go.RowKit List World Below
set_option linter.unusedVariables false
section
variable {w W:World} {S:Nat} {c:Cd} {c0 hv kv wv:Value} {KV WV:List Value} {K:List (List En)} {s:Sr} {n:Nat} {l:List En}
def iK(l:List En)(k:Nat):List En:=(l.take k).filter (λe=>!e.d)
theorem Hd{l:List En}{k:Nat}(h:k<l.length):iK l (k+1)=iK l k++if l[k].d=true then [] else [l[k]]:=by
 unfold iK;rw[EL h];congr 1;cases l[k].d <;> rfl
theorem Qi(l:List En)(k:Nat):(iK l k).length<=l.length:=zq3 (length_filter_le _ _) (by rw[length_take];omega)
theorem Sh.lE(h:Sh w S c c0 hv kv wv KV WV K s){k g cap n:Nat}{l:List En}(hn:n<K.length)(hl:l=K.getD n [])(hg:KV.getD n aH=.slice (some ⟨g,0,none⟩) l.length cap)(hk:k<l.length):w.cell? ⟨g,k*2,none⟩=some (.pointer (some ⟨l[k].D,0,none⟩))/\w.cell? ⟨g,k*2+1,none⟩=some (.bool l[k].d)/\w.frozen? ⟨g,k*2+1,none⟩=false:=by
 have h1:=h.ke n hn;rw[hg,<-hl]at h1;obtain⟨h2,h3⟩:=lC h1 rfl hk;exact⟨h2,h3,h1.frozenAt _⟩
theorem On{Q:Nat}{ws:List ByteArray}{ps:PS}{al:List cf}{vv pv nvv:Value}(h:Sh w S c (.pointer (some ⟨Q,0,none⟩)) hv kv wv KV WV K s)(hC:Cp w Q ws ps al vv pv nvv)(hCd:∀k∈zy Q vv pv nvv,k ∉ cL S hv kv wv KV WV)(je:c.nds=ps.nodes)(hN:sE c.nds)(hn:n<K.length)(vj:K.length<=100000){fuel:Nat}(bE:(mZ c fuel n s).ok=true)(pQ:(bf s n).length<=q8+1):
  Calls prog 142 #[.pointer (some ⟨S,0,none⟩),.int .i64 n] w λe w'=>e=.returned (.tuple #[])/\gf w S c (.pointer (some ⟨Q,0,none⟩)) hv kv wv KV WV K [] (mZ c fuel n s) w':=by
 obtain⟨i0,jN,fW,fy,fJ⟩:=info_parts infoPF;obtain⟨kB,kC,O2,-⟩:=h.kc hn;subst O2;obtain⟨l,hl⟩:∃l,l=K.getD n []:=⟨_,rfl⟩;have f7:=h.knE n;rw[<-hl]at f7;rw[f7,length_map]at pQ;have Jh:l.length<=1000000000001:=by unfold q8 at pQ;omega
 obtain⟨va,vc,ym,Mv,QX⟩:=aj (h.ke n hn);rw[<-hl]at ym Mv;have hlK:l∈K:=by rw[hl,bC hn];exact getElem_mem hn
 obtain⟨s1,dc⟩:∃s1:Sr,s1={ s with kn:=s.kn.set n ((eO l l.length).map En.m) }:=⟨_,rfl⟩;have hvi:mZ c fuel n s=mg c fuel n ((l.filter (λe=>!e.d)).map (λe=>e.x.f)) s1:=by
  unfold mZ;rw[f7,dc,PZ (zq4 _)];have e1:lH (l.map En.m)=(l.filter (λe=>!e.d)).map (λe=>e.x.f):=by
   unfold lH;rw[filter_map,map_map];rfl
  have e2:(l.map En.m).map (λe=>(⟨e.f,true⟩:fS))=(l.map En.dn).map En.m:=by
   rw[map_map,map_map];rfl
  rw[e1,e2]
 rw[hvi]at bE ⊢;obtain⟨R,hR⟩:∃R,R=mg c fuel n ((l.filter (λe=>!e.d)).map (λe=>e.x.f)) s1:=⟨_,rfl⟩;rw[<-hR]at bE ⊢;have H0:Hid (Sh w S c (.pointer (some ⟨Q,0,none⟩)) hv (.slice (some ⟨kB,0,none⟩) K.length kC) wv KV WV (K.set n (eO l 0)) { s with kn:=s.kn.set n ((eO l 0).map En.m) }):=ab (by
  rw[Kv];have e1:K.set n l=K:=by rw[hl,mb hn]
  have e2:s.kn.set n (l.map En.m)=s.kn:=by
   rw[<-f7];exact mb (by rw[h.km,length_map];exact hn)
  rw[e1,e2];exact h)
 have I8:=hC.lt;have HA:=ab (zq2 h (zq2 hC (zq2 hCd (zq2 je hN))));have HL:=ab (zq2 hl hlK);have UR:=ab ym;have HR:=ab hR;have cg:=ab dc;have kQ:=ab bE;obtain⟨dP,df⟩:∃dP:World->Prop,dP=λw'=>gf w S c (.pointer (some ⟨Q,0,none⟩)) hv (.slice (some ⟨kB,0,none⟩) K.length kC) wv KV WV K [] R w':=⟨_,rfl⟩;have fD:=ab df;rw[show(fun(e:Ending) (w':World)=>e=.returned (.tuple #[])/\gf w S c (.pointer (some ⟨Q,0,none⟩)) hv (.slice (some ⟨kB,0,none⟩) K.length kC) wv KV WV K [] R w')=(λe w'=>e=.returned (.tuple #[])/\dP w') by rw[df]];have i1:(0:Int)<=(n:Int):=by omega
 have i2:(n:Int)<(K.length:Int):=by omega
 have cd:Hid ((w.alloc (.cells #[] 126)).ownsRow w.heap.size 126 1 (.slice (some ⟨w.heap.size,0,none⟩) 0 0) (iK l 0).length ((iK l 0).map (λe=>e.x.p))/\gb w (w.alloc (.cells #[] 126)) (cL S hv (.slice (some ⟨kB,0,none⟩) K.length kC) wv KV WV) (cL S hv (.slice (some ⟨kB,0,none⟩) K.length kC) wv KV WV) (dK K) (dK K) []/\Sh (w.alloc (.cells #[] 126)) S c (.pointer (some ⟨Q,0,none⟩)) hv (.slice (some ⟨kB,0,none⟩) K.length kC) wv KV WV (K.set n (eO l 0)) { s with kn:=s.kn.set n ((eO l 0).map En.m) }):=ab ⟨ownsRow_lit (base:=w.heap.size) (e:=126) (size:=1) w #[] 0 (zq4 _) (by simp[maxLen]) rfl,gb.below (ah w _),(uh H0).below (ah w _)⟩;clear h hC hCd je hN hl hlK ym hvi bE hR dc f7 pQ df H0 I8;go_enter func142,ntmps142;go_wp2_with fail
 go_loopg [4,5] l.length (λgn fv iv wx=>∃(k:Nat),k+gn=l.length/\iv=.int .i64 k/\Hid (wx.ownsRow w.heap.size 126 1 fv (iK l k).length ((iK l k).map (λe=>e.x.p))/\gb w wx (cL S hv (.slice (some ⟨kB,0,none⟩) K.length kC) wv KV WV) (cL S hv (.slice (some ⟨kB,0,none⟩) K.length kC) wv KV WV) (dK K) (dK K) []/\Sh wx S c (.pointer (some ⟨Q,0,none⟩)) hv (.slice (some ⟨kB,0,none⟩) K.length kC) wv KV WV (K.set n (eO l k)) { s with kn:=s.kn.set n ((eO l k).map En.m) }))
 case atStart=>exact⟨0,by omega,rfl,cd⟩
 case round =>
  clear cd;obtain⟨k,f7,rfl,hI⟩:=hrel;obtain⟨G1,uF⟩:∃G1,G1=gk:=⟨_,rfl⟩;obtain⟨h1,h2,h3⟩:=uh hI;obtain⟨fa,fc,TK,-,-⟩:=aj h1;subst TK;have wt:(K.set n (eO l k)).length=K.length:=length_set;have c3:=h3.bs.cell 3 rfl;obtain⟨kB',kC',oL,ckc⟩:=h3.kc (n:=n) (by rw[wt];exact hn);simp only[Value.slice.injEq,Option.some.injEq,Addr.mk.injEq,and_true]at oL;obtain⟨rfl,-,rfl⟩:=oL;rw[uh UR]at ckc;by_cases ar:k<l.length
  .have hd:decide ((k:Int)<(l.length:Int))=true:=(by simp;omega);obtain⟨g,cap,c9⟩:∃g cap,KV.getD n aH=.slice (some ⟨g,0,none⟩) l.length cap:=by
    have h4:=h3.ke n (by rw[wt];exact hn);have e2:(K.set n (eO l k)).getD n []=eO l k:=(by simp[hn]);rw[e2,cJ]at h4;obtain⟨g,cap,h5,-,-,-⟩:=bT h4 (by omega);exact⟨g,cap,h5⟩
   have cO:=c9;rw[uh UR]at cO;simp only[Value.slice.injEq,true_and]at cO;obtain⟨rfl,rfl⟩:=cO;have e2:(K.set n (eO l k)).getD n []=eO l k:=(by simp[hn]);obtain⟨x0,x1,xz⟩:=h3.lE (k:=k) (l:=eO l k) (by rw[wt];exact hn) e2.symm (by rw[cJ];exact c9) (by rw[cJ];exact ar);have hek:(eO l k)[k]'(by rw[cJ];exact ar)=l[k]:=by
    have h6:=xP ar;rw[getElem?_eq_getElem (by rw[cJ];exact ar)]at h6;injection h6
   rw[hek]at x0 x1;have aS:=Hd ar;have k1:(0:Int)<=(k:Int):=(by omega);have k2:(k:Int)<(l.length:Int):=(by omega);cases Ia:l[k].d
   .rw[Ia]at x1 aS;rw[if_neg (by decide)]at aS;obtain⟨h4,uM⟩:=h3.done hn ar c9;obtain⟨W4,vm⟩:∃W4,W4=wr.setCell ⟨g,k*2+1,none⟩ (.bool true):=⟨_,rfl⟩;rw[<-vm]at h4;have hsW:aq [g] wr [g] W4:=(by rw[vm];exact(aq.refl [g] wr).setCell (p:=⟨g,k*2+1,none⟩) (zq0 (by simp)) (.bool true));have VT:(K.set n (eO l (k+1))).length=K.length:=length_set;have d3:=h4.bs.cell 3 rfl;obtain⟨kB',kC',oL,dkc⟩:=h4.kc (n:=n) (by rw[VT];exact hn);simp only[Value.slice.injEq,Option.some.injEq,Addr.mk.injEq,and_true]at oL;obtain⟨rfl,-,rfl⟩:=oL;rw[c9]at dkc;have e3:(K.set n (eO l (k+1))).getD n []=eO l (k+1):=(by simp[hn]);obtain⟨z0,z1,-⟩:=h4.lE (k:=k) (l:=eO l (k+1)) (by rw[VT];exact hn) e3.symm (by rw[cJ];exact c9) (by rw[cJ];exact ar);have hdD:((eO l (k+1))[k]'(by rw[cJ];exact ar)).D=l[k].D:=by
     have h6:(eO l (k+1))[k]?=some l[k].dn:=(by rw[oE ar,getElem?_set_self (by rw[cJ];exact ar)]);rw[getElem?_eq_getElem (by rw[cJ];exact ar)]at h6;injection h6 with h6;rw[h6];rfl
    rw[hdD]at z0;have Zz:eO l (k+1)∈K.set n (eO l (k+1)):=mem_iff_getElem?.2 ⟨n,by rw[getElem?_set_self hn]⟩;have hem:l[k].dn∈eO l (k+1):=mem_iff_getElem?.2 ⟨k,by rw[oE ar,getElem?_set_self (by rw[cJ];exact ar)]⟩;have ic:=(h4.dr _ Zz _ hem).1.fo;have ab9:W4.cell? ⟨l[k].D,0,none⟩=some (.pointer (some ⟨l[k].x.A,0,none⟩)):=ic;have ni:=h1.lt;have mq:=h3.lt g uM;have hgw:=(uh HA).1.lt g uM;have SY:Hid (W4.ownsRow w.heap.size 126 1 (.slice fa (iK l k).length fc) (iK l k).length ((iK l k).map (λe=>e.x.p))):=ab (ae h1 (λq hq=>hsW.block q (ni q hq).2 (λe=>by
     rw[mem_singleton]at e;have:=(ni q hq).1;omega)))
    have Jg:=h2.trans (gb.stp (X:=[]) hsW (λq hq=>zq0 (by rw[mem_singleton]at hq;rw[hq];exact uM))) (λq hq=>by simp at hq);have kh:=Qi l k;have an9:=Jg.st.size;obtain⟨Dk,hDk⟩:∃Dk,Dk=l[k].D:=⟨_,rfl⟩;obtain⟨Ak,Zc⟩:∃Ak,Ak=l[k].x.A:=⟨_,rfl⟩;rw[<-hDk]at x0 z0 ab9;rw[<-Zc]at ab9;have H4:=ab (zq2 h4 (zq2 Jg (zq2 aS Zc)));clear h1 h2 h3 uM hsW hek e2 e3 VT hdD Zz hem ic ni mq hgw h4 Jg Ia hDk Zc aS hI wt c9;go_upto_region 6 with fail;rw[<-vm];clear vm c3 ckc x0 x1 xz z1;go_wp2_with (at_builtin;refine qX _ rfl (.tmp 42) (.tmp 57) 125 rfl w.heap.size 126 i0 _ 1 8 underlying125 jN fW fy fJ rfl (by decide) _ (iK l k).length ((iK l k).map (λe=>e.x.p)) rfl ((uh SY).alloc _) ⟨_,0,none⟩ 1 [.pointer (some ⟨Ak,0,none⟩)] rfl rfl (aM _ _ (by simp) [.pointer (some ⟨Ak,0,none⟩)] _) (by intro u hu;simp only[mem_singleton]at hu;subst hu;rfl) (by omega) (by omega) (by simp;omega) ?_)
    intro g7 cap7 w7 gJ dh eZ;have wD:=j5 dh (by simpa using eZ);have zG:=(uh SY).lt;have Ie:∀q,q<w.heap.size->q ∉ (Value.slice fa (iK l k).length fc).ownBlock.toList:=λq hq e=>by
     have:=(zG q (by simpa using e)).1;omega
    obtain⟨h4,Jg,aS,Zc⟩:=uh H4;have hKV:∀q∈cL S hv (.slice (some ⟨kB,0,none⟩) K.length kC) wv KV WV,q<w.heap.size:=(uh HA).1.lt;have hKD:∀q∈dK (K.set n (eO l (k+1))),q<w.heap.size:=λq hq=>(uh HA).1.drlt q ((Ae (uh HL).1 hn (k+1) q).1 hq);have h7:=h4.stp wD (λq hq=>Ie q (hKV q hq)) (λq hq=>Ie q (hKD q hq));have hg7:gb w w7 (cL S hv (.slice (some ⟨kB,0,none⟩) K.length kC) wv KV WV) (cL S hv (.slice (some ⟨kB,0,none⟩) K.length kC) wv KV WV) (dK K) (dK K) []:=Jg.trans (gb.stp (X:=(Value.slice fa (iK l k).length fc).ownBlock.toList) wD (λq hq=>zq1 hq)) (λq hq=>zq1 (zG q (by simpa using hq)).1);have TV:w7.ownsRow w.heap.size 126 1 (.slice (some ⟨g7,0,none⟩) ((iK l k).length+1) cap7) (iK l (k+1)).length ((iK l (k+1)).map (λe=>e.x.p)):=by
     rw[aS,length_append,map_append];have e5:[l[k]].map (λe=>e.x.p)=[Value.pointer (some ⟨Ak,0,none⟩)]:=(by rw[Zc];rfl);rw[e5];exact gJ
    have HN:=ab (zq2 TV (zq2 hg7 h7));clear gJ dh eZ wD zG Ie h4 Jg aS Zc hKV hKD h7 hg7 TV H4 SY;go_wp2_with fail
    go_roundg (G1-1)
    case rel=>exact⟨k+1,by omega,by go_num,HN⟩
    case measure=>omega
   .have e4:=Ku ar Ia;rw[Ia]at x1 aS;rw[if_pos rfl,append_nil]at aS;have HN:Hid (wr.ownsRow w.heap.size 126 1 (.slice fa (iK l k).length fc) (iK l (k+1)).length ((iK l (k+1)).map (λe=>e.x.p))/\gb w wr (cL S hv (.slice (some ⟨kB,0,none⟩) K.length kC) wv KV WV) (cL S hv (.slice (some ⟨kB,0,none⟩) K.length kC) wv KV WV) (dK K) (dK K) []/\Sh wr S c (.pointer (some ⟨Q,0,none⟩)) hv (.slice (some ⟨kB,0,none⟩) K.length kC) wv KV WV (K.set n (eO l (k+1))) { s with kn:=s.kn.set n ((eO l (k+1)).map En.m) }):=ab (by rw[aS,e4];exact⟨h1,h2,h3⟩);clear h1 h2 h3 hek e2 wt Ia aS hI c9 e4;go_wp2_with fail
    go_roundg (G1-1)
    case rel=>exact⟨k+1,by omega,by go_num,HN⟩
    case measure=>omega
  .have hd:decide ((k:Int)<(l.length:Int))=false:=(by simp;omega);have jz:k=l.length:=(by omega);have hFR:iK l k=l.filter (λe=>!e.d):=(by unfold iK;rw[take_of_length_le (by omega)]);have hDN:eO l k=eO l l.length:=(by rw[jz]);rw[hFR]at h1 ⊢;rw[hDN]at h3;rw[<-uh cg]at h3;obtain⟨FR,Qr⟩:∃FR,FR=l.filter (λe=>!e.d):=⟨_,rfl⟩;have hR:=uh HR;rw[<-Qr]at h1 hR ⊢;have hFl:FR.length<=l.length:=(by rw[Qr];exact length_filter_le _ _);have yi:∀q,(Value.slice fa FR.length fc).ownBlock=some q->q ∉ (cL S hv (.slice (some ⟨kB,0,none⟩) K.length kC) wv KV WV):=λq hq e=>by
    have h7:=(h1.lt q hq).1;have h8:=(uh HA).1.lt q e;omega
   have Ib:gb w wr (cL S hv (.slice (some ⟨kB,0,none⟩) K.length kC) wv KV WV) (cL S hv (.slice (some ⟨kB,0,none⟩) K.length kC) wv KV WV) (dK K) (dK (K.set n (eO l l.length))) []:=⟨h2.st,λq hq=>zq0 ((Ae (uh HL).1 hn l.length q).1 hq)⟩;have cd:=ab (zq2 h3 (zq2 Ib (zq2 h1 (zq2 yi hR))));have HFM:Hid (∀e∈FR,e∈l):=ab (λe he=>by rw[Qr]at he;exact(mem_filter.1 he).1);clear h1 h2 h3 hI hFR hDN Qr hR yi Ib wt f7 jz HR cg;go_wp2_with fail
   go_loopg [6] FR.length (λgn iv wx=>∃(j:Nat) (KV':List Value) (K':List (List En)) (s':Sr),j+gn=FR.length/\iv=.int .i64 j/\Hid (Sh wx S c (.pointer (some ⟨Q,0,none⟩)) hv (.slice (some ⟨kB,0,none⟩) K.length kC) wv KV' WV K' s'/\K'.length=K.length/\gb w wx (cL S hv (.slice (some ⟨kB,0,none⟩) K.length kC) wv KV WV) (cL S hv (.slice (some ⟨kB,0,none⟩) K.length kC) wv KV' WV) (dK K) (dK K') []/\wx.ownsRow w.heap.size 126 1 (.slice fa FR.length fc) FR.length (FR.map (λe=>e.x.p))/\(∀q,(Value.slice fa FR.length fc).ownBlock=some q->q ∉ (cL S hv (.slice (some ⟨kB,0,none⟩) K.length kC) wv KV' WV))/\mg c fuel n ((FR.drop j).map (λe=>e.x.f)) s'=R))
   case atStart=>exact⟨0,KV,_,s1,by omega,rfl,ab ⟨(uh cd).1,length_set,(uh cd).2.1,(uh cd).2.2.1,(uh cd).2.2.2.1,by rw[drop_zero];exact(uh cd).2.2.2.2.symm⟩⟩
   case round =>
    clear cd;obtain⟨j,KV',K',s',yc,rfl,hI⟩:=hrel;obtain⟨G2,CZ⟩:∃G2,G2=gk:=⟨_,rfl⟩;obtain⟨h1,h2,h3,h4,h5,h6⟩:=uh hI;have c8:=h1.bs.cell 8 rfl;have K6:s'=R->Hid (dP wr):=λe=>ab (by rw[uh fD,<-e];exact⟨KV',K',h1,h2,h3⟩);by_cases ar:j<FR.length
    .have jk:decide ((j:Int)<(FR.length:Int))=true:=(by simp;omega);have om:FR.drop j=FR[j]::FR.drop (j+1):=drop_eq_getElem_cons ar;rw[om,map_cons]at h6;unfold mg at h6;cases eJ:s'.fu
     .rw[eJ]at c8 h6;rw[if_neg (by decide)]at h6;obtain⟨g2,cap2,cO,-,-,-⟩:=bT h4 (by omega);simp only[Value.slice.injEq,true_and]at cO;obtain⟨rfl,rfl⟩:=cO;have aw:wr.cell? ⟨g2,j,none⟩=some (.pointer (some ⟨FR[j].x.A,0,none⟩)):=by
       rw[h4.cellAt j (by omega),getElem?_map,getElem?_eq_getElem ar];rfl
      have lg:=uh HFM _ (getElem_mem ar);have wy:=(uh HA).1.dr l (uh HL).2 _ lg;have hbK:∀q∈FR[j].x.bs,q∈dK K:=λq hq=>bt.2 ⟨l,(uh HL).2,_,lg,mem_cons_of_mem _ hq⟩;have hbn:∀q,q<w.heap.size->q ∉ (cL S hv (.slice (some ⟨kB,0,none⟩) K.length kC) wv KV WV)->q ∉ (cL S hv (.slice (some ⟨kB,0,none⟩) K.length kC) wv KV' WV)/\wr.heap[q]?=w.heap[q]?:=λq hq gl=>⟨λe=>by
       rcases h3.st.foot q e with p|p
       .exact gl (by simpa using p)
       .omega,h3.st.block q hq (by simpa using gl)⟩
      have bV:∀q∈FR[j].x.bs,q ∉ (cL S hv (.slice (some ⟨kB,0,none⟩) K.length kC) wv KV' WV)/\wr.heap[q]?=w.heap[q]?:=λq hq=>hbn q ((uh HA).1.drlt q (hbK q hq)) ((uh HA).1.da q (hbK q hq));have hFw:=wy.1.ff.of_eq (w':=wr) (λq hq=>(bV q hq).2);have hCp:=(uh HA).2.1.of_eq (w':=wr) (λq hq=>(hbn q ((uh HA).2.1.lt q hq) ((uh HA).2.2.1 q hq)).2);have oM:(mf c fuel n FR[j].x.f s').ok=true:=pJ _ (by rw[h6];exact uh kQ);have UO:=ab (Ss h1 hCp (uh HA).2.2.2.1 (uh HA).2.2.2.2 hFw wy.2 (λq hq=>(bV q hq).1) (n:=n) (by omega) (by omega) oM);have HI:=ab (zq2 h2 (zq2 h3 (zq2 h4 (zq2 h5 h6))));obtain⟨Aj,hAj⟩:∃Aj,Aj=FR[j].x.A:=⟨_,rfl⟩;rw[<-hAj]at aw UO;have k1:(0:Int)<=(j:Int):=(by omega);have k2:(j:Int)<(FR.length:Int):=(by omega);clear h1 h2 h3 h4 h5 h6 lg wy hbK hbn bV hFw hCp oM hAj om hI K6 eJ;go_wp2_with fail
      refine(uh UO).mono ?_;rintro e w5 ⟨rfl,q7,K2,q1,q2,q3⟩;obtain⟨h2,h3,h4,h5,h6⟩:=uh HI;have yh:=ae h4 (λq hq=>q3.st.block q (h4.lt q hq).2 (by simpa using h5 q hq));have hq5:∀q,(Value.slice (some ⟨g2,0,none⟩) FR.length fc).ownBlock=some q->q ∉ cL S hv (.slice (some ⟨kB,0,none⟩) K.length kC) wv q7 WV:=λq hq e=>by
       rcases q3.st.foot q e with p|p
       .exact h5 q hq (by simpa using p)
       .have:=(h4.lt q hq).2;omega
      have HN:=ab (zq2 q1 (zq2 (q2.trans h2) (zq2 (h3.trans q3 (λq hq=>by simp at hq)) (zq2 yh (zq2 hq5 h6)))));clear q1 q2 q3 h2 h3 h4 h5 h6 yh hq5 UO HI c8 aw;go_wp2_with fail
      go_roundg (G2-1)
      case rel=>exact⟨j+1,q7,K2,_,by omega,by go_num,HN⟩
      case measure=>omega
     .rw[eJ]at c8 h6;rw[if_pos rfl]at h6;have HP:=K6 h6;clear h1 h2 h3 h4 h5 h6 om hI K6 eJ;go_wp2_with fail
      go_end0
      exact⟨rfl,uh HP⟩
    .have jk:decide ((j:Int)<(FR.length:Int))=false:=(by simp;omega);rw[drop_eq_nil_of_le (by omega)]at h6;have HP:=K6 h6;clear h1 h2 h3 h4 h5 h6 hI K6;go_wp2_with fail
     go_end0
     exact⟨rfl,uh HP⟩
end
theorem Nm{s:Sr}{n:Nat}(hn:n<s.kn.length)(h1:(s.kn[n]).any (λe=>!e.d)=true)(h2:∀m,m<n->∀l,s.kn[m]?=some l->l.any (λe=>!e.d)=false):rq s=some n:=by
 unfold rq;rw[findIdx?_eq_some_iff_getElem];refine⟨hn,h1,λj hj=>?_⟩;rw[h2 j hj _ (getElem?_eq_getElem (by omega))];decide
theorem Nl{s:Sr}(h2:∀(m:Nat) (l:List fS),s.kn[m]?=some l->l.any (λe=>!e.d)=false):rq s=none:=by
 unfold rq;rw[findIdx?_eq_none_iff];intro l hl;obtain⟨m,hm⟩:=mem_iff_getElem?.1 hl;exact h2 m l hm
section
variable {w:World} {S:Nat} {c:Cd} {c0 hv kv wv:Value} {KV WV:List Value} {K:List (List En)} {s:Sr}
theorem Sh.kn_at(h:Sh w S c c0 hv kv wv KV WV K s){m:Nat}{l:List fS}(hl:s.kn[m]?=some l):∃L,K[m]?=some L/\l=L.map En.m:=by
 rw[h.km,getElem?_map]at hl;cases hk:K[m]? with
 |none=>rw[hk]at hl;simp at hl
 |some L=>rw[hk]at hl;exact⟨L,rfl,by simpa[eq_comm] using hl⟩
theorem tT(h:Sh w S c c0 hv kv wv KV WV K s)(vj:K.length<=100000):
  Calls prog 141 #[.pointer (some ⟨S,0,none⟩)] w λe w'=>e=.returned (.int .i64 (eK (rq s)))/\Below w.heap.size w w':=by
 obtain⟨R,hR⟩:∃R,R=eK (rq s):=⟨_,rfl⟩;rw[<-hR];obtain⟨ka,kC,O2,-,-⟩:=aj h.kr;subst O2;have cd:Hid (Below w.heap.size w w/\∀m,m<0->∀L,K[m]?=some L->L.any (λe=>!e.d)=false):=ab ⟨Below.refl _ _,λm hm=>by omega⟩;have H:=ab h;have HR:=ab hR;have Ut:Hid (∀L:List En,(L.map En.m).any (λe=>!e.d)=L.any (λe=>!e.d)):=ab (λL=>by rw[any_map];rfl);clear h hR;go_enter func141,ntmps141;go_wp2_with fail
 go_loopg [3] K.length (λgn iv wx=>∃(k:Nat),k+gn=K.length/\iv=.int .i64 k/\Hid (Below w.heap.size w wx/\∀m,m<k->∀L,K[m]?=some L->L.any (λe=>!e.d)=false))
 case atStart=>exact⟨0,by omega,rfl,cd⟩
 case round =>
  clear cd;obtain⟨k,f7,rfl,hI⟩:=hrel;obtain⟨G1,uF⟩:∃G1,G1=gk:=⟨_,rfl⟩;have h1:=(uh H).below (uh hI).1;have c3:=h1.bs.cell 3 rfl;by_cases ar:k<K.length
  .have hd:decide ((k:Int)<(K.length:Int))=true:=(by simp;omega);obtain⟨kB',kC',oL,ckc⟩:=h1.kc ar;simp only[Value.slice.injEq,true_and]at oL;obtain⟨rfl,rfl⟩:=oL;obtain⟨L,hL⟩:∃L,L=K.getD k []:=⟨_,rfl⟩;have hLK:K[k]?=some L:=(by rw[hL,bC ar,getElem?_eq_getElem ar]);have jl:=(uh H).ke k ar;rw[<-hL]at jl;obtain⟨va,vc,ym,Mv,QX⟩:=aj jl;rw[ym]at ckc jl;have HK:=ab jl;have OF:=ab hLK;have i1:(0:Int)<=(k:Int):=(by omega);have i2:(k:Int)<(K.length:Int):=(by omega);have mQ:Hid (Below w.heap.size w wr/\∀i,i<0->∀e,L[i]?=some e->e.d=true):=ab ⟨(uh hI).1,λm hm=>by omega⟩;have dJ:=ab (uh hI).2;clear h1 hL hLK jl ym hI;go_wp2_with fail
   go_loopg [23] L.length (λgn iv wx=>∃(j:Nat),j+gn=L.length/\iv=.int .i64 j/\Hid (Below w.heap.size w wx/\∀i,i<j->∀e,L[i]?=some e->e.d=true))
   case atStart=>exact⟨0,by omega,rfl,mQ⟩
   case round =>
    clear mQ c3 ckc;obtain⟨j,yc,rfl,hJ⟩:=hrel;obtain⟨G2,CZ⟩:∃G2,G2=gk:=⟨_,rfl⟩;by_cases bS:j<L.length
    .have jk:decide ((j:Int)<(L.length:Int))=true:=(by simp;omega);have ja:=eQ (uh HK) (uh hJ).1;obtain⟨g,cap,c9,-,-⟩:=bT ja (by omega);simp only[Value.slice.injEq,true_and]at c9;obtain⟨rfl,rfl⟩:=c9;obtain⟨x0,x1⟩:=lC ja rfl bS;have cq:L[j]?=some L[j]:=getElem?_eq_getElem bS;obtain⟨e,Je⟩:∃e,e=L[j]:=⟨_,rfl⟩;rw[<-Je]at x0 x1 cq;obtain⟨eD,ex,ed⟩:=e;simp only at x0 x1;have BP:=ab cq;have k1:(0:Int)<=(j:Int):=(by omega);have k2:(j:Int)<(L.length:Int):=(by omega);have dL:Below w.heap.size w (wr.alloc (.cells #[Value.pointer (some ⟨eD,0,none⟩),.bool ed] 258)):=(uh hJ).1.trans ((ah wr _).mono (uh hJ).1.size);have j9:=ab dL;clear ja cq Je dL;cases ed
     .have HE:Hid (R=(k:Int)):=ab (by
       have hkL:k<s.kn.length:=(by rw[(uh H).km,length_map];exact ar);rw[uh HR,Nm hkL ?_ ?_]
       .rfl
       .obtain⟨L2,h2,h3⟩:=(uh H).kn_at (getElem?_eq_getElem hkL);rw[uh OF]at h2;injection h2 with h2;rw[h3,<-h2,uh Ut,any_eq_true];exact⟨_,mem_of_getElem? (uh BP),rfl⟩
       .intro m hm l hl;obtain⟨L2,h2,rfl⟩:=(uh H).kn_at hl;rw[uh Ut];exact uh dJ m hm L2 h2)
      go_wp2_with fail
      go_ret;exact⟨bj (uh HE).symm,uh j9⟩
     .go_wp2_with fail
      go_roundg (G2-1)
      case rel=>exact⟨j+1,by omega,by go_num,ab ⟨uh j9,λi hi y hy=>by
       by_cases e':i=j
       .rw[e',uh BP]at hy;injection hy with hy;rw[<-hy]
       .exact(uh hJ).2 i (by omega) y hy⟩⟩
      case measure=>omega
    .have jk:decide ((j:Int)<(L.length:Int))=false:=(by simp;omega);go_wp2_with fail
     go_roundg (G1-1)
     case rel=>exact⟨k+1,by omega,by go_num,ab ⟨(uh hJ).1,λm hm L2 h2=>by
      by_cases e':m=k
      .rw[e',uh OF]at h2;injection h2 with h2;rw[<-h2,any_eq_false];intro e he;obtain⟨i,hi⟩:=mem_iff_getElem?.1 he;rw[(uh hJ).2 i (by have:=(List.getElem?_eq_some_iff.1 hi).1;omega) e hi];decide
      .exact uh dJ m (by omega) L2 h2⟩⟩
     case measure=>omega
  .have hd:decide ((k:Int)<(K.length:Int))=false:=(by simp;omega);have HE:Hid (R=-1):=ab (by
    rw[uh HR,Nl (λm l hl=>?_)]
    .rfl
    .obtain⟨L,hL,rfl⟩:=(uh H).kn_at hl;rw[uh Ut];exact(uh hI).2 m (by have:=(List.getElem?_eq_some_iff.1 hL).1;omega) L hL)
   clear h1;go_wp2_with fail
   go_ret;exact⟨bj (uh HE).symm,(uh hI).1⟩
end
def mr(m k i:Nat):Nat:=if k=2/\m<=i then i+1 else m
theorem LU{al:List cf}{k:Nat}(h:k<al.length):vt (al.take (k+1))=mr (mr (vt (al.take k)) al[k].lk al[k].li) al[k].rk al[k].ri:=by
 unfold vt;rw[take_succ_eq_append_getElem h,foldl_append];rfl
theorem Db{m k i:Nat}(hm:m<=101)(hi:i<=100):mr m k i<=101:=by unfold mr;split <;> omega
theorem LT:∀(al:List cf),(∀a∈al,a.li<=100/\a.ri<=100)->vt al<=101:=by
 intro al h;have key:∀(l:List cf) (m:Nat),(∀a∈l,a.li<=100/\a.ri<=100)->m<=101->l.foldl (λm a=>mr (mr m a.lk a.li) a.rk a.ri) m<=101:=by
  intro l;induction l with
  |nil=>intro m _ hm;exact hm
  |cons a l ih=>intro m hl hm;exact ih _ (λb hb=>hl b (mem_cons_of_mem _ hb)) (Db (Db hm (hl a (by simp)).1) (hl a (by simp)).2)
 exact key al 0 h (by omega)
theorem Xi(a b c d:Value)(w:World):(Instr.index 287 (.agg #[a,b,c,d]) (.int .i64 0)).run prog w=.ok (.agg #[a,b]) w:=by kernel_rfl
theorem Xj(a b c d:Value)(w:World):(Instr.index 287 (.agg #[a,b,c,d]) (.int .i64 1)).run prog w=.ok (.agg #[c,d]) w:=by kernel_rfl
section
variable {w:World} {B:Nat} {av:Value} {al:List cf}
theorem Dc(h:w.ownsRow B 239 5 av al.length (bI al))(nM:al.length<=1000)(hb:∀a∈al,a.li<=100/\a.ri<=100):
  Calls prog 196 #[av] w λe w'=>e=.returned (.int .i64 (vt al:Nat))/\Below w.heap.size w w':=by
 obtain⟨ao,cap,jK,rg,je,aw⟩:=mm h;have HC:=ab aw;have HBD:=ab hb;have YW:Hid (∀k,vt (al.take k)<=101):=ab (λk=>LT _ (λa ha=>hb a (mem_of_mem_take ha)));rw[jK];clear h aw jK hb;go_enter func196,ntmps196;go_wp2_with fail
 go_loopg [3,10] al.length (λgn cv iv wx=>∃(k:Nat),k+gn=al.length/\iv=.int .i64 k/\cv=.int .i64 (vt (al.take k):Nat)/\Hid (Below w.heap.size w wx))
 case atStart=>exact⟨0,by omega,rfl,rfl,ab (Below.refl _ _)⟩
 case round =>
  obtain⟨k,f7,rfl,rfl,hI⟩:=hrel;obtain⟨G1,uF⟩:∃G1,G1=gk:=⟨_,rfl⟩;by_cases ar:k<al.length
  .have hd:decide ((k:Int)<(al.length:Int))=true:=(by simp;omega);obtain⟨g,rfl,mq,hc⟩:=uh HC (λe=>by rw[e]at ar;simp at ar);obtain⟨x0,x1,x2,x3,x4⟩:=hc k ar;have x0:=((uh hI).cell mq).trans x0;have x1:=((uh hI).cell mq).trans x1;have x2:=((uh hI).cell mq).trans x2;have x3:=((uh hI).cell mq).trans x3;have x4:=((uh hI).cell mq).trans x4;have aS:=LU ar;have hbd:=uh HBD _ (getElem_mem ar);have hm1:=uh YW k;obtain⟨a,ha⟩:∃a,a=al[k]:=⟨_,rfl⟩;rw[<-ha]at x0 x1 x2 x3 x4 aS hbd;obtain⟨m,hm⟩:∃m,m=vt (al.take k):=⟨_,rfl⟩;rw[<-hm]at aS hm1 ⊢;obtain⟨ak,alk,ali,ark,ari⟩:=a;simp only at x0 x1 x2 x3 x4 aS hbd;have cI:=ab aS;have eU:Hid (Below w.heap.size w (wr.alloc (.cells #[Value.int .i64 ak,.int .i64 alk,.int .i64 ali,.int .i64 ark,.int .i64 ari] 239))):=ab ((uh hI).trans ((ah wr _).mono (uh hI).size));have i1:(0:Int)<=(k:Int):=(by omega);have i2:(k:Int)<(al.length:Int):=(by omega);have j0:=Xi (.int .i64 (alk:Int)) (.int .i64 (ali:Int)) (.int .i64 (ark:Int)) (.int .i64 (ari:Int));have j1:=Xj (.int .i64 (alk:Int)) (.int .i64 (ali:Int)) (.int .i64 (ark:Int)) (.int .i64 (ari:Int));clear hc aS ha hm hI;go_wp2_with fail
   go_loopg [3,19] 2 (λgn cv iv wx=>∃(j:Nat),j+gn=2/\iv=.int .i64 j/\cv=.int .i64 ((if j=0 then m else if j=1 then mr m alk ali else mr (mr m alk ali) ark ari:Nat):Int)/\Hid (Below w.heap.size w wx))
   case atStart=>exact⟨0,by omega,rfl,rfl,eU⟩
   case round =>
    clear eU;obtain⟨j,yc,rfl,rfl,hJ⟩:=hrel;obtain⟨G2,CZ⟩:∃G2,G2=gk:=⟨_,rfl⟩;have hj3:j=0\/j=1\/j=2:=(by omega);rcases hj3 with rfl|rfl|rfl
    .rw[if_pos rfl];have HN:Hid (Below w.heap.size w (wr.alloc (.cells #[Value.int .i64 alk,.int .i64 ali] 184))):=ab ((uh hJ).trans ((ah wr _).mono (uh hJ).size));clear hJ;by_cases h2:alk=2
     .have d2:((alk:Int)==(2:Int))=true:=(by simp[h2]);by_cases cq:m<=ali
      .have d3:decide (m<=ali)=true:=(by simpa using cq);have HT:Hid (mr m alk ali=ali+1):=ab (by unfold mr;rw[if_pos ⟨h2,cq⟩]);clear h2 cq;go_wp2_with fail
       go_roundg (G2-1)
       case rel=>exact⟨1,by omega,by go_num,by rw[if_neg (by decide),if_pos rfl,uh HT];go_num,HN⟩
       case measure=>omega
      .have d3:decide (m<=ali)=false:=(by simpa using cq);have HT:Hid (mr m alk ali=m):=ab (by unfold mr;rw[if_neg (λh=>cq h.2)]);clear h2 cq;go_wp2_with fail
       go_roundg (G2-1)
       case rel=>exact⟨1,by omega,by go_num,by rw[if_neg (by decide),if_pos rfl,uh HT],HN⟩
       case measure=>omega
     .have d2:((alk:Int)==(2:Int))=false:=(by simp;omega);have HT:Hid (mr m alk ali=m):=ab (by unfold mr;rw[if_neg (λh=>h2 h.1)]);clear h2;go_wp2_with fail
      go_roundg (G2-1)
      case rel=>exact⟨1,by omega,by go_num,by rw[if_neg (by decide),if_pos rfl,uh HT],HN⟩
      case measure=>omega
    .rw[if_neg (by decide),if_pos rfl];have HN:Hid (Below w.heap.size w (wr.alloc (.cells #[Value.int .i64 ark,.int .i64 ari] 184))):=ab ((uh hJ).trans ((ah wr _).mono (uh hJ).size));have qN:=Db (k:=alk) hm1 hbd.1;obtain⟨m1,hm1e⟩:∃m1,m1=mr m alk ali:=⟨_,rfl⟩;have HM1:=ab hm1e;rw[<-hm1e]at qN ⊢;clear hJ hm1e;by_cases h2:ark=2
     .have d2:((ark:Int)==(2:Int))=true:=(by simp[h2]);by_cases cq:m1<=ari
      .have d3:decide (m1<=ari)=true:=(by simpa using cq);have HT:Hid (mr m1 ark ari=ari+1):=ab (by unfold mr;rw[if_pos ⟨h2,cq⟩]);clear h2 cq;go_wp2_with fail
       go_roundg (G2-1)
       case rel=>exact⟨2,by omega,by go_num,by rw[if_neg (by decide),if_neg (by decide),<-uh HM1,uh HT];go_num,HN⟩
       case measure=>omega
      .have d3:decide (m1<=ari)=false:=(by simpa using cq);have HT:Hid (mr m1 ark ari=m1):=ab (by unfold mr;rw[if_neg (λh=>cq h.2)]);clear h2 cq;go_wp2_with fail
       go_roundg (G2-1)
       case rel=>exact⟨2,by omega,by go_num,by rw[if_neg (by decide),if_neg (by decide),<-uh HM1,uh HT],HN⟩
       case measure=>omega
     .have d2:((ark:Int)==(2:Int))=false:=(by simp;omega);have HT:Hid (mr m1 ark ari=m1):=ab (by unfold mr;rw[if_neg (λh=>h2 h.1)]);clear h2;go_wp2_with fail
      go_roundg (G2-1)
      case rel=>exact⟨2,by omega,by go_num,by rw[if_neg (by decide),if_neg (by decide),<-uh HM1,uh HT],HN⟩
      case measure=>omega
    .rw[if_neg (by decide),if_neg (by decide)];go_wp2_with fail
     go_roundg (G1-1)
     case rel=>exact⟨k+1,by omega,by go_num,by rw[uh cI],hJ⟩
     case measure=>omega
  .have hd:decide ((k:Int)<(al.length:Int))=false:=(by simp;omega);have jz:al.take k=al:=take_of_length_le (by omega);rw[jz];clear jz;go_wp2_with fail
   go_ret;exact⟨rfl,uh hI⟩
end
structure HL where
 q:Nat
 f:Nat
 X:Nat
 o:Nat
 uv:Value
 hv:Value
 av:Value
 ov:Value
structure YL(al:List cf):Prop where
 tm:vf al
 le:al.length<=1000
 bd:∀a∈al,a.lk<=2/\a.rk<=2/\a.li<=100/\a.ri<=100
section
variable {w:World} {Q:Nat} {ws:List ByteArray} {s:PS} {al:List cf} {vv pv nv sv0 lv:Value} {st ls:List Int}
end
def SA(n:Nd):Bool:=decide (n.op=7\/n.op=8\/n.op=9)
def M7(n:Nd):Bool:=decide (n.op=4)
theorem qG{α:Type}{l:List α}{P:α->Bool}{i:Nat}(h:i<l.length):(l.take (i+1)).countP P=(l.take i).countP P+if P l[i]=true then 1 else 0:=by
 rw[take_succ_eq_append_getElem h,countP_append];congr 1;by_cases e:P l[i]=true <;> simp[e]
theorem R8{nds:List Nd}{nv:Nat}{al:List cf}{i:Nat}(hi:i<nds.length)(h:gU nds i=true):Jp nds nv al=false:=by
 unfold Jp;have:(range nds.length).any (gU nds)=true:=by rw[any_eq_true];exact⟨i,mem_range.2 hi,h⟩
 rw[this];rfl
theorem R9{nds:List Nd}{nv:Nat}{al:List cf}{a:cf}(ha:a∈al)(h:a.k=4):Jp nds nv al=false:=by
 unfold Jp;have:al.any (λa=>decide (a.k=4))=true:=by rw[any_eq_true];exact⟨a,ha,by simpa using h⟩
 rw[this];simp
theorem Yk{nds:List Nd}{nv:Nat}{al:List cf}(h1:∀i,i<nds.length->gU nds i=false)(h2:∀a∈al,a.k≠4):Jp nds nv al=(decide (nds.countP SA<=5)&&decide (nds.countP M7<=4)&&decide (nv+vt al<=6)&&decide (nv+vt al+nds.countP M7<=8)):=by
 unfold Jp;have e1:(range nds.length).any (gU nds)=false:=by rw[any_eq_false];intro i hi;rw[h1 i (mem_range.1 hi)];decide
 have e2:al.any (λa=>decide (a.k=4))=false:=by rw[any_eq_false];intro a ha;simpa using h2 a ha
 rw[e1,e2];rfl
section
variable {w:World} {Q:Nat} {ws:List ByteArray} {ps:PS} {al:List cf} {vv pv nv:Value}
theorem Cp.nd(h:Cp w Q ws ps al vv pv nv){i:Nat}(hi:i<ps.nodes.length):∃g cap,nv=.slice (some ⟨g,0,none⟩) ps.nodes.length cap/\w.cell? ⟨g,i*6,none⟩=some (.int .i64 (ps.nodes[i].op:Int))/\w.cell? ⟨g,i*6+1,none⟩=some (.int .i64 (ps.nodes[i].v:Int))/\w.cell? ⟨g,i*6+2,none⟩=some (.int .i64 (ps.nodes[i].ak:Int))/\w.cell? ⟨g,i*6+3,none⟩=some (.int .i64 (ps.nodes[i].ai:Int))/\w.cell? ⟨g,i*6+4,none⟩=some (.int .i64 (ps.nodes[i].nx:Int))/\w.cell? ⟨g,i*6+5,none⟩=some (.int .i64 (ps.nodes[i].ot:Int)):=by
 obtain⟨g,cap,hv,-,-,-⟩:=bT h.nr (by omega);subst hv;have key:∀j,j<6->w.cell? ⟨g,i*6+j,none⟩=ps.nodes[i].cells[j]?:=λj hj=>by rw[h.nr.cellAt _ (by omega),M2 hi j hj]
 exact⟨g,cap,rfl,key 0 (by omega),key 1 (by omega),key 2 (by omega),key 3 (by omega),key 4 (by omega),key 5 (by omega)⟩
theorem yv(h:Cp w Q ws ps al vv pv nv)(hA:YL al)(iN:ps.nodes.length<=100000)(Dp:ps.vars.length<=1000):
  Calls prog 170 #[.pointer (some ⟨Q,0,none⟩)] w λe w'=>e=.returned (.bool (Jp ps.nodes ps.vars.length al))/\Below w.heap.size w w':=by
 obtain⟨R,hR⟩:∃R,R=Jp ps.nodes ps.vars.length al:=⟨_,rfl⟩;rw[<-hR];have B6:∀a∈al,a.li<=100/\a.ri<=100:=λa ha=>(hA.bd a ha).2.2;have jw:=hA.le;have HH:Hid (∀W,Below w.heap.size w W->Calls prog 196 #[pv] W λe w'=>e=.returned (.int .i64 (vt al:Nat))/\Below W.heap.size W w'):=ab (λW hW=>Dc (h.below hW).pr hA.le B6);have hhl:=LT al B6;obtain⟨na,nc,Ig,-,-⟩:=aj h.nr;obtain⟨va,vc,ym,-,-⟩:=aj h.vr;obtain⟨ao,cap,jK,rg,je,aw⟩:=mm h.pr;subst Ig;subst ym;subst jK;have c1:=h.bk.cell 1 rfl;have c2:=h.bk.cell 2 rfl;have c3:=h.bk.cell 3 rfl;have hQl:=h.bk.lt;have H:=ab h;have HR:=ab hR;have HC:=ab aw;obtain⟨nds,AJ⟩:∃nds,nds=ps.nodes:=⟨_,rfl⟩;have HN:Hid (∀i,(hi:i<nds.length)->∃g cap,Value.slice na ps.nodes.length nc=.slice (some ⟨g,0,none⟩) nds.length cap/\w.cell? ⟨g,i*6,none⟩=some (.int .i64 (nds[i].op:Int))/\w.cell? ⟨g,i*6+4,none⟩=some (.int .i64 (nds[i].nx:Int))):=ab (by
  subst AJ;intro i hi;obtain⟨g,cap,e,x0,-,-,-,x4,-⟩:=h.nd hi;exact⟨g,cap,e,x0,x4⟩)
 rw[<-AJ]at c3 iN HN HR;clear h hA hR aw B6 AJ;go_enter func170,ntmps170;go_wp2_with fail
 go_loopg [3,4,5] nds.length (λgn tv nwv iv wx=>∃(k:Nat),k+gn=nds.length/\iv=.int .i64 k/\tv=.int .i64 ((nds.take k).countP SA:Nat)/\nwv=.int .i64 ((nds.take k).countP M7:Nat)/\Hid (wx=w/\∀i,i<k->gU nds i=false))
 case atStart=>exact⟨0,by omega,rfl,rfl,rfl,ab ⟨rfl,λi hi=>by omega⟩⟩
 case round =>
  obtain⟨k,f7,rfl,rfl,rfl,hI⟩:=hrel;obtain⟨G1,uF⟩:∃G1,G1=gk:=⟨_,rfl⟩;obtain⟨hwr,hbj⟩:=uh hI;rw[hwr];clear hwr;have HBJ:=ab hbj;have vA:(nds.take k).countP SA<=k:=zq3 countP_le_length (by rw[length_take];omega);have jf:(nds.take k).countP M7<=k:=zq3 countP_le_length (by rw[length_take];omega);clear hI hbj;by_cases ar:k<nds.length
  .have hd:decide ((k:Int)<(nds.length:Int))=true:=(by simp;omega);obtain⟨g,cap2,c9,x0,x4⟩:=uh HN k ar;simp only[Value.slice.injEq]at c9;obtain⟨rfl,-,rfl⟩:=c9;have ZI:=qG (P:=SA) ar;have hnw:=qG (P:=M7) ar;have gy:gU nds k=(decide (nds[k].op=10)&&decide (nds[k].nx<k)):=(by unfold gU;rw[bC ar]);obtain⟨nd,dV⟩:∃nd,nd=nds[k]:=⟨_,rfl⟩;rw[<-dV]at x0 x4 ZI hnw gy;obtain⟨T,hT⟩:∃T,T=(nds.take k).countP SA:=⟨_,rfl⟩;obtain⟨N,hN⟩:∃N,N=(nds.take k).countP M7:=⟨_,rfl⟩;rw[<-hT]at ZI vA ⊢;rw[<-hN]at hnw jf ⊢;have od:Hid (gU nds k=false->∀i,i<k+1->gU nds i=false):=ab (λe i hi=>by
    by_cases h1:i=k
    .rw[h1];exact e
    .exact uh HBJ i (by omega))
   have k1:(0:Int)<=(k:Int):=(by omega);have k2:(k:Int)<(nds.length:Int):=(by omega);have UP:=ab ZI;have SU:=ab hnw;have D7:=ab gy;clear ZI hnw gy dV hT hN;have htsB:SA nd=decide (nd.op=7\/nd.op=8\/nd.op=9):=rfl;have hnwB:M7 nd=decide (nd.op=4):=rfl;by_cases ht:nd.op=7\/nd.op=8\/nd.op=9
   .have Ef:Hid ((nds.take (k+1)).countP SA=T+1):=ab (by rw[uh UP,htsB,if_pos (by simpa using ht)]);have BQ:Hid ((nds.take (k+1)).countP M7=N):=ab (by rw[uh SU,hnwB,if_neg (by simp;omega),Nat.add_zero]);have dS:Hid (∀i,i<k+1->gU nds i=false):=ab (uh od (by rw[uh D7];simp;omega));clear htsB hnwB UP SU D7;rcases ht with ht|ht|ht
    .rw[ht]at x0;go_wp2_with fail
     go_roundg (G1-1)
     case rel=>exact⟨k+1,by omega,by go_num,by rw[uh Ef];go_num,by rw[uh BQ],ab ⟨rfl,uh dS⟩⟩
     case measure=>omega
    .rw[ht]at x0;go_wp2_with fail
     go_roundg (G1-1)
     case rel=>exact⟨k+1,by omega,by go_num,by rw[uh Ef];go_num,by rw[uh BQ],ab ⟨rfl,uh dS⟩⟩
     case measure=>omega
    .rw[ht]at x0;go_wp2_with fail
     go_roundg (G1-1)
     case rel=>exact⟨k+1,by omega,by go_num,by rw[uh Ef];go_num,by rw[uh BQ],ab ⟨rfl,uh dS⟩⟩
     case measure=>omega
   .have Ef:Hid ((nds.take (k+1)).countP SA=T):=ab (by rw[uh UP,htsB,if_neg (by simpa using ht),Nat.add_zero]);have t7:((nd.op:Int)==(7:Int))=false:=(by simp;omega);have t8:((nd.op:Int)==(8:Int))=false:=(by simp;omega);have t9:((nd.op:Int)==(9:Int))=false:=(by simp;omega);by_cases h4:nd.op=4
    .have BQ:Hid ((nds.take (k+1)).countP M7=N+1):=ab (by rw[uh SU,hnwB,if_pos (by simpa using h4)]);have dS:Hid (∀i,i<k+1->gU nds i=false):=ab (uh od (by rw[uh D7];simp;omega));rw[h4]at x0;clear htsB hnwB UP SU D7 t7 t8 t9;go_wp2_with fail
     go_roundg (G1-1)
     case rel=>exact⟨k+1,by omega,by go_num,by rw[uh Ef],by rw[uh BQ];go_num,ab ⟨rfl,uh dS⟩⟩
     case measure=>omega
    .have BQ:Hid ((nds.take (k+1)).countP M7=N):=ab (by rw[uh SU,hnwB,if_neg (by simpa using h4),Nat.add_zero]);have t4:((nd.op:Int)==(4:Int))=false:=(by simp;omega);by_cases EW:nd.op=10
     .rw[EW]at x0;by_cases hb:nd.nx<k
      .have d1:decide ((nd.nx:Int)<(k:Int))=true:=(by simp;omega);have HE:Hid (R=false):=ab (by rw[uh HR];exact R8 ar (by rw[uh D7];simp[EW,hb]));clear htsB hnwB UP SU D7 t7 t8 t9 t4;go_wp2_with fail
       go_ret;exact⟨aB (uh HE).symm,Below.refl _ _⟩
      .have d1:decide ((nd.nx:Int)<(k:Int))=false:=(by simp;omega);have dS:Hid (∀i,i<k+1->gU nds i=false):=ab (uh od (by rw[uh D7];simp[hb]));clear htsB hnwB UP SU D7 t7 t8 t9 t4;go_wp2_with fail
       go_roundg (G1-1)
       case rel=>exact⟨k+1,by omega,by go_num,by rw[uh Ef],by rw[uh BQ],ab ⟨rfl,uh dS⟩⟩
       case measure=>omega
     .have t10:((nd.op:Int)==(10:Int))=false:=(by simp;omega);have dS:Hid (∀i,i<k+1->gU nds i=false):=ab (uh od (by rw[uh D7];simp[EW]));clear htsB hnwB UP SU D7;go_wp2_with fail
      go_roundg (G1-1)
      case rel=>exact⟨k+1,by omega,by go_num,by rw[uh Ef],by rw[uh BQ],ab ⟨rfl,uh dS⟩⟩
      case measure=>omega
  .have hd:decide ((k:Int)<(nds.length:Int))=false:=(by simp;omega);have jz:nds.take k=nds:=take_of_length_le (by omega);rw[jz]at vA jf ⊢;have dS:Hid (∀i,i<nds.length->gU nds i=false):=ab (λi hi=>uh HBJ i (by omega));obtain⟨T,hT⟩:∃T,T=nds.countP SA:=⟨_,rfl⟩;obtain⟨N,hN⟩:∃N,N=nds.countP M7:=⟨_,rfl⟩;rw[<-hT]at vA ⊢;rw[<-hN]at jf ⊢;have HTN:=ab (zq2 hT hN);clear jz hT hN HBJ HN;go_wp2_with fail
   go_loopg [58] al.length (λgn iv wx=>∃(j:Nat),j+gn=al.length/\iv=.int .i64 j/\Hid (Below w.heap.size w wx/\∀i,i<j->∀a,al[i]?=some a->a.k≠4))
   case atStart=>exact⟨0,by omega,rfl,ab ⟨Below.refl _ _,λi hi=>by omega⟩⟩
   case round =>
    obtain⟨j,yc,rfl,hJ⟩:=hrel;obtain⟨G2,CZ⟩:∃G2,G2=gk:=⟨_,rfl⟩;by_cases bS:j<al.length
    .have jk:decide ((j:Int)<(al.length:Int))=true:=(by simp;omega);obtain⟨g,rfl,mq,hc⟩:=uh HC (λe=>by rw[e]at bS;simp at bS);obtain⟨x0,x1,x2,x3,x4⟩:=hc j bS;have x0:=((uh hJ).1.cell mq).trans x0;have x1:=((uh hJ).1.cell mq).trans x1;have x2:=((uh hJ).1.cell mq).trans x2;have x3:=((uh hJ).1.cell mq).trans x3;have x4:=((uh hJ).1.cell mq).trans x4;have cq:al[j]?=some al[j]:=getElem?_eq_getElem bS;obtain⟨a,ha⟩:∃a,a=al[j]:=⟨_,rfl⟩;rw[<-ha]at x0 x1 x2 x3 x4 cq;obtain⟨ak,alk,ali,ark,ari⟩:=a;simp only at x0 x1 x2 x3 x4;have BP:=ab cq;have eU:Hid (Below w.heap.size w (wr.alloc (.cells #[Value.int .i64 ak,.int .i64 alk,.int .i64 ali,.int .i64 ark,.int .i64 ari] 239))):=ab ((uh hJ).1.trans ((ah wr _).mono (uh hJ).1.size));have k1:(0:Int)<=(j:Int):=(by omega);have k2:(j:Int)<(al.length:Int):=(by omega);clear hc ha cq;by_cases h4:ak=4
     .have d4:((ak:Int)==(4:Int))=true:=(by simp[h4]);have HE:Hid (R=false):=ab (by rw[uh HR];exact R9 (mem_of_getElem? (uh BP)) h4);clear h4;go_wp2_with fail
      go_ret;exact⟨aB (uh HE).symm,uh eU⟩
     .have d4:((ak:Int)==(4:Int))=false:=(by simp;omega);have uX:=ab h4;clear h4;go_wp2_with fail
      go_roundg (G2-1)
      case rel=>exact⟨j+1,by omega,by go_num,ab ⟨uh eU,λi hi y hy=>by
       by_cases e':i=j
       .rw[e',uh BP]at hy;injection hy with hy;rw[<-hy];exact uh uX
       .exact(uh hJ).2 i (by omega) y hy⟩⟩
      case measure=>omega
    .have jk:decide ((j:Int)<(al.length:Int))=false:=(by simp;omega);obtain⟨hb,Jk⟩:=uh hJ;have d2:=(hb.cell hQl).trans c2;have HH2:=ab (uh HH wr hb);obtain⟨V,hV⟩:∃V,V=ps.vars.length:=⟨_,rfl⟩;have aoi:V<=1000:=(by rw[hV];exact Dp);rw[<-hV]at HR ⊢;obtain⟨Hn,hHn⟩:∃Hn,Hn=vt al:=⟨_,rfl⟩;rw[<-hHn]at HH2 hhl;have hRe:R=(decide (T<=5)&&decide (N<=4)&&decide (V+Hn<=6)&&decide (V+Hn+N<=8)):=by
      rw[uh HR,Yk (uh dS) (λa ha=>?_),<-(uh HTN).1,<-(uh HTN).2,<-hHn];obtain⟨i,hi⟩:=mem_iff_getElem?.1 ha;exact Jk i (by have:=(List.getElem?_eq_some_iff.1 hi).1;omega) a hi
     obtain⟨M,hM⟩:∃M,M=V+Hn:=⟨_,rfl⟩;rw[<-hM]at hRe;have ZC:IntKind.i64.wrap ((V:Int)+(Hn:Int))=(M:Int):=(by rw[IntKind.wrap_i64];omega);have BT:=ab hRe;have HB:=ab hb;have Zj:M<=2000:=(by omega);obtain⟨P,hP⟩:∃P,P=M+N:=⟨_,rfl⟩;have hq2:IntKind.i64.wrap ((M:Int)+(N:Int))=(P:Int):=(by rw[IntKind.wrap_i64];omega);rw[<-hP]at BT;clear hb Jk hV hHn hRe hM hP hJ HR dS HTN HH HC;go_wp2_with fail
     refine(uh HH2).mono ?_;rintro e w5 ⟨rfl,dL⟩;have j9:=ab ((uh HB).trans (dL.mono (uh HB).size));clear dL HB HH2;by_cases p1:T<=5
     .have e1:decide (T<=5)=true:=(by simpa using p1);have e1':decide ((T:Int)<=(5:Int))=true:=(by simp;omega);by_cases p2:N<=4
      .have e2:decide (N<=4)=true:=(by simpa using p2);have e2':decide ((N:Int)<=(4:Int))=true:=(by simp;omega);by_cases p3:M<=6
       .have e3:decide (M<=6)=true:=(by simpa using p3);have e3':decide ((M:Int)<=(6:Int))=true:=(by simp;omega);by_cases p4:P<=8
        .have e4:decide (P<=8)=true:=(by simpa using p4);have e4':decide ((P:Int)<=(8:Int))=true:=(by simp;omega);have HE:Hid (R=true):=ab (by rw[uh BT,e1,e2,e3,e4];rfl);clear p1 p2 p3 p4 e1 e2 e3 e4;go_wp2_with fail
         go_ret;exact⟨aB (uh HE).symm,uh j9⟩
        .have e4:decide (P<=8)=false:=(by simpa using p4);have e4':decide ((P:Int)<=(8:Int))=false:=(by simp;omega);have HE:Hid (R=false):=ab (by rw[uh BT,e1,e2,e3,e4];rfl);clear p1 p2 p3 p4 e1 e2 e3 e4;go_wp2_with fail
         go_ret;exact⟨aB (uh HE).symm,uh j9⟩
       .have e3:decide (M<=6)=false:=(by simpa using p3);have e3':decide ((M:Int)<=(6:Int))=false:=(by simp;omega);have HE:Hid (R=false):=ab (by rw[uh BT,e1,e2,e3];rfl);clear p1 p2 p3 e1 e2 e3;go_wp2_with fail
        go_ret;exact⟨aB (uh HE).symm,uh j9⟩
      .have e2:decide (N<=4)=false:=(by simpa using p2);have e2':decide ((N:Int)<=(4:Int))=false:=(by simp;omega);have HE:Hid (R=false):=ab (by rw[uh BT,e1,e2];rfl);clear p1 p2 e1 e2;go_wp2_with fail
       go_ret;exact⟨aB (uh HE).symm,uh j9⟩
     .have e1:decide (T<=5)=false:=(by simpa using p1);have e1':decide ((T:Int)<=(5:Int))=false:=(by simp;omega);have HE:Hid (R=false):=ab (by rw[uh BT,e1];rfl);clear p1 e1;go_wp2_with fail
      go_ret;exact⟨aB (uh HE).symm,uh j9⟩
end
theorem infoBl:(prog.info? 4).map (λi=>(i.zero,i.size,i.bytes))=some (some (.bool false),1,1):=by kernel_rfl
theorem infoEs:(prog.info? 255).map (λi=>(i.zero,i.size,i.bytes))=some (some (.slice none 0 0),1,24):=by kernel_rfl
theorem infoBs:(prog.info? 200).map (λi=>(i.zero,i.size,i.bytes))=some (some (.slice none 0 0),1,24):=by kernel_rfl
theorem FY{S:Nat}{hv kv wv:Value}{KV WV:List Value}{n:Nat}(v:Value):ny S hv kv wv KV (WV.set n v)=(ny S hv kv wv KV WV).set (4+(KV.length+n)) v.ownBlock:=by
 unfold ny;rw[show 4+(KV.length+n)=(KV.length+n)+1+1+1+1 by omega];simp only[set_cons_succ];rw[set_append_right _ _ (by simp),map_set];simp
structure pM(w W:World)(S:Nat)(c0 hv kv wv:Value)(WV:List Value)(lp:Bool)(hd:List Bool)(bd:Bool)(m i:Nat):Prop where
 bs:Bk W S 229 (ou c0 hv lp kv wv bd 3000 2097152 false)
 hl:hd.length=m
 hr:W.ownsRow 0 4 1 hv m (cR hd)
 kr:W.ownsRow 0 255 1 kv m (replicate m aH)
 wr:W.ownsRow 0 200 1 wv m WV
 we:∀j,j<i->W.ownsRow 0 4 1 (WV.getD j aH) 5 (cR (replicate 5 false))
 ap:YM (ny S hv kv wv (replicate m aH) WV)
 bl:Below w.heap.size w W
 ge:∀k∈cL S hv kv wv (replicate m aH) WV,w.heap.size<=k
section
variable {w W W':World} {S:Nat} {c0 hv kv wv:Value} {WV:List Value} {lp bd:Bool} {hd:List Bool} {m i:Nat}
theorem pM.wl(h:pM w W S c0 hv kv wv WV lp hd bd m i):WV.length=m:=by have:=h.wr.1;omega
theorem pM.of_eq(h:pM w W S c0 hv kv wv WV lp hd bd m i)(Zw:i<=m)(he:∀k∈cL S hv kv wv (replicate m aH) WV,W'.heap[k]?=W.heap[k]?)(hb:Below w.heap.size w W'):pM w W' S c0 hv kv wv WV lp hd bd m i:=by
 have hw:=h.wl;exact⟨h.bs.of_eq (he S fL),h.hl,ae h.hr (λk hk=>he k (bJ (i:=1) (congrArg some hk))),ae h.kr (λk hk=>he k (bJ (i:=2) (congrArg some hk))),ae h.wr (λk hk=>he k (bJ (i:=3) (congrArg some hk))),λj hj=>ae (h.we j hj) (λk hk=>he k (bJ ((yR (by omega)).trans (congrArg some hk)))),h.ap,hb,h.ge⟩
theorem pM.lt(h:pM w W S c0 hv kv wv WV lp hd bd m i)(hn:∀j,i<=j->WV.getD j aH=aH):∀k∈cL S hv kv wv (replicate m aH) WV,k<W.heap.size:=by
 intro k hk;obtain⟨p,hp⟩:=aU.1 hk;rcases M9 hp with⟨-,rfl⟩|⟨-,e⟩|⟨-,e⟩|⟨-,e⟩|⟨j,hj,-,e⟩|⟨j,hj,-,e⟩
 .exact h.bs.lt
 .exact(h.hr.lt k e).2
 .exact(h.kr.lt k e).2
 .exact(h.wr.lt k e).2
 .have:(replicate m aH).getD j aH=aH:=by rw[length_replicate]at hj;simp[hj]
  rw[this]at e;cases e
 .by_cases hji:j<i
  .exact((h.we j hji).lt k e).2
  .rw[hn j (by omega)]at e;cases e
theorem pM.below(h:pM w W S c0 hv kv wv WV lp hd bd m i)(Zw:i<=m)(hn:∀j,i<=j->WV.getD j aH=aH)(hb:Below W.heap.size W W'):pM w W' S c0 hv kv wv WV lp hd bd m i:=h.of_eq Zw (λk hk=>hb.block k (h.lt hn k hk)) (h.bl.trans (hb.mono h.bl.size))
theorem pM.row(h:pM w W S c0 hv kv wv WV lp hd bd m i)(Zw:i<m)(hn:∀j,i<=j->WV.getD j aH=aH){o:Obj}(ho:o=.cells (madeCells #[Value.bool false] 5) 4){wB wC:Nat}(O5:wv=.slice (some ⟨wB,0,none⟩) m wC):
  pM w ((W.alloc o).setCell ⟨wB,i,none⟩ (.slice (some ⟨W.heap.size,0,none⟩) 5 5)) S c0 hv kv wv (WV.set i (.slice (some ⟨W.heap.size,0,none⟩) 5 5)) lp hd bd m (i+1)/\∀j,i+1<=j->(WV.set i (.slice (some ⟨W.heap.size,0,none⟩) 5 5)).getD j aH=aH:=by
 have hw:=h.wl;have bB:=ah W o;have h1:=h.below (Nat.le_of_lt Zw) hn bB;have ar:=h.lt hn;have lu:W.heap.size<(W.alloc o).heap.size:=by simp
 have hwB:(ny S hv kv wv (replicate m aH) WV)[3]?=some (some wB):=by rw[O5];rfl
 have hwBl:=ar wB (bJ hwB);have hwBg:=h.ge wB (bJ hwB);obtain⟨v,hv0⟩:∃v,v=Value.slice (some ⟨W.heap.size,0,none⟩) 5 5:=⟨_,rfl⟩;have QY:v.ownBlock=some W.heap.size:=by rw[hv0];rfl
 rw[<-hv0];have aY:∀p k,p≠3->(ny S hv kv wv (replicate m aH) WV)[p]?=some (some k)->((W.alloc o).setCell ⟨wB,i,none⟩ v).heap[k]?=(W.alloc o).heap[k]?:=λp k hp hk=>heap_setCell _ _ _ _ (λe=>hp (h.ap p 3 k hk (by rw[hwB,show k=wB from e])));have cW:∀j,j≠i->(WV.set i v).getD j aH=WV.getD j aH:=λj hj=>by rw[getD_eq_getElem?_getD,getElem?_set_ne (λe=>hj e.symm),<-getD_eq_getElem?_getD]
 have rm:∀k,W.heap.size=k->∀p,(ny S hv kv wv (replicate m aH) WV)[p]?≠some (some k):=λk hk p hp=>by have:=ar k (bJ hp);omega
 refine⟨⟨h1.bs.of_eq (aY 0 S (by omega) rfl),h.hl,ae h1.hr (λk hk=>aY 1 k (by omega) (congrArg some hk)),ae h1.kr (λk hk=>aY 2 k (by omega) (congrArg some hk)),?_,λj hj=>?_,?_,h1.bl.setCell (p:=⟨wB,i,none⟩) hwBg _,λk hk=>?_⟩,λj hj=>by rw[cW j (by omega)];exact hn j (by omega)⟩
 .have:=h1.wr;rw[O5]at this ⊢;exact(this.stored i v).1
 .by_cases hji:j=i
  .subst hji;have e1:(WV.set j v).getD j aH=v:=(by rw[getD_eq_getElem?_getD,getElem?_set_self (by omega)];rfl);rw[e1,hv0];have h2:=ownsRow_lit (base:=0) (e:=4) (size:=1) W (madeCells #[Value.bool false] 5) 5 (zq5 _) (by simp[maxLen]) (by simp[madeCells]);rw[toList_madeCells_one,<-ho]at h2;exact ca h2 (p:=⟨wB,j,none⟩) (by show some W.heap.size≠some wB;intro e;injection e with e;omega) _
  .rw[cW j hji];refine ae (h1.we j (by omega)) (λk hk=>aY (4+((replicate m aH).length+j)) k (by omega) ((yR (by omega)).trans (congrArg some hk)))
 .rw[FY];refine h.ap.set _ (λk hk=>zq1 (rm k ?_));rw[QY]at hk;injection hk
 .obtain⟨p,hp⟩:=aU.1 hk;rw[FY,getElem?_set]at hp;split at hp
  .split at hp
   .simp only[Option.some.injEq]at hp;rw[QY]at hp;injection hp with hp;rw[<-hp];exact h.bl.size
   .simp at hp
  .exact h.ge k (bJ hp)
theorem pM.head(h:pM w W S c0 hv kv wv WV lp hd bd m i)(Zw:i<=m){n hB hC:Nat}(hhv:hv=.slice (some ⟨hB,0,none⟩) m hC):pM w (W.setCell ⟨hB,n,none⟩ (.bool true)) S c0 hv kv wv WV lp (hd.set n true) bd m i:=by
 have hw:=h.wl;have hhB:(ny S hv kv wv (replicate m aH) WV)[1]?=some (some hB):=by rw[hhv];rfl
 have aY:∀p k,p≠1->(ny S hv kv wv (replicate m aH) WV)[p]?=some (some k)->(W.setCell ⟨hB,n,none⟩ (.bool true)).heap[k]?=W.heap[k]?:=λp k hp hk=>heap_setCell _ _ _ _ (λe=>hp (h.ap p 1 k hk (by rw[hhB,show k=hB from e])));refine⟨h.bs.of_eq (aY 0 S (by omega) rfl),by rw[length_set];exact h.hl,?_,ae h.kr (λk hk=>aY 2 k (by omega) (congrArg some hk)),ae h.wr (λk hk=>aY 3 k (by omega) (congrArg some hk)),λj hj=>ae (h.we j hj) (λk hk=>aY _ k (by omega) ((yR (by omega)).trans (congrArg some hk))),h.ap,h.bl.setCell (p:=⟨hB,n,none⟩) (h.ge hB (bJ hhB)) _,h.ge⟩;have:=h.hr;rw[hhv]at this ⊢;have h2:=(this.stored n (.bool true)).1;have e:(cR hd).set n (.bool true)=cR (hd.set n true):=by unfold cR;rw[map_set]
 rw[e]at h2;exact h2
theorem pM.loop(h:pM w W S c0 hv kv wv WV lp hd bd m i)(Zw:i<=m):pM w (W.setCell ⟨S,2,none⟩ (.bool true)) S c0 hv kv wv WV true hd bd m i:=by
 have hw:=h.wl;have aY:∀p k,p≠0->(ny S hv kv wv (replicate m aH) WV)[p]?=some (some k)->(W.setCell ⟨S,2,none⟩ (.bool true)).heap[k]?=W.heap[k]?:=λp k hp hk=>heap_setCell _ _ _ _ (λe=>hp (h.ap p 0 k hk (by rw[show k=S from e];rfl)));exact⟨h.bs.set 2 (.bool true),h.hl,ae h.hr (λk hk=>aY 1 k (by omega) (congrArg some hk)),ae h.kr (λk hk=>aY 2 k (by omega) (congrArg some hk)),ae h.wr (λk hk=>aY 3 k (by omega) (congrArg some hk)),λj hj=>ae (h.we j hj) (λk hk=>aY _ k (by omega) ((yR (by omega)).trans (congrArg some hk))),h.ap,h.bl.setCell (p:=⟨S,2,none⟩) (h.ge S fL) _,h.ge⟩
end
