import Derived.Test.YtciihepbeacppaaGreatM15
set_option maxRecDepth 100000
set_option maxHeartbeats 0
namespace Go.Proofs.YtciihepbeacppaaGreat
open Tryz Go.RowKit List World Below
set_option linter.unusedVariables false
def mX(v:Value)(L:List FE)(j:Nat):List Nat:=v.ownBlock.toList++(L.drop j).flatMap FE.bs
structure gm(W:World)(B:Nat)(v:Value)(L:List FE)(j:Nat):Prop where
 row:W.ownsRow B 126 1 v L.length (L.map FE.p)
 fm:∀x∈L.drop j,Fm W x.A x.f x.av x.ov
 ge:∀x∈L.drop j,∀k∈x.bs,B<=k
 nd:(mX v L j).Nodup
section
variable {W W':World} {B j:Nat} {v:Value} {L:List FE}
theorem Fl.pend(h:Fl W B v L):gm W B v L 0:=⟨h.row,by simpa using h.fm,by simpa using h.ge,by simpa[mX,be] using h.nd⟩
theorem gm.lt(h:gm W B v L j):∀k∈mX v L j,k<W.heap.size:=by
 intro k hk;rcases mem_append.1 hk with hk|hk
 .exact(h.row.lt k (by simpa using hk)).2
 .obtain⟨x,hx,hk⟩:=mem_flatMap.1 hk;exact(h.fm x hx).lt k hk
theorem gm.geB(h:gm W B v L j):∀k∈mX v L j,B<=k:=by
 intro k hk;rcases mem_append.1 hk with hk|hk
 .exact(h.row.lt k (by simpa using hk)).1
 .obtain⟨x,hx,hk⟩:=mem_flatMap.1 hk;exact h.ge x hx k hk
theorem gm.of_eq(h:gm W B v L j)(he:∀k∈mX v L j,W'.heap[k]?=W.heap[k]?):gm W' B v L j :=
 ⟨ae h.row (λk hk=>he k (mem_append_left _ (by simpa using hk))),λx hx=>(h.fm x hx).of_eq (λk hk=>he k (mem_append_right _ (mem_flatMap.2 ⟨x,hx,hk⟩))),h.ge,h.nd⟩
theorem gm.stp{F F':List Nat}(h:gm W B v L j)(hs:ar F W F' W')(hd:∀k∈mX v L j,k ∉ F):gm W' B v L j:=h.of_eq (λk hk=>hs.block k (h.lt k hk) (hd k hk))
theorem gm.below(h:gm W B v L j)(hb:Below W.heap.size W W'):gm W' B v L j:=h.of_eq (λk hk=>hb.block k (h.lt k hk))
theorem gm.next(h:gm W B v L j)(hj:j<L.length):Fm W L[j].A L[j].f L[j].av L[j].ov/\(∀k∈L[j].bs,B<=k)/\gm W B v L (j+1)/\(∀k∈mX v L (j+1),k∈mX v L j/\k ∉ L[j].bs)/\(∀k∈L[j].bs,k∈mX v L j):=by
 have e:L.drop j=L[j]::L.drop (j+1):=drop_eq_getElem_cons hj;have hm:L[j]∈L.drop j:=by rw[e];exact mem_cons_self
 have PJ:∀x∈L.drop (j+1),x∈L.drop j:=λx hx=>by rw[e];exact mem_cons_of_mem _ hx
 have dF:=h.nd;unfold mX at dF;rw[e,flatMap_cons,nodup_append,nodup_append]at dF;obtain⟨n1,⟨n2,n3,n4⟩,n5⟩:=dF;refine⟨h.fm _ hm,h.ge _ hm,⟨h.row,λx hx=>h.fm x (PJ x hx),λx hx=>h.ge x (PJ x hx),?_⟩,λk hk=>?_,λk hk=>?_⟩
 .unfold mX;rw[nodup_append];exact⟨n1,n3,λa ha b hb=>n5 a ha b (mem_append_right _ hb)⟩
 .rcases mem_append.1 hk with hk|hk
  .exact⟨mem_append_left _ hk,λhn=>n5 k hk k (mem_append_left _ hn) rfl⟩
  .refine⟨mem_append_right _ ?_,λhn=>n4 k hn k hk rfl⟩;rw[e,flatMap_cons];exact mem_append_right _ hk
 .refine mem_append_right _ ?_;rw[e,flatMap_cons];exact mem_append_left _ hk
theorem gm.cell(h:gm W B v L j){i:Nat}(hi:i<L.length):∃g cap,v=.slice (some ⟨g,0,none⟩) L.length cap/\W.cell? ⟨g,i,none⟩=some L[i].p:=by
 obtain⟨g,cap,hv,-,-,-⟩:=b8 h.row (by omega);subst hv;refine⟨g,cap,rfl,?_⟩;have:=h.row.cellAt i (by omega);rw[this];simp[hi]
end
theorem wQ{α:Type}(g:α->Nat->α)(a:α)(n:Nat):(range (n+1)).foldl g a=g ((range n).foldl g a) n:=by
 rw[range_succ,foldl_append];rfl
theorem xu{α β:Type}(g:α->β->α)(a:α){l:List β}{j:Nat}(hj:j<l.length):(l.take (j+1)).foldl g a=g ((l.take j).foldl g a) l[j]:=by
 rw[take_add_one,getElem?_eq_getElem hj,foldl_append];rfl
structure Ol(w W:World)(O:Nat)(nv tv:Value)(nu da fu:Bool)(A:Nat)(f:CF)(av ov:Value)(lv:Value)(L:List FE):Prop where
 fl:Fl W w.heap.size lv L
 bo:Bk W O 280 [nv,tv,.bool nu,.bool da,.bool fu]
 ff:eP W A f av ov
 st:ar [O] w (O::be lv L) W
 ol:O<w.heap.size
 of:O ∉ aG A av ov
 fw:∀k∈aG A av ov,k<w.heap.size
section
variable {w W W':World} {O A:Nat} {nv tv:Value} {nu da fu:Bool} {f:CF} {av ov lv:Value} {L:List FE}
theorem Ol.below(h:Ol w W O nv tv nu da fu A f av ov lv L)(hb:Below W.heap.size W W'):Ol w W' O nv tv nu da fu A f av ov lv L :=
 ⟨h.fl.below hb,h.bo.below hb,h.ff.below hb,⟨hb.os.trans h.st.os,hb.tape.trans h.st.tape,hb.output.trans h.st.output,zq3 h.st.size hb.size,λk hk hn=>(hb.block k (zq6 hk h.st.size)).trans (h.st.block k hk hn),h.st.foot⟩,h.ol,h.of,h.fw⟩
theorem Ol.ne(h:Ol w W O nv tv nu da fu A f av ov lv L):∀k∈be lv L,k≠O/\k ∉ aG A av ov:=λk hk=>⟨λe=>by have:=h.fl.geB k hk;have:=h.ol;omega,λhn=>by have:=h.fl.geB k hk;have:=h.fw k hn;omega⟩
theorem Ol.after{x:FE}{lv':Value}{L':List FE}{fu':Bool}(h:Ol w W O nv tv nu da fu A f av ov lv L)(hx:∀k∈x.bs,w.heap.size<=k)(h1:Fl W' w.heap.size lv' L')(h2:Bk W' O 280 [nv,tv,.bool nu,.bool da,.bool fu'])(hs:ar (O::(be lv L++x.bs)) W (O::be lv' L') W'):Ol w W' O nv tv nu da fu' A f av ov lv' L':=by
 refine⟨h1,h2,h.ff.of_eq (λk hk=>hs.block k (h.ff.lt k hk) (λhn=>?_)),?_,h.ol,h.of,h.fw⟩
 .rcases mem_cons.1 hn with rfl|hn
  .exact h.of hk
  .rcases mem_append.1 hn with hn|hn
   .exact(h.ne k hn).2 hk
   .have:=hx k hn;have:=h.fw k hk;omega
 .refine⟨hs.os.trans h.st.os,hs.tape.trans h.st.tape,hs.output.trans h.st.output,zq3 h.st.size hs.size,λk hk hn=>?_,λk hk=>?_⟩
  .rw[hs.block k (zq6 hk h.st.size) (λhm=>?_)]
   .exact h.st.block k hk hn
   .rcases mem_cons.1 hm with rfl|hm
    .exact hn (by simp)
    .rcases mem_append.1 hm with hm|hm
     .have:=h.fl.geB k hm;omega
     .have:=hx k hm;omega
  .rcases mem_cons.1 hk with rfl|hk
   .exact zq0 (by simp)
   .exact zq1 (h1.geB k hk)
theorem sy{v:Nat}(hv:v<4)(EA:Bk w O 280 [nv,tv,.bool nu,.bool da,.bool fu])(h:eP w A f av ov)(hO:aj f)(ha:f.ap.length<=40000)(hof:O ∉ aG A av ov):
  Calls prog 257 #[.pointer (some ⟨O,0,none⟩),.pointer (some ⟨A,0,none⟩),.int .i64 v] w λe w'=>∃lv L,e=.returned lv/\Fl w' w.heap.size lv L/\L.map (·.f)=(cZ f v).1/\Bk w' O 280 [nv,tv,.bool (nu||(cZ f v).2.1),.bool (da||(cZ f v).2.2.1),.bool (fu||(cZ f v).2.2.2)]/\ar [O] w (O::be lv L) w':=by
 have iH:=hO.owLen;have x1:=h.cls (i:=1+v) (by omega);have x0:=h.cls (i:=0) (by omega);unfold gZ at x0 x1;have pq:cZ f v=if f.cl.getD (1+v) 0=f.cl.getD 0 0 then ([],true,false,false) else if (cD f.ow (f.cl.getD (1+v) 0)).isSome=true then ((gU f (f.cl.getD (1+v) 0)).1,false,false,(gU f (f.cl.getD (1+v) 0)).2) else (((range f.ow.length).foldl (λr i=>uB f v i r) ([],false)).1,!aV f (f.cl.getD (1+v) 0) (f.cl.getD 0 0),true,((range f.ow.length).foldl (λr i=>uB f v i r) ([],false)).2):=rfl
 have AA:=hO.get (1+v);obtain⟨c,hc⟩:∃c,c=f.cl.getD (1+v) 0:=⟨_,rfl⟩;obtain⟨n,hn⟩:∃n,n=f.cl.getD 0 0:=⟨_,rfl⟩;rw[<-hc]at x1 pq AA;rw[<-hn]at x0 pq;have i1:(0:Int)<=1+(v:Int):=by omega
 have i2:1+(v:Int)<5:=by omega
 have i3:(1+(v:Int)).toNat=1+v:=by omega
 have H:=ab h;have HO:=ab hO;have HBO:=ab EA;have HC:=ab hc;have Ta:=ab hof;have o2:=EA.cell 2 rfl;have o3:=EA.cell 3 rfl;have oz:=EA.frz;have HOL:=ab EA.lt;have mQ:=ab (cO c h);by_cases kD:c=n
 .have d0:((c:Int)==(n:Int))=true:=by simp[kD]
  have HE:Hid (cZ f v=([],true,false,false)):=ab (by rw[pq,if_pos kD]);have eO:=ab (EA.set 2 (.bool true));clear pq kD h hO EA hc hn hof;go_enter func257,ntmps257;go_wp2_with fail
  go_ret;refine⟨_,[],rfl,Fl.nil0 _ _,by rw[uh HE];rfl,?_,?_⟩
  .rw[uh HE];have:=uh eO;simpa using this
  .exact((ar.refl [O] w).setCell (p:=⟨O,2,none⟩) (zq0 (by simp)) _).foots (λk hk=>zq0 (by simpa[be,Value.ownBlock] using hk))
 .have d0:((c:Int)==(n:Int))=false:=by simp;omega
  rw[if_neg kD]at pq;have B6:=ab pq;have hg:=sD (cD f.ow c);cases hb:cD f.ow c with
  |some i =>
   rw[hb]at hg mQ B6;have HE:Hid (cZ f v=((gU f c).1,false,false,(gU f c).2)):=ab (by rw[uh B6];rfl);have kX:=ab (cP h hO.c5 ha (zq3 iH (by omega)));have HB:=ab hb;clear pq kD h hO EA hc hn B6 hb hof;go_enter func257,ntmps257;go_wp2_with fail
   refine(uh mQ).mono ?_;rintro e w1 ⟨rfl,rfl⟩;go_wp2_with fail
   refine(uh kX).mono ?_;rintro e w2 ⟨A2,rfl,C3⟩;obtain⟨av2,ov2,mJ⟩:=C3.frf;have Ek:=ab (rV (v:=.slice none 0 0) (L:=[]) (B:=w1.heap.size) (Fl.nil0 w2 _) ((uh HBO).below mJ.bw) mJ.fm (uh HO) ha (λk hk=>by simp[be,Value.ownBlock]at hk) (λhn=>by have h1:=mJ.ge _ hn;have h2:=uh HOL;omega) mJ.ge mJ.bw.size (uh HB) (by simp));have xZ:=ab mJ;clear C3 mJ kX;go_wp2_with fail
   refine(uh Ek).mono ?_;rintro e w3 ⟨v3,L3,rfl,m7,Di,Da,gi⟩;have aP:ar [O] w1 (O::be v3 L3) w3:=by
    have aW:=(uh xZ).bw;refine⟨gi.os.trans aW.os,gi.tape.trans aW.tape,gi.output.trans aW.output,zq3 aW.size gi.size,λk hk hn=>?_,λk hk=>?_⟩
    .rw[gi.block k (zq6 hk aW.size) (λhm=>?_)]
     .exact aW.block k hk
     .rcases mem_cons.1 hm with rfl|hm
      .exact hn (by simp)
      .rcases mem_append.1 hm with hm|hm
       .simp[be,Value.ownBlock]at hm
       .have:=(uh xZ).ge k hm;omega
    .rcases mem_cons.1 hk with rfl|hk
     .exact zq0 (by simp)
     .exact zq1 (m7.geB k hk)
   rw[nil_append]at m7;have HN:=ab (zq2 m7 (zq2 Di (zq2 Da aP)));clear m7 Di Da gi aP Ek xZ;go_wp2_with fail
   go_ret;refine⟨_,L3,rfl,(uh HN).1,by rw[uh HE];exact(uh HN).2.1,?_,(uh HN).2.2.2⟩;rw[uh HE];have:=(uh HN).2.2.1;simpa using this
  |none =>
   rw[hb]at hg mQ B6;have ad6:Hid (cZ f v=(((range f.ow.length).foldl (λr i=>uB f v i r) ([],false)).1,!aV f c n,true,((range f.ow.length).foldl (λr i=>uB f v i r) ([],false)).2)):=ab (by rw[uh B6];rfl);have Z4:=EA.set 3 (.bool true);have h8:eP (w.setCell ⟨O,3,none⟩ (.bool true)) A f av ov:=h.of_eq (λk hk=>heap_setCell _ _ _ _ (λe=>hof (by have e':k=O:=e;rw[<-e'];exact hk)));obtain⟨W8,ZX⟩:∃W8,W8=w.setCell ⟨O,3,none⟩ (.bool true):=⟨_,rfl⟩;have II:ar [O] w [O] W8:=(by rw[ZX];exact(ar.refl [O] w).setCell (p:=⟨O,3,none⟩) (zq0 (by simp)) _);rw[<-ZX]at Z4 h8;have Wx:=ab (l6 c n h8);have Tg:=ab (jV (N:=40000) hv hO ha);have HLT:=ab h.lt;have HBN:=ab hb;have HB8:=ab Z4;have H8:=ab h8;have WL:=ab II;clear pq kD h hO EA hc hn B6 hb hof Z4 h8 II;go_enter func257,ntmps257;go_wp2_with fail
   refine(uh mQ).mono ?_;rintro e w1 ⟨rfl,rfl⟩;go_upto_region 9 with fail;rw[<-ZX];clear ZX o2 o3 oz;go_wp2_with fail
   refine(uh Wx).mono ?_;rintro e w9 ⟨rfl,O0⟩;have afB:=(uh HB8).below O0;have h9:=(uh H8).below O0;have hs9:ar [O] w1 [O] w9:=⟨O0.os.trans (uh WL).os,O0.tape.trans (uh WL).tape,O0.output.trans (uh WL).output,zq3 (uh WL).size O0.size,λk hk hn=>(O0.block k (zq6 hk (uh WL).size)).trans ((uh WL).block k hk hn),(uh WL).foot⟩;have J1:=ab afB;have H9:=ab h9;have HS9:=ab hs9;obtain⟨nb,Px⟩:∃nb,nb=(nu||!aV f c n):=⟨_,rfl⟩;have HNB:=ab Px;clear afB h9 hs9 O0 Wx HB8 H8 WL;cases yi:aV f c n
   .rw[yi]at Px;have o2:=(uh J1).cell 2 rfl;have oz:=(uh J1).frz 2;obtain⟨W10,qF⟩:∃W10,W10=w9.setCell ⟨O,2,none⟩ (.bool true):=⟨_,rfl⟩;have HW:Hid (Bk W10 O 280 [nv,tv,.bool nb,.bool true,.bool fu]/\eP W10 A f av ov/\ar [O] w1 [O] W10):=ab ⟨by
     have:=(uh J1).set 2 (.bool true);rw[qF,Px];simpa using this,by
     rw[qF];exact(uh H9).of_eq (λk hk=>heap_setCell _ _ _ _ (λe=>uh Ta (by have e':k=O:=e;rw[<-e'];exact hk))),by rw[qF];exact(uh HS9).setCell (p:=⟨O,2,none⟩) (zq0 (by simp)) _⟩
    clear Px yi J1 H9 HS9;go_upto_region 11 with fail;rw[<-qF];clear qF o2 oz;have FD:Ol w1 (W10.alloc (.cells #[] 126)) O nv tv nb true fu A f av ov (.slice (some ⟨W10.heap.size,0,none⟩) 0 0) []:=by
     obtain⟨q1,q2,q3⟩:=uh HW;have ce:=ah W10 (.cells #[] 126);refine⟨⟨?_,λx hx=>by simp at hx,λx hx=>by simp at hx,by simp[be,Value.ownBlock]⟩,q1.below ce,q2.below ce,?_,uh HOL,uh Ta,uh HLT⟩
     .have:=ownsRow_lit (base:=W10.heap.size) (e:=126) (size:=1) W10 #[] 0 (zq4 _) (by simp[maxLen]) rfl;exact dY this q3.size
     .refine(q3.trans (ar.ofBw ce)).foots (λk hk=>?_);rcases mem_cons.1 hk with rfl|hk
      .exact zq0 (by simp)
      .right;have e:k=W10.heap.size:=(by simpa[be,Value.ownBlock,eq_comm] using hk);rw[e];exact q3.size
    have cF:=ab FD;have hc6:=FD.ff.c6;clear FD HW;go_wp2_with fail
    go_loopg [9,10] f.ow.length (λgn lv iv wx=>∃(k:Nat) (L:List FE) (fu':Bool),k+gn=f.ow.length/\iv=.int .i64 k/\L.length<=4*k/\Hid (Ol w1 wx O nv tv nb true fu' A f av ov lv L/\L.map (·.f)=((range k).foldl (λr i=>uB f v i r) ([],false)).1/\fu'=(fu||((range k).foldl (λr i=>uB f v i r) ([],false)).2)))
    case atStart=>exact⟨0,[],fu,by omega,rfl,by simp,ab ⟨uh cF,rfl,by simp⟩⟩
    case round =>
     clear cF hc6;obtain⟨k,L,fu',gu,rfl,ZL,hI⟩:=hrel;obtain⟨G,hG⟩:∃G,G=gk:=⟨_,rfl⟩;obtain⟨R,hR⟩:∃R,R=(range k).foldl (λr i=>uB f v i r) (([]:List CF),false):=⟨_,rfl⟩;rw[<-hR]at hI;obtain⟨la,lc,it,-,-⟩:=am (uh hI).1.fl.row;subst it;have c6:=(uh hI).1.ff.c6;obtain⟨oa,oc,gw,-,-⟩:=am (uh hI).1.ff.ow;rw[gw]at c6;clear gw;by_cases au:k<f.ow.length
     .have hd:decide ((k:Int)<(f.ow.length:Int))=true:=(by simp;omega);have aP:(range (k+1)).foldl (λr i=>uB f v i r) (([]:List CF),false)=(eM f c k).foldl (λr g=>Cf r g (g.cl.getD (1+v) 0)) R:=by
       rw[wQ,<-hR,uh HC];rfl
      have dh:=ab aP;have B5:=ab (Gn (uh hI).1.ff (uh HO) ha AA au);have Ss:=q8 f c k;have HMk:=ab (Bn (N:=40000) hv (uh HO) ha (by rw[<-uh HC];exact uh HBN) au);rw[<-uh HC]at HMk;have i4:(0:Int)<=(k:Int):=(by omega);clear aP hR;go_wp2_with fail
      refine(uh B5).mono ?_;rintro e w2 ⟨v2,L2,rfl,Df,tb,aW⟩;have OQ:=(uh hI).1.below aW;have OS:=Df.pend;have ZI:L2.length=(eM f c k).length:=(by rw[<-tb,length_map]);have Xs:∀x∈mX v2 L2 0,x ∉ be (.slice la L.length lc) L:=λx hx hn=>by
       have h1:=OS.geB x hx;have h2:=(uh hI).1.fl.lt x hn;omega
      have hwB:w1.heap.size<=wr.heap.size:=(uh hI).1.st.size;obtain⟨B2,C1⟩:∃B2,B2=wr.heap.size:=⟨_,rfl⟩;rw[<-C1]at OS hwB;obtain⟨a2,c2,AJ,-,-⟩:=am OS.row;subst AJ;have oO:=ab (zq2 OQ (zq2 OS (zq2 Xs (zq2 (uh hI).2.1 (uh hI).2.2))));have EX:=ab tb;have ae7:L2.length<=2:=(by omega);clear Df tb aW OQ OS Xs hI B5 C1 c6 ZI Ss;go_wp2_with fail
      go_loopg [9,66] L2.length (λgn lv iv wx=>∃(j:Nat) (La:List FE) (fv:Bool),j+gn=L2.length/\iv=.int .i64 j/\La.length<=4*k+2*j/\Hid (Ol w1 wx O nv tv nb true fv A f av ov lv La/\gm wx B2 (.slice a2 L2.length c2) L2 j/\(∀x∈mX (.slice a2 L2.length c2) L2 j,x ∉ be lv La)/\La.map (·.f)=(((eM f c k).take j).foldl (λr g=>Cf r g (g.cl.getD (1+v) 0)) R).1/\fv=(fu||(((eM f c k).take j).foldl (λr g=>Cf r g (g.cl.getD (1+v) 0)) R).2)))
      case atStart=>exact⟨0,L,fu',by omega,rfl,by omega,oO⟩
      case round =>
       clear oO;obtain⟨j,La,fv,Co,rfl,ZK,hJ⟩:=hrel;obtain⟨G2,FB⟩:∃G2,G2=gk:=⟨_,rfl⟩;by_cases fT:j<L2.length
       .have kY:decide ((j:Int)<(L2.length:Int))=true:=(by simp;omega);obtain⟨g2,cap2,db,ax⟩:=(uh hJ).2.1.cell fT;simp only[Value.slice.injEq,true_and]at db;obtain⟨rfl,rfl⟩:=db;obtain⟨hx,hxB,Ck,OU,FF⟩:=(uh hJ).2.1.next fT;have s9:j<(eM f c k).length:=(by rw[<-uh EX,length_map];exact fT);have hfx:L2[j].f=(eM f c k)[j]:=by
         have:=congrArg (λl=>l[j]?) (uh EX);simp only[getElem?_map,getElem?_eq_getElem fT,getElem?_eq_getElem s9,Option.map_some,Option.some.injEq]at this;exact this
        have bm:=uh HMk L2[j].f (by rw[hfx];exact getElem_mem s9);have rI:=xu (λr g=>Cf r g (g.cl.getD (1+v) 0)) R s9;rw[<-hfx]at rI;obtain⟨x,tO⟩:∃x,x=L2[j]:=⟨_,rfl⟩;rw[<-tO]at ax hx hxB OU FF bm rI;obtain⟨i',lR⟩:=Option.isSome_iff_exists.1 bm.bg;have FC:=(uh hJ).1;have UR:∀y∈x.bs,w1.heap.size<=y:=λy hy=>zq3 hwB (hxB y hy);obtain⟨lva,lvc,FT,-,-⟩:=am FC.fl.row;subst FT;have Ek:=ab (rV FC.fl FC.bo hx bm.ok bm.ln (λy hy=>⟨(FC.ne y hy).1,λhn=>(uh hJ).2.2.1 y (FF y hn) hy⟩) (λhn=>by have h1:=UR _ hn;have h2:=FC.ol;omega) UR FC.st.size lR (by omega));have xc:=hx.is.cls (i:=1+v) (by omega);unfold gZ at xc;obtain⟨cx,xO⟩:∃cx,cx=x.f.cl.getD (1+v) 0:=⟨_,rfl⟩;rw[<-xO]at xc Ek rI;have x9:=ab rI;have MQ:=ab Ck;have MP:=ab OU;have HWG:=ab UR;have AM:x.p=.pointer (some ⟨x.A,0,none⟩):=rfl;rw[AM]at ax;have i5:(0:Int)<=(j:Int):=(by omega);have i6:(j:Int)<(L2.length:Int):=(by omega);have HJ:=ab (uh hJ);clear hx hxB Ck OU FF s9 hfx bm rI tO lR FC UR xO AM hJ;go_wp2_with fail
        refine(uh Ek).mono ?_;rintro e w3 ⟨v3,L3,rfl,m7,Di,Da,gi⟩;have OR:=(uh HJ).1.after (uh HWG) m7 Da gi;have KE:gm w3 B2 (.slice (some ⟨g2,0,none⟩) L2.length c2) L2 (j+1):=(uh MQ).stp gi (λy hy hn=>by
         rcases mem_cons.1 hn with rfl|hn
         .have h1:=(uh MQ).geB _ hy;have h2:=(uh HJ).1.ol;omega
         .rcases mem_append.1 hn with hn|hn
          .exact(uh HJ).2.2.1 y (uh MP y hy).1 hn
          .exact(uh MP y hy).2 hn)
        have Kz:∀y∈mX (.slice (some ⟨g2,0,none⟩) L2.length c2) L2 (j+1),y ∉ be v3 (La++L3):=λy hy hn=>by
         rcases gi.foot y (mem_cons_of_mem _ hn) with q|q
         .rcases mem_cons.1 q with rfl|q
          .have h1:=(uh MQ).geB _ hy;have h2:=(uh HJ).1.ol;omega
          .rcases mem_append.1 q with q|q
           .exact(uh HJ).2.2.1 y (uh MP y hy).1 q
           .exact(uh MP y hy).2 q
         .have:=(uh MQ).lt y hy;omega
        have Pp:L3.length<=2:=by
         have:=ue x.f cx;rw[<-Di,length_map]at this;exact this
        have Ci:(La++L3).map (·.f)=(((eM f c k).take (j+1)).foldl (λr g=>Cf r g (g.cl.getD (1+v) 0)) R).1:=by
         rw[uh x9,map_append,(uh HJ).2.2.2.1,Di];rfl
        have OM:(fv||(gU x.f cx).2)=(fu||(((eM f c k).take (j+1)).foldl (λr g=>Cf r g (g.cl.getD (1+v) 0)) R).2):=by
         rw[uh x9,(uh HJ).2.2.2.2,Bool.or_assoc];rfl
        obtain⟨a3,c3,hv3,-,-⟩:=am m7.row;subst hv3;have HN:=ab (zq2 OR (zq2 KE (zq2 Kz (zq2 Ci OM))));have yo:(La++L3).length<=4*k+2*(j+1):=(by rw[length_append];omega);clear m7 Di Da gi OR KE Kz Ci OM Ek HJ MQ MP HWG x9 ax xc;go_wp2_with fail
        go_roundg (G2-1)
        case rel=>exact⟨j+1,La++L3,_,by omega,by go_num,yo,ab (by have h:=uh HN;rw[length_append]at h;exact h)⟩
        case measure=>omega
       .have kY:decide ((j:Int)<(L2.length:Int))=false:=(by simp;omega);have s9:(eM f c k).length<=j:=(by rw[<-uh EX,length_map];omega);have hN:=uh hJ;rw[take_of_length_le s9,<-uh dh]at hN;have HN:=ab (zq2 hN.1 (zq2 hN.2.2.2.1 hN.2.2.2.2));have yo:La.length<=4*(k+1):=(by omega);obtain⟨lva,lvc,FT,-,-⟩:=am hN.1.fl.row;subst FT;clear hN hJ s9;go_wp2_with fail
        go_roundg (G-1)
        case rel=>exact⟨k+1,La,fv,by omega,by go_num,yo,HN⟩
        case measure=>omega
     .have hd:decide ((k:Int)<(f.ow.length:Int))=false:=(by simp;omega);have kE:k=f.ow.length:=(by omega);have HE:Hid (cZ f v=(R.1,!aV f c n,true,R.2)):=ab (by rw[uh ad6,hR,kE]);clear kE hR;go_wp2_with fail
      go_ret;refine⟨_,L,rfl,(uh hI).1.fl,by rw[uh HE];exact(uh hI).2.1,?_,(uh hI).1.st⟩;rw[uh HE];have h1:=(uh hI).1.bo;rw[uh HNB,(uh hI).2.2]at h1;simpa using h1
   .rw[yi]at Px;obtain⟨W10,qF⟩:∃W10,W10=w9:=⟨_,rfl⟩;have HW:Hid (Bk W10 O 280 [nv,tv,.bool nb,.bool true,.bool fu]/\eP W10 A f av ov/\ar [O] w1 [O] W10):=ab ⟨by
     rw[qF,Px];simpa using uh J1,by rw[qF];exact uh H9,by rw[qF];exact uh HS9⟩
    clear Px yi J1 H9 HS9;go_upto_region 11 with fail;rw[<-qF];clear qF;have FD:Ol w1 (W10.alloc (.cells #[] 126)) O nv tv nb true fu A f av ov (.slice (some ⟨W10.heap.size,0,none⟩) 0 0) []:=by
     obtain⟨q1,q2,q3⟩:=uh HW;have ce:=ah W10 (.cells #[] 126);refine⟨⟨?_,λx hx=>by simp at hx,λx hx=>by simp at hx,by simp[be,Value.ownBlock]⟩,q1.below ce,q2.below ce,?_,uh HOL,uh Ta,uh HLT⟩
     .have:=ownsRow_lit (base:=W10.heap.size) (e:=126) (size:=1) W10 #[] 0 (zq4 _) (by simp[maxLen]) rfl;exact dY this q3.size
     .refine(q3.trans (ar.ofBw ce)).foots (λk hk=>?_);rcases mem_cons.1 hk with rfl|hk
      .exact zq0 (by simp)
      .right;have e:k=W10.heap.size:=(by simpa[be,Value.ownBlock,eq_comm] using hk);rw[e];exact q3.size
    have cF:=ab FD;have hc6:=FD.ff.c6;clear FD HW;go_wp2_with fail
    go_loopg [9,10] f.ow.length (λgn lv iv wx=>∃(k:Nat) (L:List FE) (fu':Bool),k+gn=f.ow.length/\iv=.int .i64 k/\L.length<=4*k/\Hid (Ol w1 wx O nv tv nb true fu' A f av ov lv L/\L.map (·.f)=((range k).foldl (λr i=>uB f v i r) ([],false)).1/\fu'=(fu||((range k).foldl (λr i=>uB f v i r) ([],false)).2)))
    case atStart=>exact⟨0,[],fu,by omega,rfl,by simp,ab ⟨uh cF,rfl,by simp⟩⟩
    case round =>
     clear cF hc6;obtain⟨k,L,fu',gu,rfl,ZL,hI⟩:=hrel;obtain⟨G,hG⟩:∃G,G=gk:=⟨_,rfl⟩;obtain⟨R,hR⟩:∃R,R=(range k).foldl (λr i=>uB f v i r) (([]:List CF),false):=⟨_,rfl⟩;rw[<-hR]at hI;obtain⟨la,lc,it,-,-⟩:=am (uh hI).1.fl.row;subst it;have c6:=(uh hI).1.ff.c6;obtain⟨oa,oc,gw,-,-⟩:=am (uh hI).1.ff.ow;rw[gw]at c6;clear gw;by_cases au:k<f.ow.length
     .have hd:decide ((k:Int)<(f.ow.length:Int))=true:=(by simp;omega);have aP:(range (k+1)).foldl (λr i=>uB f v i r) (([]:List CF),false)=(eM f c k).foldl (λr g=>Cf r g (g.cl.getD (1+v) 0)) R:=by
       rw[wQ,<-hR,uh HC];rfl
      have dh:=ab aP;have B5:=ab (Gn (uh hI).1.ff (uh HO) ha AA au);have Ss:=q8 f c k;have HMk:=ab (Bn (N:=40000) hv (uh HO) ha (by rw[<-uh HC];exact uh HBN) au);rw[<-uh HC]at HMk;have i4:(0:Int)<=(k:Int):=(by omega);clear aP hR;go_wp2_with fail
      refine(uh B5).mono ?_;rintro e w2 ⟨v2,L2,rfl,Df,tb,aW⟩;have OQ:=(uh hI).1.below aW;have OS:=Df.pend;have ZI:L2.length=(eM f c k).length:=(by rw[<-tb,length_map]);have Xs:∀x∈mX v2 L2 0,x ∉ be (.slice la L.length lc) L:=λx hx hn=>by
       have h1:=OS.geB x hx;have h2:=(uh hI).1.fl.lt x hn;omega
      have hwB:w1.heap.size<=wr.heap.size:=(uh hI).1.st.size;obtain⟨B2,C1⟩:∃B2,B2=wr.heap.size:=⟨_,rfl⟩;rw[<-C1]at OS hwB;obtain⟨a2,c2,AJ,-,-⟩:=am OS.row;subst AJ;have oO:=ab (zq2 OQ (zq2 OS (zq2 Xs (zq2 (uh hI).2.1 (uh hI).2.2))));have EX:=ab tb;have ae7:L2.length<=2:=(by omega);clear Df tb aW OQ OS Xs hI B5 C1 c6 ZI Ss;go_wp2_with fail
      go_loopg [9,66] L2.length (λgn lv iv wx=>∃(j:Nat) (La:List FE) (fv:Bool),j+gn=L2.length/\iv=.int .i64 j/\La.length<=4*k+2*j/\Hid (Ol w1 wx O nv tv nb true fv A f av ov lv La/\gm wx B2 (.slice a2 L2.length c2) L2 j/\(∀x∈mX (.slice a2 L2.length c2) L2 j,x ∉ be lv La)/\La.map (·.f)=(((eM f c k).take j).foldl (λr g=>Cf r g (g.cl.getD (1+v) 0)) R).1/\fv=(fu||(((eM f c k).take j).foldl (λr g=>Cf r g (g.cl.getD (1+v) 0)) R).2)))
      case atStart=>exact⟨0,L,fu',by omega,rfl,by omega,oO⟩
      case round =>
       clear oO;obtain⟨j,La,fv,Co,rfl,ZK,hJ⟩:=hrel;obtain⟨G2,FB⟩:∃G2,G2=gk:=⟨_,rfl⟩;by_cases fT:j<L2.length
       .have kY:decide ((j:Int)<(L2.length:Int))=true:=(by simp;omega);obtain⟨g2,cap2,db,ax⟩:=(uh hJ).2.1.cell fT;simp only[Value.slice.injEq,true_and]at db;obtain⟨rfl,rfl⟩:=db;obtain⟨hx,hxB,Ck,OU,FF⟩:=(uh hJ).2.1.next fT;have s9:j<(eM f c k).length:=(by rw[<-uh EX,length_map];exact fT);have hfx:L2[j].f=(eM f c k)[j]:=by
         have:=congrArg (λl=>l[j]?) (uh EX);simp only[getElem?_map,getElem?_eq_getElem fT,getElem?_eq_getElem s9,Option.map_some,Option.some.injEq]at this;exact this
        have bm:=uh HMk L2[j].f (by rw[hfx];exact getElem_mem s9);have rI:=xu (λr g=>Cf r g (g.cl.getD (1+v) 0)) R s9;rw[<-hfx]at rI;obtain⟨x,tO⟩:∃x,x=L2[j]:=⟨_,rfl⟩;rw[<-tO]at ax hx hxB OU FF bm rI;obtain⟨i',lR⟩:=Option.isSome_iff_exists.1 bm.bg;have FC:=(uh hJ).1;have UR:∀y∈x.bs,w1.heap.size<=y:=λy hy=>zq3 hwB (hxB y hy);obtain⟨lva,lvc,FT,-,-⟩:=am FC.fl.row;subst FT;have Ek:=ab (rV FC.fl FC.bo hx bm.ok bm.ln (λy hy=>⟨(FC.ne y hy).1,λhn=>(uh hJ).2.2.1 y (FF y hn) hy⟩) (λhn=>by have h1:=UR _ hn;have h2:=FC.ol;omega) UR FC.st.size lR (by omega));have xc:=hx.is.cls (i:=1+v) (by omega);unfold gZ at xc;obtain⟨cx,xO⟩:∃cx,cx=x.f.cl.getD (1+v) 0:=⟨_,rfl⟩;rw[<-xO]at xc Ek rI;have x9:=ab rI;have MQ:=ab Ck;have MP:=ab OU;have HWG:=ab UR;have AM:x.p=.pointer (some ⟨x.A,0,none⟩):=rfl;rw[AM]at ax;have i5:(0:Int)<=(j:Int):=(by omega);have i6:(j:Int)<(L2.length:Int):=(by omega);have HJ:=ab (uh hJ);clear hx hxB Ck OU FF s9 hfx bm rI tO lR FC UR xO AM hJ;go_wp2_with fail
        refine(uh Ek).mono ?_;rintro e w3 ⟨v3,L3,rfl,m7,Di,Da,gi⟩;have OR:=(uh HJ).1.after (uh HWG) m7 Da gi;have KE:gm w3 B2 (.slice (some ⟨g2,0,none⟩) L2.length c2) L2 (j+1):=(uh MQ).stp gi (λy hy hn=>by
         rcases mem_cons.1 hn with rfl|hn
         .have h1:=(uh MQ).geB _ hy;have h2:=(uh HJ).1.ol;omega
         .rcases mem_append.1 hn with hn|hn
          .exact(uh HJ).2.2.1 y (uh MP y hy).1 hn
          .exact(uh MP y hy).2 hn)
        have Kz:∀y∈mX (.slice (some ⟨g2,0,none⟩) L2.length c2) L2 (j+1),y ∉ be v3 (La++L3):=λy hy hn=>by
         rcases gi.foot y (mem_cons_of_mem _ hn) with q|q
         .rcases mem_cons.1 q with rfl|q
          .have h1:=(uh MQ).geB _ hy;have h2:=(uh HJ).1.ol;omega
          .rcases mem_append.1 q with q|q
           .exact(uh HJ).2.2.1 y (uh MP y hy).1 q
           .exact(uh MP y hy).2 q
         .have:=(uh MQ).lt y hy;omega
        have Pp:L3.length<=2:=by
         have:=ue x.f cx;rw[<-Di,length_map]at this;exact this
        have Ci:(La++L3).map (·.f)=(((eM f c k).take (j+1)).foldl (λr g=>Cf r g (g.cl.getD (1+v) 0)) R).1:=by
         rw[uh x9,map_append,(uh HJ).2.2.2.1,Di];rfl
        have OM:(fv||(gU x.f cx).2)=(fu||(((eM f c k).take (j+1)).foldl (λr g=>Cf r g (g.cl.getD (1+v) 0)) R).2):=by
         rw[uh x9,(uh HJ).2.2.2.2,Bool.or_assoc];rfl
        obtain⟨a3,c3,hv3,-,-⟩:=am m7.row;subst hv3;have HN:=ab (zq2 OR (zq2 KE (zq2 Kz (zq2 Ci OM))));have yo:(La++L3).length<=4*k+2*(j+1):=(by rw[length_append];omega);clear m7 Di Da gi OR KE Kz Ci OM Ek HJ MQ MP HWG x9 ax xc;go_wp2_with fail
        go_roundg (G2-1)
        case rel=>exact⟨j+1,La++L3,_,by omega,by go_num,yo,ab (by have h:=uh HN;rw[length_append]at h;exact h)⟩
        case measure=>omega
       .have kY:decide ((j:Int)<(L2.length:Int))=false:=(by simp;omega);have s9:(eM f c k).length<=j:=(by rw[<-uh EX,length_map];omega);have hN:=uh hJ;rw[take_of_length_le s9,<-uh dh]at hN;have HN:=ab (zq2 hN.1 (zq2 hN.2.2.2.1 hN.2.2.2.2));have yo:La.length<=4*(k+1):=(by omega);obtain⟨lva,lvc,FT,-,-⟩:=am hN.1.fl.row;subst FT;clear hN hJ s9;go_wp2_with fail
        go_roundg (G-1)
        case rel=>exact⟨k+1,La,fv,by omega,by go_num,yo,HN⟩
        case measure=>omega
     .have hd:decide ((k:Int)<(f.ow.length:Int))=false:=(by simp;omega);have kE:k=f.ow.length:=(by omega);have HE:Hid (cZ f v=(R.1,!aV f c n,true,R.2)):=ab (by rw[uh ad6,hR,kE]);clear kE hR;go_wp2_with fail
      go_ret;refine⟨_,L,rfl,(uh hI).1.fl,by rw[uh HE];exact(uh hI).2.1,?_,(uh hI).1.st⟩;rw[uh HE];have h1:=(uh hI).1.bo;rw[uh HNB,(uh hI).2.2]at h1;simpa using h1
end
structure Os(w W:World)(O A:Nat)(f:CF)(av ov:Value)(nu da fu:Bool)(nv tv:Value)(Ln Lt:List FE):Prop where
 oo:Oo W O nu da fu nv tv Ln Lt
 ff:eP W A f av ov
 st:ar [O] w (eQ O nv tv Ln Lt) W
 ol:O<w.heap.size
 of:O ∉ aG A av ov
 fw:∀k∈aG A av ov,k<w.heap.size
def pF(w:World)(O:Nat)(o:MV)(w':World):Prop:=∃nv tv Ln Lt,Oo w' O o.nu o.da o.fu nv tv Ln Lt/\Ln.map (·.f)=o.nx/\Lt.map (·.f)=o.ot/\ar [O] w (eQ O nv tv Ln Lt) w'
section
variable {w W W':World} {O A:Nat} {f:CF} {av ov nv tv:Value} {nu da fu:Bool} {Ln Lt:List FE}
theorem Os.start(h:Oo w O nu da fu nv tv Ln Lt)(hf:eP w A f av ov)(hn:eQ O nv tv Ln Lt=[O])(hof:O ∉ aG A av ov):Os w w O A f av ov nu da fu nv tv Ln Lt:=⟨h,hf,(ar.refl [O] w).foots (λk hk=>by rw[hn]at hk;exact zq0 hk),h.bk.lt,hof,hf.lt⟩
theorem Os.ge(h:Os w W O A f av ov nu da fu nv tv Ln Lt):∀k∈eQ O nv tv Ln Lt,k=O\/w.heap.size<=k:=λk hk=>by
 rcases h.st.foot k hk with q|q
 .exact zq0 (by simpa using q)
 .exact zq1 q
theorem Os.below(h:Os w W O A f av ov nu da fu nv tv Ln Lt)(hb:Below W.heap.size W W'):Os w W' O A f av ov nu da fu nv tv Ln Lt :=
 ⟨h.oo.below hb,h.ff.below hb,⟨hb.os.trans h.st.os,hb.tape.trans h.st.tape,hb.output.trans h.st.output,zq3 h.st.size hb.size,λk hk hn=>(hb.block k (zq6 hk h.st.size)).trans (h.st.block k hk hn),h.st.foot⟩,h.ol,h.of,h.fw⟩
theorem Os.fresh(h:Os w W O A f av ov nu da fu nv tv Ln Lt){x:FE}(hx:∀k∈x.bs,W.heap.size<=k):∀k∈x.bs,k ∉ eQ O nv tv Ln Lt:=λk hk hn=>by have:=hx k hk;have:=h.oo.lt k hn;omega
theorem Os.next{B:List Nat}{nv' tv':Value}{Ln' Lt':List FE}{nu' da' fu':Bool}(h:Os w W O A f av ov nu da fu nv tv Ln Lt)(hB:∀k∈B,w.heap.size<=k)(h1:Oo W' O nu' da' fu' nv' tv' Ln' Lt')(hs:ar (eQ O nv tv Ln Lt++B) W (eQ O nv' tv' Ln' Lt') W'):Os w W' O A f av ov nu' da' fu' nv' tv' Ln' Lt':=by
 have key:∀k,k<w.heap.size->k≠O->k ∉ eQ O nv tv Ln Lt++B:=λk hk aH hn=>by
  rcases mem_append.1 hn with hn|hn
  .rcases h.ge k hn with q|q
   .exact aH q
   .omega
  .have:=hB k hn;omega
 refine⟨h1,h.ff.of_eq (λk hk=>hs.block k (h.ff.lt k hk) (key k (h.fw k hk) (λe=>h.of (by rw[<-e];exact hk)))),⟨hs.os.trans h.st.os,hs.tape.trans h.st.tape,hs.output.trans h.st.output,zq3 h.st.size hs.size,λk hk hn=>?_,λk hk=>?_⟩,h.ol,h.of,h.fw⟩
 .exact(hs.block k (zq6 hk h.st.size) (key k hk (by simpa using hn))).trans (h.st.block k hk hn)
 .rcases hs.foot k hk with q|q
  .rcases mem_append.1 q with q|q
   .exact h.st.foot k q
   .exact zq1 (hB k q)
  .exact zq1 (zq3 h.st.size q)
theorem Os.out{o:MV}(h:Os w W O A f av ov o.nu o.da o.fu nv tv Ln Lt)(h1:Ln.map (·.f)=o.nx)(h2:Lt.map (·.f)=o.ot):pF w O o W:=⟨nv,tv,Ln,Lt,h.oo,h1,h2,h.st⟩
theorem E8{v c:Nat}(h:Os w w O A f av ov false false false (.slice none 0 0) (.slice none 0 0) [] [])(hO:aj f)(ha:f.ap.length<=40000)(hv:v<4)(hc:c<24):
  Calls prog 235 #[.pointer (some ⟨O,0,none⟩),.pointer (some ⟨A,0,none⟩),.int .i64 v,.int .i64 c] w λe w'=>e=.returned (.tuple #[])/\pF w O ⟨[aQ (setC f (1+v) c)],[],false,false,false⟩ w':=by
 have iH:=hO.owLen;have kX:=ab (cP h.ff hO.c5 ha (zq3 iH (by omega)));have H:=ab h;have HO:=ab hO;have i1:(0:Int)<=1+(v:Int):=by omega
 have i2:1+(v:Int)<5:=by omega
 have i3:(1+(v:Int)).toNat=1+v:=by omega
 clear h hO;go_enter func235,ntmps235;go_wp2_with fail
 refine(uh kX).mono ?_;rintro e w1 ⟨A1,rfl,rH⟩;obtain⟨av1,ov1,Uy⟩:=rH.frf;have x1:=Uy.fm.is.cls (i:=1+v) (by omega);have z1:=ownsRow.frozenAt Uy.fm.is.ob (1+v);have pp:=Uy.fm.setCl (1+v) c (by omega);obtain⟨w2,tj⟩:∃w2,w2=w1.setCell ⟨A1,1+v,none⟩ (.int .i64 (c:Int)):=⟨_,rfl⟩;rw[<-tj]at pp;have gS:ar (aG A1 av1 ov1) w1 (aG A1 av1 ov1) w2:=by rw[tj];exact(ar.refl _ _).setCell (p:=⟨A1,1+v,none⟩) (zq0 (by simp[aG])) _
 have mJ:=Uy.step (x':=⟨A1,setC f (1+v) c,av1,ov1⟩) pp gS;have ZO:=(uh H).below mJ.bw;have rK:=ab (iD ZO.oo mJ.fm ((uh HO).sC (1+v) hc) (zq3 ha (by omega)) ((uh H).fresh mJ.ge) (by simp));have HO2:=ab ZO;have El:=ab mJ.ge;clear rH Uy pp gS mJ ZO kX;go_upto_region 2 with fail;rw[<-tj];clear tj x1 z1;go_wp2_with fail
 refine(uh rK).mono ?_;rintro e w3 ⟨rfl,nv3,x3,-,hx3,agv,gi⟩;have HN:=ab ((uh HO2).next (uh El) agv gi);have HX:=ab hx3;clear agv gi hx3 rK;go_wp2_with fail
 go_end0
 exact⟨rfl,(uh HN).out (o:=⟨[aQ (setC f (1+v) c)],[],false,false,false⟩) (by simp[uh HX]) rfl⟩
theorem Fh{v:Nat}(h:Os w w O A f av ov false false false (.slice none 0 0) (.slice none 0 0) [] [])(hO:aj f)(ha:f.ap.length<=40000)(hv:v<4):
  Calls prog 239 #[.pointer (some ⟨O,0,none⟩),.pointer (some ⟨A,0,none⟩),.int .i64 v] w λe w'=>e=.returned (.tuple #[])/\pF w O (if 24<=aw f then ⟨[],[],false,false,true⟩ else ⟨[aQ (Et f v)],[],false,false,false⟩) w':=by
 have iH:=hO.owLen;have Cr:aw f<=100000:=by
  unfold aw;have h1:=DI hO;omega
 have Sc:=ab (vJ h.ff (zq3 ha (by omega)) (zq3 iH (by omega)) Cr);obtain⟨N,hN⟩:∃N,N=aw f:=⟨_,rfl⟩;have tU:=ab hN;rw[<-hN]at Sc Cr ⊢;obtain⟨oR,hoR⟩:∃oR:MV,oR=if 24<=N then ⟨[],[],false,false,true⟩ else ⟨[aQ (Et f v)],[],false,false,false⟩:=⟨_,rfl⟩
 rw[<-hoR];have MN:=ab hoR;clear hoR;have H:=ab h;have HO:=ab hO;have i1:(0:Int)<=1+(v:Int):=by omega
 have i2:1+(v:Int)<5:=by omega
 have i3:(1+(v:Int)).toNat=1+v:=by omega
 clear h hO hN;go_enter func239,ntmps239;go_wp2_with fail
 refine(uh Sc).mono ?_;rintro e w1 ⟨rfl,bz⟩;have uk:=(uh H).below bz;have S9:=ab uk;clear bz Sc;by_cases qI:24<=N
 .have d5:decide ((24:Int)<=(N:Int))=true:=by simp;omega
  have o4:=uk.oo.bk.cell 4 rfl;have z4:=uk.oo.bk.frz 4;have HN:=ab (uk.next (B:=[]) (λk hk=>by simp at hk) (uk.oo.flag (nu':=false) (da':=false) (fu':=true) 4 (by omega) rfl) (((ar.refl (eQ O (.slice none 0 0) (.slice none 0 0) [] []) w1).setCell (p:=⟨O,4,none⟩) (zq0 (by simp[eQ])) (.bool true)).wide (by simp) |>.foots (λk hk=>zq0 (by simpa using hk))));have Sg:Hid (oR=⟨[],[],false,false,true⟩):=ab (by rw[uh MN,if_pos qI]);clear uk qI;go_wp2_with fail
  refine bodyPost_ret (v:=.tuple #[]) (by simp[results,Tryz.results239]) rfl ?_;exact⟨rfl,by rw[uh Sg];exact(uh HN).out (o:=⟨[],[],false,false,true⟩) rfl rfl⟩
 .have d5:decide ((24:Int)<=(N:Int))=false:=by simp;omega
  have Sg:Hid (oR=⟨[aQ (Et f v)],[],false,false,false⟩):=ab (by rw[uh MN,if_neg qI]);have kX:=ab (cP uk.ff (uh HO).c5 ha (zq3 iH (by omega)));have akF:N<24:=by omega
  clear qI uk;go_wp2_with fail
  refine(uh kX).mono ?_;rintro e w2 ⟨A2,rfl,C3⟩;obtain⟨av2,ov2,mJ⟩:=C3.frf;have x0:=mJ.fm.is.cls (i:=0) (by omega);unfold gZ at x0;obtain⟨n0,si⟩:∃n0,n0=f.cl.getD 0 0:=⟨_,rfl⟩;rw[show(({ A:=A2,f:=f,av:=av2,ov:=ov2 }:FE).f.cl.getD 0 0:Nat)=n0 from si.symm]at x0;have yE:=ab (qX mJ.fm 3 N n0 (zq3 iH (by omega)));have xZ:=ab mJ;have HN0:=ab si;clear C3 mJ kX si;go_wp2_with fail
  refine(uh yE).mono ?_;rintro e w3 ⟨rfl,ov3,Ev,cR⟩;have m6:=(uh xZ).step (x':=⟨A2,md f ⟨3,N,n0⟩,av2,ov3⟩) Ev cR;have x1:=m6.fm.is.cls (i:=1+v) (by omega);have z1:=ownsRow.frozenAt m6.fm.is.ob (1+v);have r9:=m6.fm.setCl (1+v) N (by omega);obtain⟨w4,SJ⟩:∃w4,w4=w3.setCell ⟨A2,1+v,none⟩ (.int .i64 (N:Int)):=⟨_,rfl⟩;rw[<-SJ]at r9;have vZ:ar (aG A2 av2 ov3) w3 (aG A2 av2 ov3) w4:=by rw[SJ];exact(ar.refl _ _).setCell (p:=⟨A2,1+v,none⟩) (zq0 (by simp[aG])) _
  have hcr:setC (md f ⟨3,N,n0⟩) (1+v) N=Et f v:=by unfold Et;rw[<-uh tU,<-uh HN0]
  have AD:=m6.step (x':=⟨A2,Et f v,av2,ov3⟩) (by rw[<-hcr];exact r9) vZ;have KC:=(uh S9).below AD.bw;have rK:=ab (iD KC.oo AD.fm (rQ (uh HO) (by rw[<-uh tU];exact akF)) (zq3 ha (by omega)) ((uh S9).fresh AD.ge) (by simp));have HO4:=ab KC;have El:=ab (λk hk=>zq3 (uh S9).st.size (AD.ge k hk));clear m6 Ev cR r9 vZ AD KC yE hcr;go_upto_region 6 with fail;rw[<-SJ];clear SJ x1 z1 x0;go_wp2_with fail
  refine(uh rK).mono ?_;rintro e w5 ⟨rfl,nv5,x5,-,hx5,agw,qN⟩;have HN:=ab ((uh HO4).next (uh El) agw qN);have HX:=ab hx5;clear agw qN hx5 rK;go_wp2_with fail
  go_end0
  exact⟨rfl,by rw[uh Sg];exact(uh HN).out (o:=⟨[aQ (Et f v)],[],false,false,false⟩) (by simp[uh HX]) rfl⟩
end
def SN(n:Nd):Value:=.agg #[.int .i64 (n.op:Int),.int .i64 (n.v:Int),.int .i64 (n.ak:Int),.int .i64 (n.ai:Int),.int .i64 (n.nx:Int),.int .i64 (n.ot:Int)]
theorem dJ(w:World)(n:Nat):Below w.heap.size w (w.drewN n):=⟨rfl,rfl,rfl,zq4 _,λ_ _=>rfl⟩
section
variable {w W W':World} {O A:Nat} {f:CF} {av ov nv tv:Value} {nu da fu:Bool} {Ln Lt:List FE}
theorem sT{n:Nd}(h:Os w w O A f av ov false false false (.slice none 0 0) (.slice none 0 0) [] [])(hO:aj f)(ha:f.ap.length<=40000)(hv:n.v<4)(hi:n.ai<4):
  Calls prog 244 #[.pointer (some ⟨O,0,none⟩),.pointer (some ⟨A,0,none⟩),SN n] w λe w'=>e=.returned (.tuple #[])/\pF w O ⟨(mt f n).1,(mt f n).2,false,false,false⟩ w':=by
 have iH:=hO.owLen;have oT:mt f n=(if aV f (f.cl.getD (1+n.v) 0) (clT f n.ak n.ai)=true then [] else [aQ (mL f (f.cl.getD (1+n.v) 0) (clT f n.ak n.ai))],if f.cl.getD (1+n.v) 0=clT f n.ak n.ai then [] else [aQ (cf f (f.cl.getD (1+n.v) 0) (clT f n.ak n.ai))]):=rfl;obtain⟨op,v,ak,ai,nx,ot⟩:=n;simp only at hv hi oT;unfold SN;simp only;obtain⟨W1,d7⟩:∃W1,W1=w.alloc (.cells #[Value.int .i64 (op:Int),.int .i64 (v:Int),.int .i64 (ak:Int),.int .i64 (ai:Int),.int .i64 (nx:Int),.int .i64 (ot:Int)] 186):=⟨_,rfl⟩;have ce:Below w.heap.size w W1:=by rw[d7];exact ah w _
 have hX:Bk W1 w.heap.size 186 [Value.int .i64 (op:Int),.int .i64 (v:Int),.int .i64 (ak:Int),.int .i64 (ai:Int),.int .i64 (nx:Int),.int .i64 (ot:Int)]:=by rw[d7];exact Bk.new w _ _
 obtain⟨X,gV⟩:∃X,X=w.heap.size:=⟨_,rfl⟩;rw[<-gV]at hX;have uk:=h.below ce;have b1:=hX.cell 1 rfl;have b2:=hX.cell 2 rfl;have b3:=hX.cell 3 rfl;have x1:=uk.ff.cls (i:=1+v) (by omega);unfold gZ at x1;obtain⟨a,haE⟩:∃a,a=f.cl.getD (1+v) 0:=⟨_,rfl⟩;obtain⟨b,hbE⟩:∃b,b=clT f ak ai:=⟨_,rfl⟩;rw[<-haE]at x1;rw[<-haE,<-hbE]at oT;have C6:a<24:=by rw[haE];exact hO.get _
 have afz:b<24:=by rw[hbE];exact hO.cT _ _
 have i1:(0:Int)<=1+(v:Int):=by omega
 have i2:1+(v:Int)<5:=by omega
 have i3:(1+(v:Int)).toNat=1+v:=by omega
 obtain⟨oR,hoR⟩:∃oR:MV,oR=⟨(mt f ⟨op,v,ak,ai,nx,ot⟩).1,(mt f ⟨op,v,ak,ai,nx,ot⟩).2,false,false,false⟩:=⟨_,rfl⟩;rw[<-hoR];rw[oT]at hoR;have MN:=ab hoR;have HO:=ab hO;have H1:=ab uk;have EV:=ab hbE;clear h hO uk hoR oT ce hX haE hbE;go_enter func244,ntmps244;go_upto_region 1 with fail;rw[<-d7,<-gV];clear d7 gV;go_quiet (fail)
 obtain⟨W2,jt⟩:∃W2,W2=W1.drewN nq:=⟨_,rfl⟩;rw[<-jt];have aW:Below W1.heap.size W1 W2:=by rw[jt];exact dJ W1 nq
 have d2:W2.cell? ⟨X,2,none⟩=some (.int .i64 (ak:Int)):=by rw[jt];exact b2
 have d3:W2.cell? ⟨X,3,none⟩=some (.int .i64 (ai:Int)):=by rw[jt];exact b3
 have ZO:=(uh H1).below aW;have xH:=ab (rP ZO.ff ak ai hi);rw[<-uh EV]at xH;have H2:=ab ZO;clear jt aW ZO b1 b2 b3 x1 H1;go_wp2_with fail
 refine(uh xH).mono ?_;rintro e W3 ⟨rfl,dx⟩;have OO:=(uh H2).below dx;have Wx:=ab (l6 a b OO.ff);have H3:=ab OO;clear dx OO H2 xH d2 d3;go_wp2_with fail
 refine(uh Wx).mono ?_;rintro e W4 ⟨rfl,nU⟩;have KC:=(uh H3).below nU;have H4:=ab KC;clear nU H3 Wx;cases yi:aV f a b
 .
  rw[yi]at MN;have kX:=ab (cP KC.ff (uh HO).c5 ha (zq3 iH (by omega)));have Ej:=ab (im yi);clear KC yi;go_wp2_with fail
  refine(uh kX).mono ?_;rintro e W5 ⟨A5,rfl,hN5⟩;obtain⟨av5,ov5,De⟩:=hN5.frf;have HJO:=ab (y9 De.fm (zq3 ha (by omega)) (zq3 iH (by omega)) a b);have Wz:=ab De;clear hN5 De kX;go_wp2_with fail
  refine(uh HJO).mono ?_;rintro e W6 ⟨rfl,Uj,KG⟩;have Mn:=(uh Wz).step (x':=⟨A5,mL f a b,av5,ov5⟩) Uj KG;have hO6:=(uh H4).below Mn.bw;have rK:=ab (iD hO6.oo Mn.fm ((uh HO).jo C6 (uh Ej)) (by
   show(f.ap.map _).length<=100000;rw[length_map];omega) ((uh H4).fresh Mn.ge) (by simp))
  have H6:=ab hO6;have El:=ab (λk hk=>zq3 (uh H4).st.size (Mn.ge k hk));clear Uj KG Mn hO6 HJO;go_wp2_with fail
  refine(uh rK).mono ?_;rintro e W7 ⟨rfl,nv7,x7,-,hx7,agy,zm⟩;have hO7:=(uh H6).next (uh El) agy zm;have H7:=ab hO7;have HX7:=ab hx7;clear agy zm hx7 rK;by_cases se:a=b
  .have d1:((a:Int) != (b:Int))=false:=(by simp[se]);have Sg:Hid (oR=⟨[aQ (mL f a b)],[],false,false,false⟩):=ab (by rw[uh MN,if_neg (by decide),if_pos se]);clear se hO7;go_wp2_with fail
   go_end0
   exact⟨rfl,by rw[uh Sg];exact(uh H7).out (o:=⟨[aQ (mL f a b)],[],false,false,false⟩) (by simp[uh HX7]) rfl⟩
  .have d1:((a:Int) != (b:Int))=true:=(by rw[bne_iff_ne];omega);have Sg:Hid (oR=⟨[aQ (mL f a b)],[aQ (cf f a b)],false,false,false⟩):=ab (by rw[uh MN,if_neg (by decide),if_neg se]);have kX:=ab (cP hO7.ff (uh HO).c5 ha (zq3 iH (by omega)));clear se hO7;go_wp2_with fail
   refine(uh kX).mono ?_;rintro e W8 ⟨A8,rfl,hN8⟩;obtain⟨av8,ov8,xP⟩:=hN8.frf;have WE:=ab (rh xP.fm a b (zq3 ha (by omega)));have S6:=ab xP;clear hN8 xP kX;go_wp2_with fail
   refine(uh WE).mono ?_;rintro e W9 ⟨rfl,av9,OJ,OX⟩;have yk:=(uh S6).step (x':=⟨A8,cf f a b,av9,ov8⟩) OJ OX;have ZP:=(uh H7).below yk.bw;have WO:=ab (xB ZP.oo yk.fm ((uh HO).pa C6 afz) (by
    show(f.ap++[_]).length<=100000;rw[length_append,length_singleton];omega) ((uh H7).fresh yk.ge) (by simp))
   have H9:=ab ZP;have Yp:=ab (λk hk=>zq3 (uh H7).st.size (yk.ge k hk));clear OJ OX yk ZP WE;go_wp2_with fail
   refine(uh WO).mono ?_;rintro e Wa ⟨rfl,tva,xa,-,hxa,PD,Ga⟩;have HN:=ab ((uh H9).next (uh Yp) PD Ga);have HXA:=ab hxa;clear PD Ga hxa WO;go_wp2_with fail
   go_end0
   exact⟨rfl,by rw[uh Sg];exact(uh HN).out (o:=⟨[aQ (mL f a b)],[aQ (cf f a b)],false,false,false⟩) (by simp[uh HX7]) (by simp[uh HXA])⟩
 .rw[yi]at MN;have se:a≠b:=λe=>by rw[e]at yi;unfold aV at yi;simp at yi
  have d1:((a:Int) != (b:Int))=true:=by rw[bne_iff_ne];omega
  have Sg:Hid (oR=⟨[],[aQ (cf f a b)],false,false,false⟩):=ab (by rw[uh MN,if_pos rfl,if_neg se]);have kX:=ab (cP KC.ff (uh HO).c5 ha (zq3 iH (by omega)));clear se KC yi;go_wp2_with fail
  refine(uh kX).mono ?_;rintro e W8 ⟨A8,rfl,hN8⟩;obtain⟨av8,ov8,xP⟩:=hN8.frf;have WE:=ab (rh xP.fm a b (zq3 ha (by omega)));have S6:=ab xP;clear hN8 xP kX;go_wp2_with fail
  refine(uh WE).mono ?_;rintro e W9 ⟨rfl,av9,OJ,OX⟩;have yk:=(uh S6).step (x':=⟨A8,cf f a b,av9,ov8⟩) OJ OX;have ZP:=(uh H4).below yk.bw;have WO:=ab (xB ZP.oo yk.fm ((uh HO).pa C6 afz) (by
   show(f.ap++[_]).length<=100000;rw[length_append,length_singleton];omega) ((uh H4).fresh yk.ge) (by simp))
  have H9:=ab ZP;have Yp:=ab (λk hk=>zq3 (uh H4).st.size (yk.ge k hk));clear OJ OX yk ZP WE;go_wp2_with fail
  refine(uh WO).mono ?_;rintro e Wa ⟨rfl,tva,xa,-,hxa,PD,Ga⟩;have HN:=ab ((uh H9).next (uh Yp) PD Ga);have HXA:=ab hxa;clear PD Ga hxa WO;go_wp2_with fail
  go_end0
  exact⟨rfl,by rw[uh Sg];exact(uh HN).out (o:=⟨[],[aQ (cf f a b)],false,false,false⟩) rfl (by simp[uh HXA])⟩
end
def dC:Value:=.slice none 0 0
structure Lo(w W:World)(O A:Nat)(f:CF)(av ov:Value)(nu da fu:Bool)(nv:Value)(Ln:List FE)(B:Nat)(lv:Value)(L:List FE)(j:Nat):Prop where
 os:Os w W O A f av ov nu da fu nv dC Ln []
 pe:gm W B lv L j
 dj:∀k∈mX lv L j,k ∉ eQ O nv dC Ln []
 wB:w.heap.size<=B
section
variable {w W W':World} {O A:Nat} {f:CF} {av ov nv lv:Value} {nu da fu:Bool} {Ln L:List FE} {B j:Nat}
theorem Lo.mid{x':FE}(h:Lo w W O A f av ov nu da fu nv Ln B lv L j)(hj:j<L.length)(hs:ar L[j].bs W x'.bs W'):
  Os w W' O A f av ov nu da fu nv dC Ln []/\(∀k∈x'.bs,k ∉ eQ O nv dC Ln [])/\(∀k∈x'.bs,w.heap.size<=k)/\gm W' B lv L (j+1)/\(∀k∈mX lv L (j+1),k ∉ eQ O nv dC Ln []/\k ∉ x'.bs):=by
 obtain⟨h1,h2,h3,h4,h5⟩:=h.pe.next hj;have Dn:∀k∈L[j].bs,k ∉ eQ O nv dC Ln []:=λk hk=>h.dj k (h5 k hk);have tL:Oo W' O nu da fu nv dC Ln []:=h.os.oo.stp hs (λk hk hn=>Dn k hn hk);refine⟨h.os.next (B:=L[j].bs) (λk hk=>zq3 h.wB (h2 k hk)) tL ((hs.wide (λk hk=>mem_append_right _ hk)).foots (λk hk=>zq0 (mem_append_left _ hk))),λk hk hn=>?_,λk hk=>?_,h3.stp hs (λk hk hn=>(h4 k hk).2 hn),λk hk=>⟨h.dj k (h4 k hk).1,λhn=>?_⟩⟩
 .rcases hs.foot k hk with q|q
  .exact Dn k q hn
  .have:=h.os.oo.lt k hn;omega
 .rcases hs.foot k hk with q|q
  .exact zq3 h.wB (h2 k q)
  .exact zq3 h.os.st.size q
 .rcases hs.foot k hn with q|q
  .exact(h4 k hk).2 q
  .have:=h3.lt k hk;omega
theorem Lo.fin {x' y:FE} {nv':Value} {W'':World} (hO:Os w W' O A f av ov nu da fu nv dC Ln []) (cW:∀k∈x'.bs,w.heap.size<=k) (hP:gm W' B lv L (j+1)) (hd:∀k∈mX lv L (j+1),k ∉ eQ O nv dC Ln []/\k ∉ x'.bs) (hw:w.heap.size<=B)
  (tL:Oo W'' O nu da fu nv' dC (Ln++[y]) []) (hs:ar (eQ O nv dC Ln []++x'.bs) W' (eQ O nv' dC (Ln++[y]) []) W''):Lo w W'' O A f av ov nu da fu nv' (Ln++[y]) B lv L (j+1):=by
 have hn:∀k∈mX lv L (j+1),k ∉ eQ O nv dC Ln []++x'.bs:=λk hk hm=>by
  rcases mem_append.1 hm with q|q
  .exact(hd k hk).1 q
  .exact(hd k hk).2 q
 refine⟨hO.next cW tL hs,hP.stp hs hn,λk hk hm=>?_,hw⟩;rcases hs.foot k hm with q|q
 .exact hn k hk q
 .have:=hP.lt k hk;omega
theorem Lo.start{w2:World}{nu' da' fu':Bool}(h:Os w W O A f av ov nu da fu dC dC [] [])(ju:Fl w2 W.heap.size lv L)(EA:Bk w2 O 280 [dC,dC,.bool nu',.bool da',.bool fu'])(hs:ar [O] W (O::be lv L) w2):Lo w w2 O A f av ov nu' da' fu' dC [] W.heap.size lv L 0:=by
 have hfp:eQ O dC dC [] []=[O]:=rfl;have tJ:Fl w2 0 dC []:=Fl.nil0 w2 0;refine⟨⟨⟨EA,tJ,tJ,by simp[be,dC,Value.ownBlock]⟩,h.ff.of_eq (λk hk=>hs.block k (h.ff.lt k hk) (λhn=>h.of (by rw[mem_singleton]at hn;rw[<-hn];exact hk))),?_,h.ol,h.of,h.fw⟩,ju.pend,λk hk hn=>?_,h.st.size⟩
 .rw[hfp];have h0:=h.st;rw[hfp]at h0;exact(h0.trans (hs.foots (F'':=[O]) (λk hk=>zq0 hk)))
 .rw[hfp,mem_singleton]at hn;have h1:=ju.pend.geB k hk;have h2:=h.ol;have h3:=h.st.size;omega
end
