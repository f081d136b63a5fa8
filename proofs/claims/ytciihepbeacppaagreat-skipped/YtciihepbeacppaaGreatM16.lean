import Derived.Test.YtciihepbeacppaaGreatM15
set_option maxRecDepth 100000
set_option maxHeartbeats 0
namespace Go.Proofs.YtciihepbeacppaaGreat
open Tryz Go.RowKit List World Below
set_option linter.unusedVariables false
def mY(v:Value)(L:List FE)(j:Nat):List Nat:=v.ownBlock.toList++(L.drop j).flatMap FE.bs
structure gp(W:World)(B:Nat)(v:Value)(L:List FE)(j:Nat):Prop where
 row:W.ownsRow B 126 1 v L.length (L.map FE.p)
 fm:∀x∈L.drop j,Fm W x.A x.f x.av x.ov
 ge:∀x∈L.drop j,∀k∈x.bs,B<=k
 nd:(mY v L j).Nodup
section
variable {W W':World} {B j:Nat} {v:Value} {L:List FE}
theorem Fl.pend(h:Fl W B v L):gp W B v L 0:=⟨h.row,by simpa using h.fm,by simpa using h.ge,by simpa[mY,bf] using h.nd⟩
theorem gp.lt(h:gp W B v L j):∀k∈mY v L j,k<W.heap.size:=by
 intro k hk;rcases mem_append.1 hk with hk|hk
 .exact(h.row.lt k (by simpa using hk)).2
 .obtain⟨x,hx,hk⟩:=mem_flatMap.1 hk;exact(h.fm x hx).lt k hk
theorem gp.geB(h:gp W B v L j):∀k∈mY v L j,B<=k:=by
 intro k hk;rcases mem_append.1 hk with hk|hk
 .exact(h.row.lt k (by simpa using hk)).1
 .obtain⟨x,hx,hk⟩:=mem_flatMap.1 hk;exact h.ge x hx k hk
theorem gp.of_eq(h:gp W B v L j)(he:∀k∈mY v L j,W'.heap[k]?=W.heap[k]?):gp W' B v L j :=
 ⟨ae h.row (λk hk=>he k (mem_append_left _ (by simpa using hk))),λx hx=>(h.fm x hx).of_eq (λk hk=>he k (mem_append_right _ (mem_flatMap.2 ⟨x,hx,hk⟩))),h.ge,h.nd⟩
theorem gp.stp{F F':List Nat}(h:gp W B v L j)(hs:ar F W F' W')(hd:∀k∈mY v L j,k ∉ F):gp W' B v L j:=h.of_eq (λk hk=>hs.block k (h.lt k hk) (hd k hk))
theorem gp.below(h:gp W B v L j)(hb:Below W.heap.size W W'):gp W' B v L j:=h.of_eq (λk hk=>hb.block k (h.lt k hk))
theorem gp.next(h:gp W B v L j)(hj:j<L.length):Fm W L[j].A L[j].f L[j].av L[j].ov/\(∀k∈L[j].bs,B<=k)/\gp W B v L (j+1)/\(∀k∈mY v L (j+1),k∈mY v L j/\k ∉ L[j].bs)/\(∀k∈L[j].bs,k∈mY v L j):=by
 have e:L.drop j=L[j]::L.drop (j+1):=drop_eq_getElem_cons hj;have hm:L[j]∈L.drop j:=by rw[e];exact mem_cons_self
 have PL:∀x∈L.drop (j+1),x∈L.drop j:=λx hx=>by rw[e];exact mem_cons_of_mem _ hx
 have dG:=h.nd;unfold mY at dG;rw[e,flatMap_cons,nodup_append,nodup_append]at dG;obtain⟨n1,⟨n2,n3,n4⟩,n5⟩:=dG;refine⟨h.fm _ hm,h.ge _ hm,⟨h.row,λx hx=>h.fm x (PL x hx),λx hx=>h.ge x (PL x hx),?_⟩,λk hk=>?_,λk hk=>?_⟩
 .unfold mY;rw[nodup_append];exact⟨n1,n3,λa ha b hb=>n5 a ha b (mem_append_right _ hb)⟩
 .rcases mem_append.1 hk with hk|hk
  .exact⟨mem_append_left _ hk,λhn=>n5 k hk k (mem_append_left _ hn) rfl⟩
  .refine⟨mem_append_right _ ?_,λhn=>n4 k hn k hk rfl⟩;rw[e,flatMap_cons];exact mem_append_right _ hk
 .refine mem_append_right _ ?_;rw[e,flatMap_cons];exact mem_append_left _ hk
theorem gp.cell(h:gp W B v L j){i:Nat}(hi:i<L.length):∃g cap,v=.slice (some ⟨g,0,none⟩) L.length cap/\W.cell? ⟨g,i,none⟩=some L[i].p:=by
 obtain⟨g,cap,hv,-,-,-⟩:=b9 h.row (by omega);subst hv;refine⟨g,cap,rfl,?_⟩;have:=h.row.cellAt i (by omega);rw[this];simp[hi]
end
theorem wU{α:Type}(g:α->Nat->α)(a:α)(n:Nat):(range (n+1)).foldl g a=g ((range n).foldl g a) n:=by
 rw[range_succ,foldl_append];rfl
theorem xB{α β:Type}(g:α->β->α)(a:α){l:List β}{j:Nat}(hj:j<l.length):(l.take (j+1)).foldl g a=g ((l.take j).foldl g a) l[j]:=by
 rw[take_add_one,getElem?_eq_getElem hj,foldl_append];rfl
structure Ol(w W:World)(O:Nat)(nv tv:Value)(nu da fu:Bool)(A:Nat)(f:CF)(av ov:Value)(lv:Value)(L:List FE):Prop where
 fl:Fl W w.heap.size lv L
 bo:Bk W O 280 [nv,tv,.bool nu,.bool da,.bool fu]
 ff:eQ W A f av ov
 st:ar [O] w (O::bf lv L) W
 ol:O<w.heap.size
 of:O ∉ aG A av ov
 fw:∀k∈aG A av ov,k<w.heap.size
section
variable {w W W':World} {O A:Nat} {nv tv:Value} {nu da fu:Bool} {f:CF} {av ov lv:Value} {L:List FE}
theorem Ol.below(h:Ol w W O nv tv nu da fu A f av ov lv L)(hb:Below W.heap.size W W'):Ol w W' O nv tv nu da fu A f av ov lv L :=
 ⟨h.fl.below hb,h.bo.below hb,h.ff.below hb,⟨hb.os.trans h.st.os,hb.tape.trans h.st.tape,hb.output.trans h.st.output,zq3 h.st.size hb.size,λk hk hn=>(hb.block k (zq6 hk h.st.size)).trans (h.st.block k hk hn),h.st.foot⟩,h.ol,h.of,h.fw⟩
theorem Ol.ne(h:Ol w W O nv tv nu da fu A f av ov lv L):∀k∈bf lv L,k≠O/\k ∉ aG A av ov:=λk hk=>⟨λe=>by have:=h.fl.geB k hk;have:=h.ol;omega,λhn=>by have:=h.fl.geB k hk;have:=h.fw k hn;omega⟩
theorem Ol.after{x:FE}{lv':Value}{L':List FE}{fu':Bool}(h:Ol w W O nv tv nu da fu A f av ov lv L)(hx:∀k∈x.bs,w.heap.size<=k)(h1:Fl W' w.heap.size lv' L')(h2:Bk W' O 280 [nv,tv,.bool nu,.bool da,.bool fu'])(hs:ar (O::(bf lv L++x.bs)) W (O::bf lv' L') W'):Ol w W' O nv tv nu da fu' A f av ov lv' L':=by
 refine⟨h1,h2,h.ff.of_eq (λk hk=>hs.block k (h.ff.lt k hk) (λhn=>?_)),?_,h.ol,h.of,h.fw⟩
 .rcases mem_cons.1 hn with rfl|hn
  .exact h.of hk
  .rcases mem_append.1 hn with hn|hn
   .exact(h.ne k hn).2 hk
   .have:=hx k hn;have:=h.fw k hk;omega
 .refine⟨hs.os.trans h.st.os,hs.tape.trans h.st.tape,hs.output.trans h.st.output,zq3 h.st.size hs.size,λk hk hn=>?_,λk hk=>?_⟩
  .rw[hs.block k (zq6 hk h.st.size) (λhm=>?_)]
   .exact h.st.block k hk hn
   .rcases mem_cons.1 hm with rfl|hm
    .exact hn (by simp)
    .rcases mem_append.1 hm with hm|hm
     .have:=h.fl.geB k hm;omega
     .have:=hx k hm;omega
  .rcases mem_cons.1 hk with rfl|hk
   .exact zq0 (by simp)
   .exact zq1 (h1.geB k hk)
theorem sE{v:Nat}(hv:v<4)(EC:Bk w O 280 [nv,tv,.bool nu,.bool da,.bool fu])(h:eQ w A f av ov)(hO:aj f)(ha:f.ap.length<=40000)(hof:O ∉ aG A av ov):
  Calls prog 257 #[.pointer (some ⟨O,0,none⟩),.pointer (some ⟨A,0,none⟩),.int .i64 v] w λe w'=>∃lv L,e=.returned lv/\Fl w' w.heap.size lv L/\L.map (·.f)=(c9 f v).1/\Bk w' O 280 [nv,tv,.bool (nu||(c9 f v).2.1),.bool (da||(c9 f v).2.2.1),.bool (fu||(c9 f v).2.2.2)]/\ar [O] w (O::bf lv L) w':=by
 have iJ:=hO.owLen;have x1:=h.cls (i:=1+v) (by omega);have x0:=h.cls (i:=0) (by omega);unfold hU at x0 x1;have pw:c9 f v=if f.cl.getD (1+v) 0=f.cl.getD 0 0 then ([],true,false,false) else if (cE f.ow (f.cl.getD (1+v) 0)).isSome=true then ((gV f (f.cl.getD (1+v) 0)).1,false,false,(gV f (f.cl.getD (1+v) 0)).2) else (((range f.ow.length).foldl (λr i=>uE f v i r) ([],false)).1,!aV f (f.cl.getD (1+v) 0) (f.cl.getD 0 0),true,((range f.ow.length).foldl (λr i=>uE f v i r) ([],false)).2):=rfl
 have AD:=hO.get (1+v);obtain⟨c,hc⟩:∃c,c=f.cl.getD (1+v) 0:=⟨_,rfl⟩;obtain⟨n,hn⟩:∃n,n=f.cl.getD 0 0:=⟨_,rfl⟩;rw[<-hc]at x1 pw AD;rw[<-hn]at x0 pw;have i1:(0:Int)<=1+(v:Int):=by omega
 have i2:1+(v:Int)<5:=by omega
 have i3:(1+(v:Int)).toNat=1+v:=by omega
 have H:=ab h;have HO:=ab hO;have HBO:=ab EC;have HC:=ab hc;have Tf:=ab hof;have o2:=EC.cell 2 rfl;have o3:=EC.cell 3 rfl;have oz:=EC.frz;have HOL:=ab EC.lt;have mR:=ab (cP c h);by_cases kH:c=n
 .have d0:((c:Int)==(n:Int))=true:=by simp[kH]
  have HE:Hid (c9 f v=([],true,false,false)):=ab (by rw[pw,if_pos kH]);have eP:=ab (EC.set 2 (.bool true));clear pw kH h hO EC hc hn hof;go_enter func257,ntmps257;go_wp2_with fail
  go_ret;refine⟨_,[],rfl,Fl.nil0 _ _,by rw[uh HE];rfl,?_,?_⟩
  .rw[uh HE];have:=uh eP;simpa using this
  .exact((ar.refl [O] w).setCell (p:=⟨O,2,none⟩) (zq0 (by simp)) _).foots (λk hk=>zq0 (by simpa[bf,Value.ownBlock] using hk))
 .have d0:((c:Int)==(n:Int))=false:=by simp;omega
  rw[if_neg kH]at pw;have B9:=ab pw;have hg:=sF (cE f.ow c);cases hb:cE f.ow c with
  |some i =>
   rw[hb]at hg mR B9;have HE:Hid (c9 f v=((gV f c).1,false,false,(gV f c).2)):=ab (by rw[uh B9];rfl);have kZ:=ab (cQ h hO.c5 ha (zq3 iJ (by omega)));have HB:=ab hb;clear pw kH h hO EC hc hn B9 hb hof;go_enter func257,ntmps257;go_wp2_with fail
   refine(uh mR).mono ?_;rintro e w1 ⟨rfl,rfl⟩;go_wp2_with fail
   refine(uh kZ).mono ?_;rintro e w2 ⟨A2,rfl,C5⟩;obtain⟨av2,ov2,mK⟩:=C5.frf;have Em:=ab (rX (v:=.slice none 0 0) (L:=[]) (B:=w1.heap.size) (Fl.nil0 w2 _) ((uh HBO).below mK.bw) mK.fm (uh HO) ha (λk hk=>by simp[bf,Value.ownBlock]at hk) (λhn=>by have h1:=mK.ge _ hn;have h2:=uh HOL;omega) mK.ge mK.bw.size (uh HB) (by simp));have ya:=ab mK;clear C5 mK kZ;go_wp2_with fail
   refine(uh Em).mono ?_;rintro e w3 ⟨v3,L3,rfl,m8,Dl,Dc,gj⟩;have aP:ar [O] w1 (O::bf v3 L3) w3:=by
    have aW:=(uh ya).bw;refine⟨gj.os.trans aW.os,gj.tape.trans aW.tape,gj.output.trans aW.output,zq3 aW.size gj.size,λk hk hn=>?_,λk hk=>?_⟩
    .rw[gj.block k (zq6 hk aW.size) (λhm=>?_)]
     .exact aW.block k hk
     .rcases mem_cons.1 hm with rfl|hm
      .exact hn (by simp)
      .rcases mem_append.1 hm with hm|hm
       .simp[bf,Value.ownBlock]at hm
       .have:=(uh ya).ge k hm;omega
    .rcases mem_cons.1 hk with rfl|hk
     .exact zq0 (by simp)
     .exact zq1 (m8.geB k hk)
   rw[nil_append]at m8;have HN:=ab (zq2 m8 (zq2 Dl (zq2 Dc aP)));clear m8 Dl Dc gj aP Em ya;go_wp2_with fail
   go_ret;refine⟨_,L3,rfl,(uh HN).1,by rw[uh HE];exact(uh HN).2.1,?_,(uh HN).2.2.2⟩;rw[uh HE];have:=(uh HN).2.2.1;simpa using this
  |none =>
   rw[hb]at hg mR B9;have ad8:Hid (c9 f v=(((range f.ow.length).foldl (λr i=>uE f v i r) ([],false)).1,!aV f c n,true,((range f.ow.length).foldl (λr i=>uE f v i r) ([],false)).2)):=ab (by rw[uh B9];rfl);have Z6:=EC.set 3 (.bool true);have h8:eQ (w.setCell ⟨O,3,none⟩ (.bool true)) A f av ov:=h.of_eq (λk hk=>heap_setCell _ _ _ _ (λe=>hof (by have e':k=O:=e;rw[<-e'];exact hk)));obtain⟨W8,ZZ⟩:∃W8,W8=w.setCell ⟨O,3,none⟩ (.bool true):=⟨_,rfl⟩;have IK:ar [O] w [O] W8:=(by rw[ZZ];exact(ar.refl [O] w).setCell (p:=⟨O,3,none⟩) (zq0 (by simp)) _);rw[<-ZZ]at Z6 h8;have Wz:=ab (l7 c n h8);have Ti:=ab (jX (N:=40000) hv hO ha);have HLT:=ab h.lt;have HBN:=ab hb;have HB8:=ab Z6;have H8:=ab h8;have WN:=ab IK;clear pw kH h hO EC hc hn B9 hb hof Z6 h8 IK;go_enter func257,ntmps257;go_wp2_with fail
   refine(uh mR).mono ?_;rintro e w1 ⟨rfl,rfl⟩;go_upto_region 9 with fail;rw[<-ZZ];clear ZZ o2 o3 oz;go_wp2_with fail
   refine(uh Wz).mono ?_;rintro e w9 ⟨rfl,O2⟩;have afD:=(uh HB8).below O2;have h9:=(uh H8).below O2;have hs9:ar [O] w1 [O] w9:=⟨O2.os.trans (uh WN).os,O2.tape.trans (uh WN).tape,O2.output.trans (uh WN).output,zq3 (uh WN).size O2.size,λk hk hn=>(O2.block k (zq6 hk (uh WN).size)).trans ((uh WN).block k hk hn),(uh WN).foot⟩;have J3:=ab afD;have H9:=ab h9;have HS9:=ab hs9;obtain⟨nb,Pz⟩:∃nb,nb=(nu||!aV f c n):=⟨_,rfl⟩;have HNB:=ab Pz;clear afD h9 hs9 O2 Wz HB8 H8 WN;cases yl:aV f c n
   .rw[yl]at Pz;have o2:=(uh J3).cell 2 rfl;have oz:=(uh J3).frz 2;obtain⟨W10,qF⟩:∃W10,W10=w9.setCell ⟨O,2,none⟩ (.bool true):=⟨_,rfl⟩;have HW:Hid (Bk W10 O 280 [nv,tv,.bool nb,.bool true,.bool fu]/\eQ W10 A f av ov/\ar [O] w1 [O] W10):=ab ⟨by
     have:=(uh J3).set 2 (.bool true);rw[qF,Pz];simpa using this,by
     rw[qF];exact(uh H9).of_eq (λk hk=>heap_setCell _ _ _ _ (λe=>uh Tf (by have e':k=O:=e;rw[<-e'];exact hk))),by rw[qF];exact(uh HS9).setCell (p:=⟨O,2,none⟩) (zq0 (by simp)) _⟩
    clear Pz yl J3 H9 HS9;go_upto_region 11 with fail;rw[<-qF];clear qF o2 oz;have FG:Ol w1 (W10.alloc (.cells #[] 126)) O nv tv nb true fu A f av ov (.slice (some ⟨W10.heap.size,0,none⟩) 0 0) []:=by
     obtain⟨q1,q2,q3⟩:=uh HW;have cf:=ah W10 (.cells #[] 126);refine⟨⟨?_,λx hx=>by simp at hx,λx hx=>by simp at hx,by simp[bf,Value.ownBlock]⟩,q1.below cf,q2.below cf,?_,uh HOL,uh Tf,uh HLT⟩
     .have:=ownsRow_lit (base:=W10.heap.size) (e:=126) (size:=1) W10 #[] 0 (zq4 _) (by simp[maxLen]) rfl;exact dZ this q3.size
     .refine(q3.trans (ar.ofBw cf)).foots (λk hk=>?_);rcases mem_cons.1 hk with rfl|hk
      .exact zq0 (by simp)
      .right;have e:k=W10.heap.size:=(by simpa[bf,Value.ownBlock,eq_comm] using hk);rw[e];exact q3.size
    have cG:=ab FG;have hc6:=FG.ff.c6;clear FG HW;go_wp2_with fail
    go_loopg [9,10] f.ow.length (λgn lv iv wx=>∃(k:Nat) (L:List FE) (fu':Bool),k+gn=f.ow.length/\iv=.int .i64 k/\L.length<=4*k/\Hid (Ol w1 wx O nv tv nb true fu' A f av ov lv L/\L.map (·.f)=((range k).foldl (λr i=>uE f v i r) ([],false)).1/\fu'=(fu||((range k).foldl (λr i=>uE f v i r) ([],false)).2)))
    case atStart=>exact⟨0,[],fu,by omega,rfl,by simp,ab ⟨uh cG,rfl,by simp⟩⟩
    case round =>
     clear cG hc6;obtain⟨k,L,fu',gw,rfl,ZN,hI⟩:=hrel;obtain⟨G,hG⟩:∃G,G=gk:=⟨_,rfl⟩;obtain⟨R,hR⟩:∃R,R=(range k).foldl (λr i=>uE f v i r) (([]:List CF),false):=⟨_,rfl⟩;rw[<-hR]at hI;obtain⟨la,lc,iw,-,-⟩:=am (uh hI).1.fl.row;subst iw;have c6:=(uh hI).1.ff.c6;obtain⟨oa,oc,gy,-,-⟩:=am (uh hI).1.ff.ow;rw[gy]at c6;clear gy;by_cases au:k<f.ow.length
     .have hd:decide ((k:Int)<(f.ow.length:Int))=true:=(by simp;omega);have aP:(range (k+1)).foldl (λr i=>uE f v i r) (([]:List CF),false)=(eO f c k).foldl (λr g=>Ci r g (g.cl.getD (1+v) 0)) R:=by
       rw[wU,<-hR,uh HC];rfl
      have di:=ab aP;have B8:=ab (Gq (uh hI).1.ff (uh HO) ha AD au);have Su:=q8 f c k;have HMk:=ab (Bq (N:=40000) hv (uh HO) ha (by rw[<-uh HC];exact uh HBN) au);rw[<-uh HC]at HMk;have i4:(0:Int)<=(k:Int):=(by omega);clear aP hR;go_wp2_with fail
      refine(uh B8).mono ?_;rintro e w2 ⟨v2,L2,rfl,Dh,th,aW⟩;have OS:=(uh hI).1.below aW;have OU:=Dh.pend;have ZK:L2.length=(eO f c k).length:=(by rw[<-th,length_map]);have Xu:∀x∈mY v2 L2 0,x ∉ bf (.slice la L.length lc) L:=λx hx hn=>by
       have h1:=OU.geB x hx;have h2:=(uh hI).1.fl.lt x hn;omega
      have hwB:w1.heap.size<=wr.heap.size:=(uh hI).1.st.size;obtain⟨B2,C3⟩:∃B2,B2=wr.heap.size:=⟨_,rfl⟩;rw[<-C3]at OU hwB;obtain⟨a2,c2,AO,-,-⟩:=am OU.row;subst AO;have oP:=ab (zq2 OS (zq2 OU (zq2 Xu (zq2 (uh hI).2.1 (uh hI).2.2))));have EZ:=ab th;have ae9:L2.length<=2:=(by omega);clear Dh th aW OS OU Xu hI B8 C3 c6 ZK Su;go_wp2_with fail
      go_loopg [9,66] L2.length (λgn lv iv wx=>∃(j:Nat) (La:List FE) (fv:Bool),j+gn=L2.length/\iv=.int .i64 j/\La.length<=4*k+2*j/\Hid (Ol w1 wx O nv tv nb true fv A f av ov lv La/\gp wx B2 (.slice a2 L2.length c2) L2 j/\(∀x∈mY (.slice a2 L2.length c2) L2 j,x ∉ bf lv La)/\La.map (·.f)=(((eO f c k).take j).foldl (λr g=>Ci r g (g.cl.getD (1+v) 0)) R).1/\fv=(fu||(((eO f c k).take j).foldl (λr g=>Ci r g (g.cl.getD (1+v) 0)) R).2)))
      case atStart=>exact⟨0,L,fu',by omega,rfl,by omega,oP⟩
      case round =>
       clear oP;obtain⟨j,La,fv,Cs,rfl,ZM,hJ⟩:=hrel;obtain⟨G2,FD⟩:∃G2,G2=gk:=⟨_,rfl⟩;by_cases fU:j<L2.length
       .have k6:decide ((j:Int)<(L2.length:Int))=true:=(by simp;omega);obtain⟨g2,cap2,dc,ax⟩:=(uh hJ).2.1.cell fU;simp only[Value.slice.injEq,true_and]at dc;obtain⟨rfl,rfl⟩:=dc;obtain⟨hx,hxB,Cn,OW,FH⟩:=(uh hJ).2.1.next fU;have tf:j<(eO f c k).length:=(by rw[<-uh EZ,length_map];exact fU);have hfx:L2[j].f=(eO f c k)[j]:=by
         have:=congrArg (λl=>l[j]?) (uh EZ);simp only[getElem?_map,getElem?_eq_getElem fU,getElem?_eq_getElem tf,Option.map_some,Option.some.injEq]at this;exact this
        have bn:=uh HMk L2[j].f (by rw[hfx];exact getElem_mem tf);have rJ:=xB (λr g=>Ci r g (g.cl.getD (1+v) 0)) R tf;rw[<-hfx]at rJ;obtain⟨x,tR⟩:∃x,x=L2[j]:=⟨_,rfl⟩;rw[<-tR]at ax hx hxB OW FH bn rJ;obtain⟨i',lS⟩:=Option.isSome_iff_exists.1 bn.bg;have FF:=(uh hJ).1;have UT:∀y∈x.bs,w1.heap.size<=y:=λy hy=>zq3 hwB (hxB y hy);obtain⟨lva,lvc,FW,-,-⟩:=am FF.fl.row;subst FW;have Em:=ab (rX FF.fl FF.bo hx bn.ok bn.ln (λy hy=>⟨(FF.ne y hy).1,λhn=>(uh hJ).2.2.1 y (FH y hn) hy⟩) (λhn=>by have h1:=UT _ hn;have h2:=FF.ol;omega) UT FF.st.size lS (by omega));have xc:=hx.is.cls (i:=1+v) (by omega);unfold hU at xc;obtain⟨cx,xR⟩:∃cx,cx=x.f.cl.getD (1+v) 0:=⟨_,rfl⟩;rw[<-xR]at xc Em rJ;have yd:=ab rJ;have MS:=ab Cn;have MR:=ab OW;have HWG:=ab UT;have AQ:x.p=.pointer (some ⟨x.A,0,none⟩):=rfl;rw[AQ]at ax;have i5:(0:Int)<=(j:Int):=(by omega);have i6:(j:Int)<(L2.length:Int):=(by omega);have HJ:=ab (uh hJ);clear hx hxB Cn OW FH tf hfx bn rJ tR lS FF UT xR AQ hJ;go_wp2_with fail
        refine(uh Em).mono ?_;rintro e w3 ⟨v3,L3,rfl,m8,Dl,Dc,gj⟩;have OT:=(uh HJ).1.after (uh HWG) m8 Dc gj;have KG:gp w3 B2 (.slice (some ⟨g2,0,none⟩) L2.length c2) L2 (j+1):=(uh MS).stp gj (λy hy hn=>by
         rcases mem_cons.1 hn with rfl|hn
         .have h1:=(uh MS).geB _ hy;have h2:=(uh HJ).1.ol;omega
         .rcases mem_append.1 hn with hn|hn
          .exact(uh HJ).2.2.1 y (uh MR y hy).1 hn
          .exact(uh MR y hy).2 hn)
        have KB:∀y∈mY (.slice (some ⟨g2,0,none⟩) L2.length c2) L2 (j+1),y ∉ bf v3 (La++L3):=λy hy hn=>by
         rcases gj.foot y (mem_cons_of_mem _ hn) with q|q
         .rcases mem_cons.1 q with rfl|q
          .have h1:=(uh MS).geB _ hy;have h2:=(uh HJ).1.ol;omega
          .rcases mem_append.1 q with q|q
           .exact(uh HJ).2.2.1 y (uh MR y hy).1 q
           .exact(uh MR y hy).2 q
         .have:=(uh MS).lt y hy;omega
        have Ps:L3.length<=2:=by
         have:=ui x.f cx;rw[<-Dl,length_map]at this;exact this
        have Cl:(La++L3).map (·.f)=(((eO f c k).take (j+1)).foldl (λr g=>Ci r g (g.cl.getD (1+v) 0)) R).1:=by
         rw[uh yd,map_append,(uh HJ).2.2.2.1,Dl];rfl
        have OO:(fv||(gV x.f cx).2)=(fu||(((eO f c k).take (j+1)).foldl (λr g=>Ci r g (g.cl.getD (1+v) 0)) R).2):=by
         rw[uh yd,(uh HJ).2.2.2.2,Bool.or_assoc];rfl
        obtain⟨a3,c3,hv3,-,-⟩:=am m8.row;subst hv3;have HN:=ab (zq2 OT (zq2 KG (zq2 KB (zq2 Cl OO))));have yr:(La++L3).length<=4*k+2*(j+1):=(by rw[length_append];omega);clear m8 Dl Dc gj OT KG KB Cl OO Em HJ MS MR HWG yd ax xc;go_wp2_with fail
        go_roundg (G2-1)
        case rel=>exact⟨j+1,La++L3,_,by omega,by go_num,yr,ab (by have h:=uh HN;rw[length_append]at h;exact h)⟩
        case measure=>omega
       .have k6:decide ((j:Int)<(L2.length:Int))=false:=(by simp;omega);have tf:(eO f c k).length<=j:=(by rw[<-uh EZ,length_map];omega);have hN:=uh hJ;rw[take_of_length_le tf,<-uh di]at hN;have HN:=ab (zq2 hN.1 (zq2 hN.2.2.2.1 hN.2.2.2.2));have yr:La.length<=4*(k+1):=(by omega);obtain⟨lva,lvc,FW,-,-⟩:=am hN.1.fl.row;subst FW;clear hN hJ tf;go_wp2_with fail
        go_roundg (G-1)
        case rel=>exact⟨k+1,La,fv,by omega,by go_num,yr,HN⟩
        case measure=>omega
     .have hd:decide ((k:Int)<(f.ow.length:Int))=false:=(by simp;omega);have kI:k=f.ow.length:=(by omega);have HE:Hid (c9 f v=(R.1,!aV f c n,true,R.2)):=ab (by rw[uh ad8,hR,kI]);clear kI hR;go_wp2_with fail
      go_ret;refine⟨_,L,rfl,(uh hI).1.fl,by rw[uh HE];exact(uh hI).2.1,?_,(uh hI).1.st⟩;rw[uh HE];have h1:=(uh hI).1.bo;rw[uh HNB,(uh hI).2.2]at h1;simpa using h1
   .rw[yl]at Pz;obtain⟨W10,qF⟩:∃W10,W10=w9:=⟨_,rfl⟩;have HW:Hid (Bk W10 O 280 [nv,tv,.bool nb,.bool true,.bool fu]/\eQ W10 A f av ov/\ar [O] w1 [O] W10):=ab ⟨by
     rw[qF,Pz];simpa using uh J3,by rw[qF];exact uh H9,by rw[qF];exact uh HS9⟩
    clear Pz yl J3 H9 HS9;go_upto_region 11 with fail;rw[<-qF];clear qF;have FG:Ol w1 (W10.alloc (.cells #[] 126)) O nv tv nb true fu A f av ov (.slice (some ⟨W10.heap.size,0,none⟩) 0 0) []:=by
     obtain⟨q1,q2,q3⟩:=uh HW;have cf:=ah W10 (.cells #[] 126);refine⟨⟨?_,λx hx=>by simp at hx,λx hx=>by simp at hx,by simp[bf,Value.ownBlock]⟩,q1.below cf,q2.below cf,?_,uh HOL,uh Tf,uh HLT⟩
     .have:=ownsRow_lit (base:=W10.heap.size) (e:=126) (size:=1) W10 #[] 0 (zq4 _) (by simp[maxLen]) rfl;exact dZ this q3.size
     .refine(q3.trans (ar.ofBw cf)).foots (λk hk=>?_);rcases mem_cons.1 hk with rfl|hk
      .exact zq0 (by simp)
      .right;have e:k=W10.heap.size:=(by simpa[bf,Value.ownBlock,eq_comm] using hk);rw[e];exact q3.size
    have cG:=ab FG;have hc6:=FG.ff.c6;clear FG HW;go_wp2_with fail
    go_loopg [9,10] f.ow.length (λgn lv iv wx=>∃(k:Nat) (L:List FE) (fu':Bool),k+gn=f.ow.length/\iv=.int .i64 k/\L.length<=4*k/\Hid (Ol w1 wx O nv tv nb true fu' A f av ov lv L/\L.map (·.f)=((range k).foldl (λr i=>uE f v i r) ([],false)).1/\fu'=(fu||((range k).foldl (λr i=>uE f v i r) ([],false)).2)))
    case atStart=>exact⟨0,[],fu,by omega,rfl,by simp,ab ⟨uh cG,rfl,by simp⟩⟩
    case round =>
     clear cG hc6;obtain⟨k,L,fu',gw,rfl,ZN,hI⟩:=hrel;obtain⟨G,hG⟩:∃G,G=gk:=⟨_,rfl⟩;obtain⟨R,hR⟩:∃R,R=(range k).foldl (λr i=>uE f v i r) (([]:List CF),false):=⟨_,rfl⟩;rw[<-hR]at hI;obtain⟨la,lc,iw,-,-⟩:=am (uh hI).1.fl.row;subst iw;have c6:=(uh hI).1.ff.c6;obtain⟨oa,oc,gy,-,-⟩:=am (uh hI).1.ff.ow;rw[gy]at c6;clear gy;by_cases au:k<f.ow.length
     .have hd:decide ((k:Int)<(f.ow.length:Int))=true:=(by simp;omega);have aP:(range (k+1)).foldl (λr i=>uE f v i r) (([]:List CF),false)=(eO f c k).foldl (λr g=>Ci r g (g.cl.getD (1+v) 0)) R:=by
       rw[wU,<-hR,uh HC];rfl
      have di:=ab aP;have B8:=ab (Gq (uh hI).1.ff (uh HO) ha AD au);have Su:=q8 f c k;have HMk:=ab (Bq (N:=40000) hv (uh HO) ha (by rw[<-uh HC];exact uh HBN) au);rw[<-uh HC]at HMk;have i4:(0:Int)<=(k:Int):=(by omega);clear aP hR;go_wp2_with fail
      refine(uh B8).mono ?_;rintro e w2 ⟨v2,L2,rfl,Dh,th,aW⟩;have OS:=(uh hI).1.below aW;have OU:=Dh.pend;have ZK:L2.length=(eO f c k).length:=(by rw[<-th,length_map]);have Xu:∀x∈mY v2 L2 0,x ∉ bf (.slice la L.length lc) L:=λx hx hn=>by
       have h1:=OU.geB x hx;have h2:=(uh hI).1.fl.lt x hn;omega
      have hwB:w1.heap.size<=wr.heap.size:=(uh hI).1.st.size;obtain⟨B2,C3⟩:∃B2,B2=wr.heap.size:=⟨_,rfl⟩;rw[<-C3]at OU hwB;obtain⟨a2,c2,AO,-,-⟩:=am OU.row;subst AO;have oP:=ab (zq2 OS (zq2 OU (zq2 Xu (zq2 (uh hI).2.1 (uh hI).2.2))));have EZ:=ab th;have ae9:L2.length<=2:=(by omega);clear Dh th aW OS OU Xu hI B8 C3 c6 ZK Su;go_wp2_with fail
      go_loopg [9,66] L2.length (λgn lv iv wx=>∃(j:Nat) (La:List FE) (fv:Bool),j+gn=L2.length/\iv=.int .i64 j/\La.length<=4*k+2*j/\Hid (Ol w1 wx O nv tv nb true fv A f av ov lv La/\gp wx B2 (.slice a2 L2.length c2) L2 j/\(∀x∈mY (.slice a2 L2.length c2) L2 j,x ∉ bf lv La)/\La.map (·.f)=(((eO f c k).take j).foldl (λr g=>Ci r g (g.cl.getD (1+v) 0)) R).1/\fv=(fu||(((eO f c k).take j).foldl (λr g=>Ci r g (g.cl.getD (1+v) 0)) R).2)))
      case atStart=>exact⟨0,L,fu',by omega,rfl,by omega,oP⟩
      case round =>
       clear oP;obtain⟨j,La,fv,Cs,rfl,ZM,hJ⟩:=hrel;obtain⟨G2,FD⟩:∃G2,G2=gk:=⟨_,rfl⟩;by_cases fU:j<L2.length
       .have k6:decide ((j:Int)<(L2.length:Int))=true:=(by simp;omega);obtain⟨g2,cap2,dc,ax⟩:=(uh hJ).2.1.cell fU;simp only[Value.slice.injEq,true_and]at dc;obtain⟨rfl,rfl⟩:=dc;obtain⟨hx,hxB,Cn,OW,FH⟩:=(uh hJ).2.1.next fU;have tf:j<(eO f c k).length:=(by rw[<-uh EZ,length_map];exact fU);have hfx:L2[j].f=(eO f c k)[j]:=by
         have:=congrArg (λl=>l[j]?) (uh EZ);simp only[getElem?_map,getElem?_eq_getElem fU,getElem?_eq_getElem tf,Option.map_some,Option.some.injEq]at this;exact this
        have bn:=uh HMk L2[j].f (by rw[hfx];exact getElem_mem tf);have rJ:=xB (λr g=>Ci r g (g.cl.getD (1+v) 0)) R tf;rw[<-hfx]at rJ;obtain⟨x,tR⟩:∃x,x=L2[j]:=⟨_,rfl⟩;rw[<-tR]at ax hx hxB OW FH bn rJ;obtain⟨i',lS⟩:=Option.isSome_iff_exists.1 bn.bg;have FF:=(uh hJ).1;have UT:∀y∈x.bs,w1.heap.size<=y:=λy hy=>zq3 hwB (hxB y hy);obtain⟨lva,lvc,FW,-,-⟩:=am FF.fl.row;subst FW;have Em:=ab (rX FF.fl FF.bo hx bn.ok bn.ln (λy hy=>⟨(FF.ne y hy).1,λhn=>(uh hJ).2.2.1 y (FH y hn) hy⟩) (λhn=>by have h1:=UT _ hn;have h2:=FF.ol;omega) UT FF.st.size lS (by omega));have xc:=hx.is.cls (i:=1+v) (by omega);unfold hU at xc;obtain⟨cx,xR⟩:∃cx,cx=x.f.cl.getD (1+v) 0:=⟨_,rfl⟩;rw[<-xR]at xc Em rJ;have yd:=ab rJ;have MS:=ab Cn;have MR:=ab OW;have HWG:=ab UT;have AQ:x.p=.pointer (some ⟨x.A,0,none⟩):=rfl;rw[AQ]at ax;have i5:(0:Int)<=(j:Int):=(by omega);have i6:(j:Int)<(L2.length:Int):=(by omega);have HJ:=ab (uh hJ);clear hx hxB Cn OW FH tf hfx bn rJ tR lS FF UT xR AQ hJ;go_wp2_with fail
        refine(uh Em).mono ?_;rintro e w3 ⟨v3,L3,rfl,m8,Dl,Dc,gj⟩;have OT:=(uh HJ).1.after (uh HWG) m8 Dc gj;have KG:gp w3 B2 (.slice (some ⟨g2,0,none⟩) L2.length c2) L2 (j+1):=(uh MS).stp gj (λy hy hn=>by
         rcases mem_cons.1 hn with rfl|hn
         .have h1:=(uh MS).geB _ hy;have h2:=(uh HJ).1.ol;omega
         .rcases mem_append.1 hn with hn|hn
          .exact(uh HJ).2.2.1 y (uh MR y hy).1 hn
          .exact(uh MR y hy).2 hn)
        have KB:∀y∈mY (.slice (some ⟨g2,0,none⟩) L2.length c2) L2 (j+1),y ∉ bf v3 (La++L3):=λy hy hn=>by
         rcases gj.foot y (mem_cons_of_mem _ hn) with q|q
         .rcases mem_cons.1 q with rfl|q
          .have h1:=(uh MS).geB _ hy;have h2:=(uh HJ).1.ol;omega
          .rcases mem_append.1 q with q|q
           .exact(uh HJ).2.2.1 y (uh MR y hy).1 q
           .exact(uh MR y hy).2 q
         .have:=(uh MS).lt y hy;omega
        have Ps:L3.length<=2:=by
         have:=ui x.f cx;rw[<-Dl,length_map]at this;exact this
        have Cl:(La++L3).map (·.f)=(((eO f c k).take (j+1)).foldl (λr g=>Ci r g (g.cl.getD (1+v) 0)) R).1:=by
         rw[uh yd,map_append,(uh HJ).2.2.2.1,Dl];rfl
        have OO:(fv||(gV x.f cx).2)=(fu||(((eO f c k).take (j+1)).foldl (λr g=>Ci r g (g.cl.getD (1+v) 0)) R).2):=by
         rw[uh yd,(uh HJ).2.2.2.2,Bool.or_assoc];rfl
        obtain⟨a3,c3,hv3,-,-⟩:=am m8.row;subst hv3;have HN:=ab (zq2 OT (zq2 KG (zq2 KB (zq2 Cl OO))));have yr:(La++L3).length<=4*k+2*(j+1):=(by rw[length_append];omega);clear m8 Dl Dc gj OT KG KB Cl OO Em HJ MS MR HWG yd ax xc;go_wp2_with fail
        go_roundg (G2-1)
        case rel=>exact⟨j+1,La++L3,_,by omega,by go_num,yr,ab (by have h:=uh HN;rw[length_append]at h;exact h)⟩
        case measure=>omega
       .have k6:decide ((j:Int)<(L2.length:Int))=false:=(by simp;omega);have tf:(eO f c k).length<=j:=(by rw[<-uh EZ,length_map];omega);have hN:=uh hJ;rw[take_of_length_le tf,<-uh di]at hN;have HN:=ab (zq2 hN.1 (zq2 hN.2.2.2.1 hN.2.2.2.2));have yr:La.length<=4*(k+1):=(by omega);obtain⟨lva,lvc,FW,-,-⟩:=am hN.1.fl.row;subst FW;clear hN hJ tf;go_wp2_with fail
        go_roundg (G-1)
        case rel=>exact⟨k+1,La,fv,by omega,by go_num,yr,HN⟩
        case measure=>omega
     .have hd:decide ((k:Int)<(f.ow.length:Int))=false:=(by simp;omega);have kI:k=f.ow.length:=(by omega);have HE:Hid (c9 f v=(R.1,!aV f c n,true,R.2)):=ab (by rw[uh ad8,hR,kI]);clear kI hR;go_wp2_with fail
      go_ret;refine⟨_,L,rfl,(uh hI).1.fl,by rw[uh HE];exact(uh hI).2.1,?_,(uh hI).1.st⟩;rw[uh HE];have h1:=(uh hI).1.bo;rw[uh HNB,(uh hI).2.2]at h1;simpa using h1
end
structure Os(w W:World)(O A:Nat)(f:CF)(av ov:Value)(nu da fu:Bool)(nv tv:Value)(Ln Lt:List FE):Prop where
 oo:Oo W O nu da fu nv tv Ln Lt
 ff:eQ W A f av ov
 st:ar [O] w (eR O nv tv Ln Lt) W
 ol:O<w.heap.size
 of:O ∉ aG A av ov
 fw:∀k∈aG A av ov,k<w.heap.size
def pG(w:World)(O:Nat)(o:MX)(w':World):Prop:=∃nv tv Ln Lt,Oo w' O o.nu o.da o.fu nv tv Ln Lt/\Ln.map (·.f)=o.nx/\Lt.map (·.f)=o.ot/\ar [O] w (eR O nv tv Ln Lt) w'
section
variable {w W W':World} {O A:Nat} {f:CF} {av ov nv tv:Value} {nu da fu:Bool} {Ln Lt:List FE}
theorem Os.start(h:Oo w O nu da fu nv tv Ln Lt)(hf:eQ w A f av ov)(hn:eR O nv tv Ln Lt=[O])(hof:O ∉ aG A av ov):Os w w O A f av ov nu da fu nv tv Ln Lt:=⟨h,hf,(ar.refl [O] w).foots (λk hk=>by rw[hn]at hk;exact zq0 hk),h.bk.lt,hof,hf.lt⟩
theorem Os.ge(h:Os w W O A f av ov nu da fu nv tv Ln Lt):∀k∈eR O nv tv Ln Lt,k=O\/w.heap.size<=k:=λk hk=>by
 rcases h.st.foot k hk with q|q
 .exact zq0 (by simpa using q)
 .exact zq1 q
theorem Os.below(h:Os w W O A f av ov nu da fu nv tv Ln Lt)(hb:Below W.heap.size W W'):Os w W' O A f av ov nu da fu nv tv Ln Lt :=
 ⟨h.oo.below hb,h.ff.below hb,⟨hb.os.trans h.st.os,hb.tape.trans h.st.tape,hb.output.trans h.st.output,zq3 h.st.size hb.size,λk hk hn=>(hb.block k (zq6 hk h.st.size)).trans (h.st.block k hk hn),h.st.foot⟩,h.ol,h.of,h.fw⟩
theorem Os.fresh(h:Os w W O A f av ov nu da fu nv tv Ln Lt){x:FE}(hx:∀k∈x.bs,W.heap.size<=k):∀k∈x.bs,k ∉ eR O nv tv Ln Lt:=λk hk hn=>by have:=hx k hk;have:=h.oo.lt k hn;omega
theorem Os.next{B:List Nat}{nv' tv':Value}{Ln' Lt':List FE}{nu' da' fu':Bool}(h:Os w W O A f av ov nu da fu nv tv Ln Lt)(hB:∀k∈B,w.heap.size<=k)(h1:Oo W' O nu' da' fu' nv' tv' Ln' Lt')(hs:ar (eR O nv tv Ln Lt++B) W (eR O nv' tv' Ln' Lt') W'):Os w W' O A f av ov nu' da' fu' nv' tv' Ln' Lt':=by
 have key:∀k,k<w.heap.size->k≠O->k ∉ eR O nv tv Ln Lt++B:=λk hk aH hn=>by
  rcases mem_append.1 hn with hn|hn
  .rcases h.ge k hn with q|q
   .exact aH q
   .omega
  .have:=hB k hn;omega
 refine⟨h1,h.ff.of_eq (λk hk=>hs.block k (h.ff.lt k hk) (key k (h.fw k hk) (λe=>h.of (by rw[<-e];exact hk)))),⟨hs.os.trans h.st.os,hs.tape.trans h.st.tape,hs.output.trans h.st.output,zq3 h.st.size hs.size,λk hk hn=>?_,λk hk=>?_⟩,h.ol,h.of,h.fw⟩
 .exact(hs.block k (zq6 hk h.st.size) (key k hk (by simpa using hn))).trans (h.st.block k hk hn)
 .rcases hs.foot k hk with q|q
  .rcases mem_append.1 q with q|q
   .exact h.st.foot k q
   .exact zq1 (hB k q)
  .exact zq1 (zq3 h.st.size q)
theorem Os.out{o:MX}(h:Os w W O A f av ov o.nu o.da o.fu nv tv Ln Lt)(h1:Ln.map (·.f)=o.nx)(h2:Lt.map (·.f)=o.ot):pG w O o W:=⟨nv,tv,Ln,Lt,h.oo,h1,h2,h.st⟩
theorem Fa{v c:Nat}(h:Os w w O A f av ov false false false (.slice none 0 0) (.slice none 0 0) [] [])(hO:aj f)(ha:f.ap.length<=40000)(hv:v<4)(hc:c<24):
  Calls prog 235 #[.pointer (some ⟨O,0,none⟩),.pointer (some ⟨A,0,none⟩),.int .i64 v,.int .i64 c] w λe w'=>e=.returned (.tuple #[])/\pG w O ⟨[aQ (setC f (1+v) c)],[],false,false,false⟩ w':=by
 have iJ:=hO.owLen;have kZ:=ab (cQ h.ff hO.c5 ha (zq3 iJ (by omega)));have H:=ab h;have HO:=ab hO;have i1:(0:Int)<=1+(v:Int):=by omega
 have i2:1+(v:Int)<5:=by omega
 have i3:(1+(v:Int)).toNat=1+v:=by omega
 clear h hO;go_enter func235,ntmps235;go_wp2_with fail
 refine(uh kZ).mono ?_;rintro e w1 ⟨A1,rfl,rI⟩;obtain⟨av1,ov1,UA⟩:=rI.frf;have x1:=UA.fm.is.cls (i:=1+v) (by omega);have z1:=ownsRow.frozenAt UA.fm.is.ob (1+v);have pq:=UA.fm.setCl (1+v) c (by omega);obtain⟨w2,tq⟩:∃w2,w2=w1.setCell ⟨A1,1+v,none⟩ (.int .i64 (c:Int)):=⟨_,rfl⟩;rw[<-tq]at pq;have gT:ar (aG A1 av1 ov1) w1 (aG A1 av1 ov1) w2:=by rw[tq];exact(ar.refl _ _).setCell (p:=⟨A1,1+v,none⟩) (zq0 (by simp[aG])) _
 have mK:=UA.step (x':=⟨A1,setC f (1+v) c,av1,ov1⟩) pq gT;have ZQ:=(uh H).below mK.bw;have rM:=ab (iF ZQ.oo mK.fm ((uh HO).sC (1+v) hc) (zq3 ha (by omega)) ((uh H).fresh mK.ge) (by simp));have HO2:=ab ZQ;have Eo:=ab mK.ge;clear rI UA pq gT mK ZQ kZ;go_upto_region 2 with fail;rw[<-tq];clear tq x1 z1;go_wp2_with fail
 refine(uh rM).mono ?_;rintro e w3 ⟨rfl,nv3,x3,-,hx3,agx,gj⟩;have HN:=ab ((uh HO2).next (uh Eo) agx gj);have HX:=ab hx3;clear agx gj hx3 rM;go_wp2_with fail
 go_end0
 exact⟨rfl,(uh HN).out (o:=⟨[aQ (setC f (1+v) c)],[],false,false,false⟩) (by simp[uh HX]) rfl⟩
theorem Fj{v:Nat}(h:Os w w O A f av ov false false false (.slice none 0 0) (.slice none 0 0) [] [])(hO:aj f)(ha:f.ap.length<=40000)(hv:v<4):
  Calls prog 239 #[.pointer (some ⟨O,0,none⟩),.pointer (some ⟨A,0,none⟩),.int .i64 v] w λe w'=>e=.returned (.tuple #[])/\pG w O (if 24<=aw f then ⟨[],[],false,false,true⟩ else ⟨[aQ (Ev f v)],[],false,false,false⟩) w':=by
 have iJ:=hO.owLen;have Cu:aw f<=100000:=by
  unfold aw;have h1:=DK hO;omega
 have Si:=ab (vM h.ff (zq3 ha (by omega)) (zq3 iJ (by omega)) Cu);obtain⟨N,hN⟩:∃N,N=aw f:=⟨_,rfl⟩;have tY:=ab hN;rw[<-hN]at Si Cu ⊢;obtain⟨oR,hoR⟩:∃oR:MX,oR=if 24<=N then ⟨[],[],false,false,true⟩ else ⟨[aQ (Ev f v)],[],false,false,false⟩:=⟨_,rfl⟩
 rw[<-hoR];have MP:=ab hoR;clear hoR;have H:=ab h;have HO:=ab hO;have i1:(0:Int)<=1+(v:Int):=by omega
 have i2:1+(v:Int)<5:=by omega
 have i3:(1+(v:Int)).toNat=1+v:=by omega
 clear h hO hN;go_enter func239,ntmps239;go_wp2_with fail
 refine(uh Si).mono ?_;rintro e w1 ⟨rfl,bB⟩;have uo:=(uh H).below bB;have Tc:=ab uo;clear bB Si;by_cases qI:24<=N
 .have d5:decide ((24:Int)<=(N:Int))=true:=by simp;omega
  have o4:=uo.oo.bk.cell 4 rfl;have z4:=uo.oo.bk.frz 4;have HN:=ab (uo.next (B:=[]) (λk hk=>by simp at hk) (uo.oo.flag (nu':=false) (da':=false) (fu':=true) 4 (by omega) rfl) (((ar.refl (eR O (.slice none 0 0) (.slice none 0 0) [] []) w1).setCell (p:=⟨O,4,none⟩) (zq0 (by simp[eR])) (.bool true)).wide (by simp) |>.foots (λk hk=>zq0 (by simpa using hk))));have Sj:Hid (oR=⟨[],[],false,false,true⟩):=ab (by rw[uh MP,if_pos qI]);clear uo qI;go_wp2_with fail
  refine bodyPost_ret (v:=.tuple #[]) (by simp[results,Tryz.results239]) rfl ?_;exact⟨rfl,by rw[uh Sj];exact(uh HN).out (o:=⟨[],[],false,false,true⟩) rfl rfl⟩
 .have d5:decide ((24:Int)<=(N:Int))=false:=by simp;omega
  have Sj:Hid (oR=⟨[aQ (Ev f v)],[],false,false,false⟩):=ab (by rw[uh MP,if_neg qI]);have kZ:=ab (cQ uo.ff (uh HO).c5 ha (zq3 iJ (by omega)));have akH:N<24:=by omega
  clear qI uo;go_wp2_with fail
  refine(uh kZ).mono ?_;rintro e w2 ⟨A2,rfl,C5⟩;obtain⟨av2,ov2,mK⟩:=C5.frf;have x0:=mK.fm.is.cls (i:=0) (by omega);unfold hU at x0;obtain⟨n0,sl⟩:∃n0,n0=f.cl.getD 0 0:=⟨_,rfl⟩;rw[show(({ A:=A2,f:=f,av:=av2,ov:=ov2 }:FE).f.cl.getD 0 0:Nat)=n0 from sl.symm]at x0;have yH:=ab (qX mK.fm 3 N n0 (zq3 iJ (by omega)));have ya:=ab mK;have HN0:=ab sl;clear C5 mK kZ sl;go_wp2_with fail
  refine(uh yH).mono ?_;rintro e w3 ⟨rfl,ov3,Ey,cS⟩;have m7:=(uh ya).step (x':=⟨A2,mf f ⟨3,N,n0⟩,av2,ov3⟩) Ey cS;have x1:=m7.fm.is.cls (i:=1+v) (by omega);have z1:=ownsRow.frozenAt m7.fm.is.ob (1+v);have se:=m7.fm.setCl (1+v) N (by omega);obtain⟨w4,SL⟩:∃w4,w4=w3.setCell ⟨A2,1+v,none⟩ (.int .i64 (N:Int)):=⟨_,rfl⟩;rw[<-SL]at se;have wb:ar (aG A2 av2 ov3) w3 (aG A2 av2 ov3) w4:=by rw[SL];exact(ar.refl _ _).setCell (p:=⟨A2,1+v,none⟩) (zq0 (by simp[aG])) _
  have hcr:setC (mf f ⟨3,N,n0⟩) (1+v) N=Ev f v:=by unfold Ev;rw[<-uh tY,<-uh HN0]
  have AG:=m7.step (x':=⟨A2,Ev f v,av2,ov3⟩) (by rw[<-hcr];exact se) wb;have KE:=(uh Tc).below AG.bw;have rM:=ab (iF KE.oo AG.fm (rS (uh HO) (by rw[<-uh tY];exact akH)) (zq3 ha (by omega)) ((uh Tc).fresh AG.ge) (by simp));have HO4:=ab KE;have Eo:=ab (λk hk=>zq3 (uh Tc).st.size (AG.ge k hk));clear m7 Ey cS se wb AG KE yH hcr;go_upto_region 6 with fail;rw[<-SL];clear SL x1 z1 x0;go_wp2_with fail
  refine(uh rM).mono ?_;rintro e w5 ⟨rfl,nv5,x5,-,hx5,agy,qN⟩;have HN:=ab ((uh HO4).next (uh Eo) agy qN);have HX:=ab hx5;clear agy qN hx5 rM;go_wp2_with fail
  go_end0
  exact⟨rfl,by rw[uh Sj];exact(uh HN).out (o:=⟨[aQ (Ev f v)],[],false,false,false⟩) (by simp[uh HX]) rfl⟩
end
def SP(n:Nd):Value:=.agg #[.int .i64 (n.op:Int),.int .i64 (n.v:Int),.int .i64 (n.ak:Int),.int .i64 (n.ai:Int),.int .i64 (n.nx:Int),.int .i64 (n.ot:Int)]
theorem dK(w:World)(n:Nat):Below w.heap.size w (w.drewN n):=⟨rfl,rfl,rfl,zq4 _,λ_ _=>rfl⟩
section
variable {w W W':World} {O A:Nat} {f:CF} {av ov nv tv:Value} {nu da fu:Bool} {Ln Lt:List FE}
theorem sV{n:Nd}(h:Os w w O A f av ov false false false (.slice none 0 0) (.slice none 0 0) [] [])(hO:aj f)(ha:f.ap.length<=40000)(hv:n.v<4)(hi:n.ai<4):
  Calls prog 244 #[.pointer (some ⟨O,0,none⟩),.pointer (some ⟨A,0,none⟩),SP n] w λe w'=>e=.returned (.tuple #[])/\pG w O ⟨(mu f n).1,(mu f n).2,false,false,false⟩ w':=by
 have iJ:=hO.owLen;have oU:mu f n=(if aV f (f.cl.getD (1+n.v) 0) (clT f n.ak n.ai)=true then [] else [aQ (mM f (f.cl.getD (1+n.v) 0) (clT f n.ak n.ai))],if f.cl.getD (1+n.v) 0=clT f n.ak n.ai then [] else [aQ (cg f (f.cl.getD (1+n.v) 0) (clT f n.ak n.ai))]):=rfl;obtain⟨op,v,ak,ai,nx,ot⟩:=n;simp only at hv hi oU;unfold SP;simp only;obtain⟨W1,d9⟩:∃W1,W1=w.alloc (.cells #[Value.int .i64 (op:Int),.int .i64 (v:Int),.int .i64 (ak:Int),.int .i64 (ai:Int),.int .i64 (nx:Int),.int .i64 (ot:Int)] 186):=⟨_,rfl⟩;have cf:Below w.heap.size w W1:=by rw[d9];exact ah w _
 have hX:Bk W1 w.heap.size 186 [Value.int .i64 (op:Int),.int .i64 (v:Int),.int .i64 (ak:Int),.int .i64 (ai:Int),.int .i64 (nx:Int),.int .i64 (ot:Int)]:=by rw[d9];exact Bk.new w _ _
 obtain⟨X,gW⟩:∃X,X=w.heap.size:=⟨_,rfl⟩;rw[<-gW]at hX;have uo:=h.below cf;have b1:=hX.cell 1 rfl;have b2:=hX.cell 2 rfl;have b3:=hX.cell 3 rfl;have x1:=uo.ff.cls (i:=1+v) (by omega);unfold hU at x1;obtain⟨a,haE⟩:∃a,a=f.cl.getD (1+v) 0:=⟨_,rfl⟩;obtain⟨b,hbE⟩:∃b,b=clT f ak ai:=⟨_,rfl⟩;rw[<-haE]at x1;rw[<-haE,<-hbE]at oU;have C8:a<24:=by rw[haE];exact hO.get _
 have afB:b<24:=by rw[hbE];exact hO.cT _ _
 have i1:(0:Int)<=1+(v:Int):=by omega
 have i2:1+(v:Int)<5:=by omega
 have i3:(1+(v:Int)).toNat=1+v:=by omega
 obtain⟨oR,hoR⟩:∃oR:MX,oR=⟨(mu f ⟨op,v,ak,ai,nx,ot⟩).1,(mu f ⟨op,v,ak,ai,nx,ot⟩).2,false,false,false⟩:=⟨_,rfl⟩;rw[<-hoR];rw[oU]at hoR;have MP:=ab hoR;have HO:=ab hO;have H1:=ab uo;have EX:=ab hbE;clear h hO uo hoR oU cf hX haE hbE;go_enter func244,ntmps244;go_upto_region 1 with fail;rw[<-d9,<-gW];clear d9 gW;go_quiet (fail)
 obtain⟨W2,jw⟩:∃W2,W2=W1.drewN nq:=⟨_,rfl⟩;rw[<-jw];have aW:Below W1.heap.size W1 W2:=by rw[jw];exact dK W1 nq
 have d2:W2.cell? ⟨X,2,none⟩=some (.int .i64 (ak:Int)):=by rw[jw];exact b2
 have d3:W2.cell? ⟨X,3,none⟩=some (.int .i64 (ai:Int)):=by rw[jw];exact b3
 have ZQ:=(uh H1).below aW;have xK:=ab (rR ZQ.ff ak ai hi);rw[<-uh EX]at xK;have H2:=ab ZQ;clear jw aW ZQ b1 b2 b3 x1 H1;go_wp2_with fail
 refine(uh xK).mono ?_;rintro e W3 ⟨rfl,dy⟩;have OQ:=(uh H2).below dy;have Wz:=ab (l7 a b OQ.ff);have H3:=ab OQ;clear dy OQ H2 xK d2 d3;go_wp2_with fail
 refine(uh Wz).mono ?_;rintro e W4 ⟨rfl,nV⟩;have KE:=(uh H3).below nV;have H4:=ab KE;clear nV H3 Wz;cases yl:aV f a b
 .-- it may be equal
  rw[yl]at MP;have kZ:=ab (cQ KE.ff (uh HO).c5 ha (zq3 iJ (by omega)));have El:=ab (io yl);clear KE yl;go_wp2_with fail
  refine(uh kZ).mono ?_;rintro e W5 ⟨A5,rfl,hN5⟩;obtain⟨av5,ov5,Dg⟩:=hN5.frf;have HJO:=ab (zc Dg.fm (zq3 ha (by omega)) (zq3 iJ (by omega)) a b);have WB:=ab Dg;clear hN5 Dg kZ;go_wp2_with fail
  refine(uh HJO).mono ?_;rintro e W6 ⟨rfl,Ul,KI⟩;have Mq:=(uh WB).step (x':=⟨A5,mM f a b,av5,ov5⟩) Ul KI;have hO6:=(uh H4).below Mq.bw;have rM:=ab (iF hO6.oo Mq.fm ((uh HO).jo C8 (uh El)) (by
   show(f.ap.map _).length<=100000;rw[length_map];omega) ((uh H4).fresh Mq.ge) (by simp))
  have H6:=ab hO6;have Eo:=ab (λk hk=>zq3 (uh H4).st.size (Mq.ge k hk));clear Ul KI Mq hO6 HJO;go_wp2_with fail
  refine(uh rM).mono ?_;rintro e W7 ⟨rfl,nv7,x7,-,hx7,agA,zp⟩;have hO7:=(uh H6).next (uh Eo) agA zp;have H7:=ab hO7;have HX7:=ab hx7;clear agA zp hx7 rM;by_cases si:a=b
  .have d1:((a:Int) != (b:Int))=false:=(by simp[si]);have Sj:Hid (oR=⟨[aQ (mM f a b)],[],false,false,false⟩):=ab (by rw[uh MP,if_neg (by decide),if_pos si]);clear si hO7;go_wp2_with fail
   go_end0
   exact⟨rfl,by rw[uh Sj];exact(uh H7).out (o:=⟨[aQ (mM f a b)],[],false,false,false⟩) (by simp[uh HX7]) rfl⟩
  .have d1:((a:Int) != (b:Int))=true:=(by rw[bne_iff_ne];omega);have Sj:Hid (oR=⟨[aQ (mM f a b)],[aQ (cg f a b)],false,false,false⟩):=ab (by rw[uh MP,if_neg (by decide),if_neg si]);have kZ:=ab (cQ hO7.ff (uh HO).c5 ha (zq3 iJ (by omega)));clear si hO7;go_wp2_with fail
   refine(uh kZ).mono ?_;rintro e W8 ⟨A8,rfl,hN8⟩;obtain⟨av8,ov8,xS⟩:=hN8.frf;have WG:=ab (rh xS.fm a b (zq3 ha (by omega)));have S8:=ab xS;clear hN8 xS kZ;go_wp2_with fail
   refine(uh WG).mono ?_;rintro e W9 ⟨rfl,av9,OL,OZ⟩;have yo:=(uh S8).step (x':=⟨A8,cg f a b,av9,ov8⟩) OL OZ;have ZR:=(uh H7).below yo.bw;have WQ:=ab (xE ZR.oo yo.fm ((uh HO).pa C8 afB) (by
    show(f.ap++[_]).length<=100000;rw[length_append,length_singleton];omega) ((uh H7).fresh yo.ge) (by simp))
   have H9:=ab ZR;have Yr:=ab (λk hk=>zq3 (uh H7).st.size (yo.ge k hk));clear OL OZ yo ZR WG;go_wp2_with fail
   refine(uh WQ).mono ?_;rintro e Wa ⟨rfl,tva,xa,-,hxa,PF,Gc⟩;have HN:=ab ((uh H9).next (uh Yr) PF Gc);have HXA:=ab hxa;clear PF Gc hxa WQ;go_wp2_with fail
   go_end0
   exact⟨rfl,by rw[uh Sj];exact(uh HN).out (o:=⟨[aQ (mM f a b)],[aQ (cg f a b)],false,false,false⟩) (by simp[uh HX7]) (by simp[uh HXA])⟩
 .rw[yl]at MP;have si:a≠b:=λe=>by rw[e]at yl;unfold aV at yl;simp at yl
  have d1:((a:Int) != (b:Int))=true:=by rw[bne_iff_ne];omega
  have Sj:Hid (oR=⟨[],[aQ (cg f a b)],false,false,false⟩):=ab (by rw[uh MP,if_pos rfl,if_neg si]);have kZ:=ab (cQ KE.ff (uh HO).c5 ha (zq3 iJ (by omega)));clear si KE yl;go_wp2_with fail
  refine(uh kZ).mono ?_;rintro e W8 ⟨A8,rfl,hN8⟩;obtain⟨av8,ov8,xS⟩:=hN8.frf;have WG:=ab (rh xS.fm a b (zq3 ha (by omega)));have S8:=ab xS;clear hN8 xS kZ;go_wp2_with fail
  refine(uh WG).mono ?_;rintro e W9 ⟨rfl,av9,OL,OZ⟩;have yo:=(uh S8).step (x':=⟨A8,cg f a b,av9,ov8⟩) OL OZ;have ZR:=(uh H4).below yo.bw;have WQ:=ab (xE ZR.oo yo.fm ((uh HO).pa C8 afB) (by
   show(f.ap++[_]).length<=100000;rw[length_append,length_singleton];omega) ((uh H4).fresh yo.ge) (by simp))
  have H9:=ab ZR;have Yr:=ab (λk hk=>zq3 (uh H4).st.size (yo.ge k hk));clear OL OZ yo ZR WG;go_wp2_with fail
  refine(uh WQ).mono ?_;rintro e Wa ⟨rfl,tva,xa,-,hxa,PF,Gc⟩;have HN:=ab ((uh H9).next (uh Yr) PF Gc);have HXA:=ab hxa;clear PF Gc hxa WQ;go_wp2_with fail
  go_end0
  exact⟨rfl,by rw[uh Sj];exact(uh HN).out (o:=⟨[],[aQ (cg f a b)],false,false,false⟩) rfl (by simp[uh HXA])⟩
end
def dD:Value:=.slice none 0 0
structure Lo(w W:World)(O A:Nat)(f:CF)(av ov:Value)(nu da fu:Bool)(nv:Value)(Ln:List FE)(B:Nat)(lv:Value)(L:List FE)(j:Nat):Prop where
 os:Os w W O A f av ov nu da fu nv dD Ln []
 pe:gp W B lv L j
 dj:∀k∈mY lv L j,k ∉ eR O nv dD Ln []
 wB:w.heap.size<=B
section
variable {w W W':World} {O A:Nat} {f:CF} {av ov nv lv:Value} {nu da fu:Bool} {Ln L:List FE} {B j:Nat}
theorem Lo.mid{x':FE}(h:Lo w W O A f av ov nu da fu nv Ln B lv L j)(hj:j<L.length)(hs:ar L[j].bs W x'.bs W'):
  Os w W' O A f av ov nu da fu nv dD Ln []/\(∀k∈x'.bs,k ∉ eR O nv dD Ln [])/\(∀k∈x'.bs,w.heap.size<=k)/\gp W' B lv L (j+1)/\(∀k∈mY lv L (j+1),k ∉ eR O nv dD Ln []/\k ∉ x'.bs):=by
 obtain⟨h1,h2,h3,h4,h5⟩:=h.pe.next hj;have Dp:∀k∈L[j].bs,k ∉ eR O nv dD Ln []:=λk hk=>h.dj k (h5 k hk);have tO:Oo W' O nu da fu nv dD Ln []:=h.os.oo.stp hs (λk hk hn=>Dp k hn hk);refine⟨h.os.next (B:=L[j].bs) (λk hk=>zq3 h.wB (h2 k hk)) tO ((hs.wide (λk hk=>mem_append_right _ hk)).foots (λk hk=>zq0 (mem_append_left _ hk))),λk hk hn=>?_,λk hk=>?_,h3.stp hs (λk hk hn=>(h4 k hk).2 hn),λk hk=>⟨h.dj k (h4 k hk).1,λhn=>?_⟩⟩
 .rcases hs.foot k hk with q|q
  .exact Dp k q hn
  .have:=h.os.oo.lt k hn;omega
 .rcases hs.foot k hk with q|q
  .exact zq3 h.wB (h2 k q)
  .exact zq3 h.os.st.size q
 .rcases hs.foot k hn with q|q
  .exact(h4 k hk).2 q
  .have:=h3.lt k hk;omega
theorem Lo.fin {x' y:FE} {nv':Value} {W'':World} (hO:Os w W' O A f av ov nu da fu nv dD Ln []) (cX:∀k∈x'.bs,w.heap.size<=k) (hP:gp W' B lv L (j+1)) (hd:∀k∈mY lv L (j+1),k ∉ eR O nv dD Ln []/\k ∉ x'.bs) (hw:w.heap.size<=B)
  (tO:Oo W'' O nu da fu nv' dD (Ln++[y]) []) (hs:ar (eR O nv dD Ln []++x'.bs) W' (eR O nv' dD (Ln++[y]) []) W''):Lo w W'' O A f av ov nu da fu nv' (Ln++[y]) B lv L (j+1):=by
 have hn:∀k∈mY lv L (j+1),k ∉ eR O nv dD Ln []++x'.bs:=λk hk hm=>by
  rcases mem_append.1 hm with q|q
  .exact(hd k hk).1 q
  .exact(hd k hk).2 q
 refine⟨hO.next cX tO hs,hP.stp hs hn,λk hk hm=>?_,hw⟩;rcases hs.foot k hm with q|q
 .exact hn k hk q
 .have:=hP.lt k hk;omega
theorem Lo.start{w2:World}{nu' da' fu':Bool}(h:Os w W O A f av ov nu da fu dD dD [] [])(jx:Fl w2 W.heap.size lv L)(EC:Bk w2 O 280 [dD,dD,.bool nu',.bool da',.bool fu'])(hs:ar [O] W (O::bf lv L) w2):Lo w w2 O A f av ov nu' da' fu' dD [] W.heap.size lv L 0:=by
 have hfp:eR O dD dD [] []=[O]:=rfl;have tM:Fl w2 0 dD []:=Fl.nil0 w2 0;refine⟨⟨⟨EC,tM,tM,by simp[bf,dD,Value.ownBlock]⟩,h.ff.of_eq (λk hk=>hs.block k (h.ff.lt k hk) (λhn=>h.of (by rw[mem_singleton]at hn;rw[<-hn];exact hk))),?_,h.ol,h.of,h.fw⟩,jx.pend,λk hk hn=>?_,h.st.size⟩
 .rw[hfp];have h0:=h.st;rw[hfp]at h0;exact(h0.trans (hs.foots (F'':=[O]) (λk hk=>zq0 hk)))
 .rw[hfp,mem_singleton]at hn;have h1:=jx.pend.geB k hk;have h2:=h.ol;have h3:=h.st.size;omega
end
