import Derived.Test.YtciihepbeacppaaGreatM16
set_option maxRecDepth 100000
set_option maxHeartbeats 0
namespace Go.Proofs.YtciihepbeacppaaGreat
open Tryz Go.RowKit List World Below
set_option linter.unusedVariables false
def kU(v:Value)(L:List FE)(j:Nat):List Nat:=v.ownBlock.toList++(L.drop j).flatMap FE.bs
structure eQ(W:World)(B:Nat)(v:Value)(L:List FE)(j:Nat):Prop where
 row:W.ownsRow B 126 1 v L.length (L.map FE.p)
 fm:∀x∈L.drop j,Fm W x.A x.f x.av x.ov
 ge:∀x∈L.drop j,∀k∈x.bs,B<=k
 nd:(kU v L j).Nodup
section
variable {W W':World} {B j:Nat} {v:Value} {L:List FE}
theorem Fl.pend(h:Fl W B v L):eQ W B v L 0:=⟨h.row,by simpa using h.fm,by simpa using h.ge,by simpa[kU,a6] using h.nd⟩
theorem eQ.lt(h:eQ W B v L j):∀k∈kU v L j,k<W.heap.size:=by
 intro k hk;rcases mem_append.1 hk with hk|hk
 .exact(h.row.lt k (by simpa using hk)).2
 .obtain⟨x,hx,hk⟩:=mem_flatMap.1 hk;exact(h.fm x hx).lt k hk
theorem eQ.geB(h:eQ W B v L j):∀k∈kU v L j,B<=k:=by
 intro k hk;rcases mem_append.1 hk with hk|hk
 .exact(h.row.lt k (by simpa using hk)).1
 .obtain⟨x,hx,hk⟩:=mem_flatMap.1 hk;exact h.ge x hx k hk
theorem eQ.of_eq(h:eQ W B v L j)(he:∀k∈kU v L j,W'.heap[k]?=W.heap[k]?):eQ W' B v L j :=
 ⟨ae h.row (λk hk=>he k (mem_append_left _ (by simpa using hk))),λx hx=>(h.fm x hx).of_eq (λk hk=>he k (mem_append_right _ (mem_flatMap.2 ⟨x,hx,hk⟩))),h.ge,h.nd⟩
theorem eQ.stp{F F':List Nat}(h:eQ W B v L j)(hs:am F W F' W')(hd:∀k∈kU v L j,k ∉ F):eQ W' B v L j:=h.of_eq (λk hk=>hs.block k (h.lt k hk) (hd k hk))
theorem eQ.below(h:eQ W B v L j)(hb:Below W.heap.size W W'):eQ W' B v L j:=h.of_eq (λk hk=>hb.block k (h.lt k hk))
theorem eQ.next(h:eQ W B v L j)(hj:j<L.length):Fm W L[j].A L[j].f L[j].av L[j].ov/\(∀k∈L[j].bs,B<=k)/\eQ W B v L (j+1)/\(∀k∈kU v L (j+1),k∈kU v L j/\k ∉ L[j].bs)/\(∀k∈L[j].bs,k∈kU v L j):=by
 have e:L.drop j=L[j]::L.drop (j+1):=drop_eq_getElem_cons hj;have hm:L[j]∈L.drop j:=by rw[e];exact mem_cons_self
 have Jn:∀x∈L.drop (j+1),x∈L.drop j:=λx hx=>by rw[e];exact mem_cons_of_mem _ hx
 have cH:=h.nd;unfold kU at cH;rw[e,flatMap_cons,nodup_append,nodup_append]at cH;obtain⟨n1,⟨n2,n3,n4⟩,n5⟩:=cH;refine⟨h.fm _ hm,h.ge _ hm,⟨h.row,λx hx=>h.fm x (Jn x hx),λx hx=>h.ge x (Jn x hx),?_⟩,λk hk=>?_,λk hk=>?_⟩
 .unfold kU;rw[nodup_append];exact⟨n1,n3,λa ha b hb=>n5 a ha b (mem_append_right _ hb)⟩
 .rcases mem_append.1 hk with hk|hk
  .exact⟨mem_append_left _ hk,λhn=>n5 k hk k (mem_append_left _ hn) rfl⟩
  .refine⟨mem_append_right _ ?_,λhn=>n4 k hn k hk rfl⟩;rw[e,flatMap_cons];exact mem_append_right _ hk
 .refine mem_append_right _ ?_;rw[e,flatMap_cons];exact mem_append_left _ hk
theorem eQ.cell(h:eQ W B v L j){i:Nat}(hi:i<L.length):∃g cap,v=.slice (some ⟨g,0,none⟩) L.length cap/\W.cell? ⟨g,i,none⟩=some L[i].p:=by
 obtain⟨g,cap,hv,-,-,-⟩:=aS h.row (by omega);subst hv;refine⟨g,cap,rfl,?_⟩;have:=h.row.cellAt i (by omega);rw[this];simp[hi]
end
theorem t0{α:Type}(g:α->Nat->α)(a:α)(n:Nat):(range (n+1)).foldl g a=g ((range n).foldl g a) n:=by
 rw[range_succ,foldl_append];rfl
theorem uu{α β:Type}(g:α->β->α)(a:α){l:List β}{j:Nat}(hj:j<l.length):(l.take (j+1)).foldl g a=g ((l.take j).foldl g a) l[j]:=by
 rw[take_add_one,getElem?_eq_getElem hj,foldl_append];rfl
structure Ol(w W:World)(O:Nat)(nv tv:Value)(nu da fu:Bool)(A:Nat)(f:CF)(av ov:Value)(lv:Value)(L:List FE):Prop where
 fl:Fl W w.heap.size lv L
 bo:Bk W O 280 [nv,tv,.bool nu,.bool da,.bool fu]
 ff:dm W A f av ov
 st:am [O] w (O::a6 lv L) W
 ol:O<w.heap.size
 of:O ∉ aG A av ov
 fw:∀k∈aG A av ov,k<w.heap.size
section
variable {w W W':World} {O A:Nat} {nv tv:Value} {nu da fu:Bool} {f:CF} {av ov lv:Value} {L:List FE}
theorem Ol.below(h:Ol w W O nv tv nu da fu A f av ov lv L)(hb:Below W.heap.size W W'):Ol w W' O nv tv nu da fu A f av ov lv L :=
 ⟨h.fl.below hb,h.bo.below hb,h.ff.below hb,⟨hb.os.trans h.st.os,hb.tape.trans h.st.tape,hb.output.trans h.st.output,zq3 h.st.size hb.size,λk hk hn=>(hb.block k (zq6 hk h.st.size)).trans (h.st.block k hk hn),h.st.foot⟩,h.ol,h.of,h.fw⟩
theorem Ol.ne(h:Ol w W O nv tv nu da fu A f av ov lv L):∀k∈a6 lv L,k≠O/\k ∉ aG A av ov:=λk hk=>⟨λe=>by have:=h.fl.geB k hk;have:=h.ol;omega,λhn=>by have:=h.fl.geB k hk;have:=h.fw k hn;omega⟩
theorem Ol.after{x:FE}{lv':Value}{L':List FE}{fu':Bool}(h:Ol w W O nv tv nu da fu A f av ov lv L)(hx:∀k∈x.bs,w.heap.size<=k)(h1:Fl W' w.heap.size lv' L')(h2:Bk W' O 280 [nv,tv,.bool nu,.bool da,.bool fu'])(hs:am (O::(a6 lv L++x.bs)) W (O::a6 lv' L') W'):Ol w W' O nv tv nu da fu' A f av ov lv' L':=by
 refine⟨h1,h2,h.ff.of_eq (λk hk=>hs.block k (h.ff.lt k hk) (λhn=>?_)),?_,h.ol,h.of,h.fw⟩
 .rcases mem_cons.1 hn with rfl|hn
  .exact h.of hk
  .rcases mem_append.1 hn with hn|hn
   .exact(h.ne k hn).2 hk
   .have:=hx k hn;have:=h.fw k hk;omega
 .refine⟨hs.os.trans h.st.os,hs.tape.trans h.st.tape,hs.output.trans h.st.output,zq3 h.st.size hs.size,λk hk hn=>?_,λk hk=>?_⟩
  .rw[hs.block k (zq6 hk h.st.size) (λhm=>?_)]
   .exact h.st.block k hk hn
   .rcases mem_cons.1 hm with rfl|hm
    .exact hn (by simp)
    .rcases mem_append.1 hm with hm|hm
     .have:=h.fl.geB k hm;omega
     .have:=hx k hm;omega
  .rcases mem_cons.1 hk with rfl|hk
   .exact zq0 (by simp)
   .exact zq1 (h1.geB k hk)
theorem pW{v:Nat}(hv:v<4)(wQ:Bk w O 280 [nv,tv,.bool nu,.bool da,.bool fu])(h:dm w A f av ov)(hO:au f)(ha:f.ap.length<=40000)(YU:O ∉ aG A av ov):
  Calls prog 257 #[.pointer (some ⟨O,0,none⟩),.pointer (some ⟨A,0,none⟩),.int .i64 v] w λe w'=>∃lv L,e=.returned lv/\Fl w' w.heap.size lv L/\L.map (·.f)=(gR f v).1/\Bk w' O 280 [nv,tv,.bool (nu||(gR f v).2.1),.bool (da||(gR f v).2.2.1),.bool (fu||(gR f v).2.2.2)]/\am [O] w (O::a6 lv L) w':=by
 have f8:=hO.owLen;have x1:=h.cls (i:=1+v) (by omega);have x0:=h.cls (i:=0) (by omega);unfold eR at x0 x1;have dV:gR f v=if f.cl.getD (1+v) 0=f.cl.getD 0 0 then ([],true,false,false) else if (dJ f.ow (f.cl.getD (1+v) 0)).isSome=true then ((mC f (f.cl.getD (1+v) 0)).1,false,false,(mC f (f.cl.getD (1+v) 0)).2) else (((range f.ow.length).foldl (λr i=>xj f v i r) ([],false)).1,!ew f (f.cl.getD (1+v) 0) (f.cl.getD 0 0),true,((range f.ow.length).foldl (λr i=>xj f v i r) ([],false)).2):=rfl
 have jX:=hO.get (1+v);obtain⟨c,hc⟩:∃c,c=f.cl.getD (1+v) 0:=⟨_,rfl⟩;obtain⟨n,hn⟩:∃n,n=f.cl.getD 0 0:=⟨_,rfl⟩;rw[<-hc]at x1 dV jX;rw[<-hn]at x0 dV;have i1:(0:Int)<=1+(v:Int):=by omega
 have i2:1+(v:Int)<5:=by omega
 have i3:(1+(v:Int)).toNat=1+v:=by omega
 have H:=ab h;have HO:=ab hO;have HBO:=ab wQ;have HC:=ab hc;have QH:=ab YU;have o2:=wQ.cell 2 rfl;have o3:=wQ.cell 3 rfl;have oz:=wQ.frz;have HOL:=ab wQ.lt;have kK:=ab (cj c h);by_cases fs:c=n
 .have d0:((c:Int)==(n:Int))=true:=by simp[fs]
  have HE:Hid (gR f v=([],true,false,false)):=ab (by rw[dV,if_pos fs]);have bu:=ab (wQ.set 2 (.bool true));clear dV fs h hO wQ hc hn YU;go_enter func257,ntmps257;go_wp2_with fail
  go_ret;refine⟨_,[],rfl,Fl.nil0 _ _,by rw[uh HE];rfl,?_,?_⟩
  .rw[uh HE];have:=uh bu;simpa using this
  .exact((am.refl [O] w).setCell (p:=⟨O,2,none⟩) (zq0 (by simp)) _).foots (λk hk=>zq0 (by simpa[a6,Value.ownBlock] using hk))
 .have d0:((c:Int)==(n:Int))=false:=by simp;omega
  rw[if_neg fs]at dV;have zI:=ab dV;have hg:=pX (dJ f.ow c);cases hb:dJ f.ow c with
  |some i =>
   rw[hb]at hg kK zI;have HE:Hid (gR f v=((mC f c).1,false,false,(mC f c).2)):=ab (by rw[uh zI];rfl);have jk:=ab (cn h hO.c5 ha (zq3 f8 (by omega)));have HB:=ab hb;clear dV fs h hO wQ hc hn zI hb YU;go_enter func257,ntmps257;go_wp2_with fail
   refine(uh kK).mono ?_;rintro e w1 ⟨rfl,rfl⟩;go_wp2_with fail
   refine(uh jk).mono ?_;rintro e w2 ⟨A2,rfl,sY⟩;obtain⟨av2,ov2,kF⟩:=sY.frf;have CA:=ab (pI (v:=.slice none 0 0) (L:=[]) (B:=w1.heap.size) (Fl.nil0 w2 _) ((uh HBO).below kF.bw) kF.fm (uh HO) ha (λk hk=>by simp[a6,Value.ownBlock]at hk) (λhn=>by have h1:=kF.ge _ hn;have h2:=uh HOL;omega) kF.ge kF.bw.size (uh HB) (by simp));have se:=ab kF;clear sY kF jk;go_wp2_with fail
   refine(uh CA).mono ?_;rintro e w3 ⟨v3,L3,rfl,kY,vD,Bc,dP⟩;have aE:am [O] w1 (O::a6 v3 L3) w3:=by
    have ax:=(uh se).bw;refine⟨dP.os.trans ax.os,dP.tape.trans ax.tape,dP.output.trans ax.output,zq3 ax.size dP.size,λk hk hn=>?_,λk hk=>?_⟩
    .rw[dP.block k (zq6 hk ax.size) (λhm=>?_)]
     .exact ax.block k hk
     .rcases mem_cons.1 hm with rfl|hm
      .exact hn (by simp)
      .rcases mem_append.1 hm with hm|hm
       .simp[a6,Value.ownBlock]at hm
       .have:=(uh se).ge k hm;omega
    .rcases mem_cons.1 hk with rfl|hk
     .exact zq0 (by simp)
     .exact zq1 (kY.geB k hk)
   rw[nil_append]at kY;have HN:=ab (zq2 kY (zq2 vD (zq2 Bc aE)));clear kY vD Bc dP aE CA se;go_wp2_with fail
   go_ret;refine⟨_,L3,rfl,(uh HN).1,by rw[uh HE];exact(uh HN).2.1,?_,(uh HN).2.2.2⟩;rw[uh HE];have:=(uh HN).2.2.1;simpa using this
  |none =>
   rw[hb]at hg kK zI;have abW:Hid (gR f v=(((range f.ow.length).foldl (λr i=>xj f v i r) ([],false)).1,!ew f c n,true,((range f.ow.length).foldl (λr i=>xj f v i r) ([],false)).2)):=ab (by rw[uh zI];rfl);have Yu:=wQ.set 3 (.bool true);have h8:dm (w.setCell ⟨O,3,none⟩ (.bool true)) A f av ov:=h.of_eq (λk hk=>heap_setCell _ _ _ _ (λe=>YU (by have e':k=O:=e;rw[<-e'];exact hk)));obtain⟨W8,hW8⟩:∃W8,W8=w.setCell ⟨O,3,none⟩ (.bool true):=⟨_,rfl⟩;have Gt:am [O] w [O] W8:=(by rw[hW8];exact(am.refl [O] w).setCell (p:=⟨O,3,none⟩) (zq0 (by simp)) _);rw[<-hW8]at Yu h8;have UQ:=ab (jW c n h8);have QK:=ab (lw (N:=40000) hv hO ha);have HLT:=ab h.lt;have HBN:=ab hb;have HB8:=ab Yu;have H8:=ab h8;have U4:=ab Gt;clear dV fs h hO wQ hc hn zI hb YU Yu h8 Gt;go_enter func257,ntmps257;go_wp2_with fail
   refine(uh kK).mono ?_;rintro e w1 ⟨rfl,rfl⟩;go_upto_region 9 with fail;rw[<-hW8];clear hW8 o2 o3 oz;go_wp2_with fail
   refine(uh UQ).mono ?_;rintro e w9 ⟨rfl,MP⟩;have adx:=(uh HB8).below MP;have h9:=(uh H8).below MP;have hs9:am [O] w1 [O] w9:=⟨MP.os.trans (uh U4).os,MP.tape.trans (uh U4).tape,MP.output.trans (uh U4).output,zq3 (uh U4).size MP.size,λk hk hn=>(MP.block k (zq6 hk (uh U4).size)).trans ((uh U4).block k hk hn),(uh U4).foot⟩;have HB9:=ab adx;have H9:=ab h9;have HS9:=ab hs9;obtain⟨nb,Ee⟩:∃nb,nb=(nu||!ew f c n):=⟨_,rfl⟩;have HNB:=ab Ee;clear adx h9 hs9 MP UQ HB8 H8 U4;cases vx:ew f c n
   .rw[vx]at Ee;have o2:=(uh HB9).cell 2 rfl;have oz:=(uh HB9).frz 2;obtain⟨W10,s8⟩:∃W10,W10=w9.setCell ⟨O,2,none⟩ (.bool true):=⟨_,rfl⟩;have HW:Hid (Bk W10 O 280 [nv,tv,.bool nb,.bool true,.bool fu]/\dm W10 A f av ov/\am [O] w1 [O] W10):=ab ⟨by
     have:=(uh HB9).set 2 (.bool true);rw[s8,Ee];simpa using this,by
     rw[s8];exact(uh H9).of_eq (λk hk=>heap_setCell _ _ _ _ (λe=>uh QH (by have e':k=O:=e;rw[<-e'];exact hk))),by rw[s8];exact(uh HS9).setCell (p:=⟨O,2,none⟩) (zq0 (by simp)) _⟩
    clear Ee vx HB9 H9 HS9;go_upto_region 11 with fail;rw[<-s8];clear s8 o2 oz;have DR:Ol w1 (W10.alloc (.cells #[] 126)) O nv tv nb true fu A f av ov (.slice (some ⟨W10.heap.size,0,none⟩) 0 0) []:=by
     obtain⟨q1,q2,q3⟩:=uh HW;have aT:=af W10 (.cells #[] 126);refine⟨⟨?_,λx hx=>by simp at hx,λx hx=>by simp at hx,by simp[a6,Value.ownBlock]⟩,q1.below aT,q2.below aT,?_,uh HOL,uh QH,uh HLT⟩
     .have:=ownsRow_lit (base:=W10.heap.size) (e:=126) (size:=1) W10 #[] 0 (zq4 _) (by simp[maxLen]) rfl;exact bW this q3.size
     .refine(q3.trans (am.ofBw aT)).foots (λk hk=>?_);rcases mem_cons.1 hk with rfl|hk
      .exact zq0 (by simp)
      .right;have e:k=W10.heap.size:=(by simpa[a6,Value.ownBlock,eq_comm] using hk);rw[e];exact q3.size
    have bR:=ab DR;have hc6:=DR.ff.c6;clear DR HW;go_wp2_with fail
    go_loopg [9,10] f.ow.length (λgn lv iv wx=>∃(k:Nat) (L:List FE) (fu':Bool),k+gn=f.ow.length/\iv=.int .i64 k/\L.length<=4*k/\Hid (Ol w1 wx O nv tv nb true fu' A f av ov lv L/\L.map (·.f)=((range k).foldl (λr i=>xj f v i r) ([],false)).1/\fu'=(fu||((range k).foldl (λr i=>xj f v i r) ([],false)).2)))
    case atStart=>exact⟨0,[],fu,by omega,rfl,by simp,ab ⟨uh bR,rfl,by simp⟩⟩
    case round =>
     clear bR hc6;obtain⟨k,L,fu',fC,rfl,X9,hI⟩:=hrel;obtain⟨G,hG⟩:∃G,G=gk:=⟨_,rfl⟩;obtain⟨R,hR⟩:∃R,R=(range k).foldl (λr i=>xj f v i r) (([]:List CF),false):=⟨_,rfl⟩;rw[<-hR]at hI;obtain⟨la,lc,gF,-,-⟩:=ah (uh hI).1.fl.row;subst gF;have c6:=(uh hI).1.ff.c6;obtain⟨oa,oc,dB,-,-⟩:=ah (uh hI).1.ff.ow;rw[dB]at c6;clear dB;by_cases ar:k<f.ow.length
     .have hd:decide ((k:Int)<(f.ow.length:Int))=true:=(by simp;omega);have aE:(range (k+1)).foldl (λr i=>xj f v i r) (([]:List CF),false)=(gt f c k).foldl (λr g=>CK r g (g.cl.getD (1+v) 0)) R:=by
       rw[t0,<-hR,uh HC];rfl
      have bA:=ab aE;have uI:=ab (Ey (uh hI).1.ff (uh HO) ha jX ar);have Vx:=oE f c k;have HMk:=ab (yY (N:=40000) hv (uh HO) ha (by rw[<-uh HC];exact uh HBN) ar);rw[<-uh HC]at HMk;have i4:(0:Int)<=(k:Int):=(by omega);clear aE hR;go_wp2_with fail
      refine(uh uI).mono ?_;rintro e w2 ⟨v2,L2,rfl,Bh,qs,ax⟩;have ME:=(uh hI).1.below ax;have MG:=Bh.pend;have X6:L2.length=(gt f c k).length:=(by rw[<-qs,length_map]);have Qb:∀x∈kU v2 L2 0,x ∉ a6 (.slice la L.length lc) L:=λx hx hn=>by
       have h1:=MG.geB x hx;have h2:=(uh hI).1.fl.lt x hn;omega
      have hwB:w1.heap.size<=wr.heap.size:=(uh hI).1.st.size;obtain⟨B2,DM⟩:∃B2,B2=wr.heap.size:=⟨_,rfl⟩;rw[<-DM]at MG hwB;obtain⟨a2,c2,tE,-,-⟩:=ah MG.row;subst tE;have mi:=ab (zq2 ME (zq2 MG (zq2 Qb (zq2 (uh hI).2.1 (uh hI).2.2))));have Ah:=ab qs;have acX:L2.length<=2:=(by omega);clear Bh qs ax ME MG Qb hI uI DM c6 X6 Vx;go_wp2_with fail
      go_loopg [9,66] L2.length (λgn lv iv wx=>∃(j:Nat) (La:List FE) (fv:Bool),j+gn=L2.length/\iv=.int .i64 j/\La.length<=4*k+2*j/\Hid (Ol w1 wx O nv tv nb true fv A f av ov lv La/\eQ wx B2 (.slice a2 L2.length c2) L2 j/\(∀x∈kU (.slice a2 L2.length c2) L2 j,x ∉ a6 lv La)/\La.map (·.f)=(((gt f c k).take j).foldl (λr g=>CK r g (g.cl.getD (1+v) 0)) R).1/\fv=(fu||(((gt f c k).take j).foldl (λr g=>CK r g (g.cl.getD (1+v) 0)) R).2)))
      case atStart=>exact⟨0,L,fu',by omega,rfl,by omega,mi⟩
      case round =>
       clear mi;obtain⟨j,La,fv,wU,rfl,X8,hJ⟩:=hrel;obtain⟨G2,AY⟩:∃G2,G2=gk:=⟨_,rfl⟩;by_cases eh:j<L2.length
       .have gx:decide ((j:Int)<(L2.length:Int))=true:=(by simp;omega);obtain⟨g2,cap2,cS,aq⟩:=(uh hJ).2.1.cell eh;simp only[Value.slice.injEq,true_and]at cS;obtain⟨rfl,rfl⟩:=cS;obtain⟨hx,hxB,MK,MI,MJ⟩:=(uh hJ).2.1.next eh;have qp:j<(gt f c k).length:=(by rw[<-uh Ah,length_map];exact eh);have YF:L2[j].f=(gt f c k)[j]:=by
         have:=congrArg (λl=>l[j]?) (uh Ah);simp only[getElem?_map,getElem?_eq_getElem eh,getElem?_eq_getElem qp,Option.map_some,Option.some.injEq]at this;exact this
        have aY:=uh HMk L2[j].f (by rw[YF];exact getElem_mem qp);have qw:=uu (λr g=>CK r g (g.cl.getD (1+v) 0)) R qp;rw[<-YF]at qw;obtain⟨x,Ab⟩:∃x,x=L2[j]:=⟨_,rfl⟩;rw[<-Ab]at aq hx hxB MI MJ aY qw;obtain⟨i',kZ⟩:=Option.isSome_iff_exists.1 aY.bg;have DQ:=(uh hJ).1;have S6:∀y∈x.bs,w1.heap.size<=y:=λy hy=>zq3 hwB (hxB y hy);obtain⟨lva,lvc,Eb,-,-⟩:=ah DQ.fl.row;subst Eb;have CA:=ab (pI DQ.fl DQ.bo hx aY.ok aY.ln (λy hy=>⟨(DQ.ne y hy).1,λhn=>(uh hJ).2.2.1 y (MJ y hn) hy⟩) (λhn=>by have h1:=S6 _ hn;have h2:=DQ.ol;omega) S6 DQ.st.size kZ (by omega));have xc:=hx.is.cls (i:=1+v) (by omega);unfold eR at xc;obtain⟨cx,uK⟩:∃cx,cx=x.f.cl.getD (1+v) 0:=⟨_,rfl⟩;rw[<-uK]at xc CA qw;have ve:=ab qw;have KJ:=ab MK;have KI:=ab MI;have HWG:=ab S6;have yH:x.p=.pointer (some ⟨x.A,0,none⟩):=rfl;rw[yH]at aq;have i5:(0:Int)<=(j:Int):=(by omega);have i6:(j:Int)<(L2.length:Int):=(by omega);have HJ:=ab (uh hJ);clear hx hxB MK MI MJ qp YF aY qw Ab kZ DQ S6 uK yH hJ;go_wp2_with fail
        refine(uh CA).mono ?_;rintro e w3 ⟨v3,L3,rfl,kY,vD,Bc,dP⟩;have MF:=(uh HJ).1.after (uh HWG) kY Bc dP;have MH:eQ w3 B2 (.slice (some ⟨g2,0,none⟩) L2.length c2) L2 (j+1):=(uh KJ).stp dP (λy hy hn=>by
         rcases mem_cons.1 hn with rfl|hn
         .have h1:=(uh KJ).geB _ hy;have h2:=(uh HJ).1.ol;omega
         .rcases mem_append.1 hn with hn|hn
          .exact(uh HJ).2.2.1 y (uh KI y hy).1 hn
          .exact(uh KI y hy).2 hn)
        have IK:∀y∈kU (.slice (some ⟨g2,0,none⟩) L2.length c2) L2 (j+1),y ∉ a6 v3 (La++L3):=λy hy hn=>by
         rcases dP.foot y (mem_cons_of_mem _ hn) with q|q
         .rcases mem_cons.1 q with rfl|q
          .have h1:=(uh KJ).geB _ hy;have h2:=(uh HJ).1.ol;omega
          .rcases mem_append.1 q with q|q
           .exact(uh HJ).2.2.1 y (uh KI y hy).1 q
           .exact(uh KI y hy).2 q
         .have:=(uh KJ).lt y hy;omega
        have Nf:L3.length<=2:=by
         have:=rB x.f cx;rw[<-vD,length_map]at this;exact this
        have qN:(La++L3).map (·.f)=(((gt f c k).take (j+1)).foldl (λr g=>CK r g (g.cl.getD (1+v) 0)) R).1:=by
         rw[uh ve,map_append,(uh HJ).2.2.2.1,vD];rfl
        have rE:(fv||(mC x.f cx).2)=(fu||(((gt f c k).take (j+1)).foldl (λr g=>CK r g (g.cl.getD (1+v) 0)) R).2):=by
         rw[uh ve,(uh HJ).2.2.2.2,Bool.or_assoc];rfl
        obtain⟨a3,c3,hv3,-,-⟩:=ah kY.row;subst hv3;have HN:=ab (zq2 MF (zq2 MH (zq2 IK (zq2 qN rE))));have qq:(La++L3).length<=4*k+2*(j+1):=(by rw[length_append];omega);clear kY vD Bc dP MF MH IK qN rE CA HJ KJ KI HWG ve aq xc;go_wp2_with fail
        go_roundg (G2-1)
        case rel=>exact⟨j+1,La++L3,_,by omega,by go_num,qq,ab (by have h:=uh HN;rw[length_append]at h;exact h)⟩
        case measure=>omega
       .have gx:decide ((j:Int)<(L2.length:Int))=false:=(by simp;omega);have qp:(gt f c k).length<=j:=(by rw[<-uh Ah,length_map];omega);have hN:=uh hJ;rw[take_of_length_le qp,<-uh bA]at hN;have HN:=ab (zq2 hN.1 (zq2 hN.2.2.2.1 hN.2.2.2.2));have qq:La.length<=4*(k+1):=(by omega);obtain⟨lva,lvc,Eb,-,-⟩:=ah hN.1.fl.row;subst Eb;clear hN hJ qp;go_wp2_with fail
        go_roundg (G-1)
        case rel=>exact⟨k+1,La,fv,by omega,by go_num,qq,HN⟩
        case measure=>omega
     .have hd:decide ((k:Int)<(f.ow.length:Int))=false:=(by simp;omega);have iz:k=f.ow.length:=(by omega);have HE:Hid (gR f v=(R.1,!ew f c n,true,R.2)):=ab (by rw[uh abW,hR,iz]);clear iz hR;go_wp2_with fail
      go_ret;refine⟨_,L,rfl,(uh hI).1.fl,by rw[uh HE];exact(uh hI).2.1,?_,(uh hI).1.st⟩;rw[uh HE];have h1:=(uh hI).1.bo;rw[uh HNB,(uh hI).2.2]at h1;simpa using h1
   .rw[vx]at Ee;obtain⟨W10,s8⟩:∃W10,W10=w9:=⟨_,rfl⟩;have HW:Hid (Bk W10 O 280 [nv,tv,.bool nb,.bool true,.bool fu]/\dm W10 A f av ov/\am [O] w1 [O] W10):=ab ⟨by
     rw[s8,Ee];simpa using uh HB9,by rw[s8];exact uh H9,by rw[s8];exact uh HS9⟩
    clear Ee vx HB9 H9 HS9;go_upto_region 11 with fail;rw[<-s8];clear s8;have DR:Ol w1 (W10.alloc (.cells #[] 126)) O nv tv nb true fu A f av ov (.slice (some ⟨W10.heap.size,0,none⟩) 0 0) []:=by
     obtain⟨q1,q2,q3⟩:=uh HW;have aT:=af W10 (.cells #[] 126);refine⟨⟨?_,λx hx=>by simp at hx,λx hx=>by simp at hx,by simp[a6,Value.ownBlock]⟩,q1.below aT,q2.below aT,?_,uh HOL,uh QH,uh HLT⟩
     .have:=ownsRow_lit (base:=W10.heap.size) (e:=126) (size:=1) W10 #[] 0 (zq4 _) (by simp[maxLen]) rfl;exact bW this q3.size
     .refine(q3.trans (am.ofBw aT)).foots (λk hk=>?_);rcases mem_cons.1 hk with rfl|hk
      .exact zq0 (by simp)
      .right;have e:k=W10.heap.size:=(by simpa[a6,Value.ownBlock,eq_comm] using hk);rw[e];exact q3.size
    have bR:=ab DR;have hc6:=DR.ff.c6;clear DR HW;go_wp2_with fail
    go_loopg [9,10] f.ow.length (λgn lv iv wx=>∃(k:Nat) (L:List FE) (fu':Bool),k+gn=f.ow.length/\iv=.int .i64 k/\L.length<=4*k/\Hid (Ol w1 wx O nv tv nb true fu' A f av ov lv L/\L.map (·.f)=((range k).foldl (λr i=>xj f v i r) ([],false)).1/\fu'=(fu||((range k).foldl (λr i=>xj f v i r) ([],false)).2)))
    case atStart=>exact⟨0,[],fu,by omega,rfl,by simp,ab ⟨uh bR,rfl,by simp⟩⟩
    case round =>
     clear bR hc6;obtain⟨k,L,fu',fC,rfl,X9,hI⟩:=hrel;obtain⟨G,hG⟩:∃G,G=gk:=⟨_,rfl⟩;obtain⟨R,hR⟩:∃R,R=(range k).foldl (λr i=>xj f v i r) (([]:List CF),false):=⟨_,rfl⟩;rw[<-hR]at hI;obtain⟨la,lc,gF,-,-⟩:=ah (uh hI).1.fl.row;subst gF;have c6:=(uh hI).1.ff.c6;obtain⟨oa,oc,dB,-,-⟩:=ah (uh hI).1.ff.ow;rw[dB]at c6;clear dB;by_cases ar:k<f.ow.length
     .have hd:decide ((k:Int)<(f.ow.length:Int))=true:=(by simp;omega);have aE:(range (k+1)).foldl (λr i=>xj f v i r) (([]:List CF),false)=(gt f c k).foldl (λr g=>CK r g (g.cl.getD (1+v) 0)) R:=by
       rw[t0,<-hR,uh HC];rfl
      have bA:=ab aE;have uI:=ab (Ey (uh hI).1.ff (uh HO) ha jX ar);have Vx:=oE f c k;have HMk:=ab (yY (N:=40000) hv (uh HO) ha (by rw[<-uh HC];exact uh HBN) ar);rw[<-uh HC]at HMk;have i4:(0:Int)<=(k:Int):=(by omega);clear aE hR;go_wp2_with fail
      refine(uh uI).mono ?_;rintro e w2 ⟨v2,L2,rfl,Bh,qs,ax⟩;have ME:=(uh hI).1.below ax;have MG:=Bh.pend;have X6:L2.length=(gt f c k).length:=(by rw[<-qs,length_map]);have Qb:∀x∈kU v2 L2 0,x ∉ a6 (.slice la L.length lc) L:=λx hx hn=>by
       have h1:=MG.geB x hx;have h2:=(uh hI).1.fl.lt x hn;omega
      have hwB:w1.heap.size<=wr.heap.size:=(uh hI).1.st.size;obtain⟨B2,DM⟩:∃B2,B2=wr.heap.size:=⟨_,rfl⟩;rw[<-DM]at MG hwB;obtain⟨a2,c2,tE,-,-⟩:=ah MG.row;subst tE;have mi:=ab (zq2 ME (zq2 MG (zq2 Qb (zq2 (uh hI).2.1 (uh hI).2.2))));have Ah:=ab qs;have acX:L2.length<=2:=(by omega);clear Bh qs ax ME MG Qb hI uI DM c6 X6 Vx;go_wp2_with fail
      go_loopg [9,66] L2.length (λgn lv iv wx=>∃(j:Nat) (La:List FE) (fv:Bool),j+gn=L2.length/\iv=.int .i64 j/\La.length<=4*k+2*j/\Hid (Ol w1 wx O nv tv nb true fv A f av ov lv La/\eQ wx B2 (.slice a2 L2.length c2) L2 j/\(∀x∈kU (.slice a2 L2.length c2) L2 j,x ∉ a6 lv La)/\La.map (·.f)=(((gt f c k).take j).foldl (λr g=>CK r g (g.cl.getD (1+v) 0)) R).1/\fv=(fu||(((gt f c k).take j).foldl (λr g=>CK r g (g.cl.getD (1+v) 0)) R).2)))
      case atStart=>exact⟨0,L,fu',by omega,rfl,by omega,mi⟩
      case round =>
       clear mi;obtain⟨j,La,fv,wU,rfl,X8,hJ⟩:=hrel;obtain⟨G2,AY⟩:∃G2,G2=gk:=⟨_,rfl⟩;by_cases eh:j<L2.length
       .have gx:decide ((j:Int)<(L2.length:Int))=true:=(by simp;omega);obtain⟨g2,cap2,cS,aq⟩:=(uh hJ).2.1.cell eh;simp only[Value.slice.injEq,true_and]at cS;obtain⟨rfl,rfl⟩:=cS;obtain⟨hx,hxB,MK,MI,MJ⟩:=(uh hJ).2.1.next eh;have qp:j<(gt f c k).length:=(by rw[<-uh Ah,length_map];exact eh);have YF:L2[j].f=(gt f c k)[j]:=by
         have:=congrArg (λl=>l[j]?) (uh Ah);simp only[getElem?_map,getElem?_eq_getElem eh,getElem?_eq_getElem qp,Option.map_some,Option.some.injEq]at this;exact this
        have aY:=uh HMk L2[j].f (by rw[YF];exact getElem_mem qp);have qw:=uu (λr g=>CK r g (g.cl.getD (1+v) 0)) R qp;rw[<-YF]at qw;obtain⟨x,Ab⟩:∃x,x=L2[j]:=⟨_,rfl⟩;rw[<-Ab]at aq hx hxB MI MJ aY qw;obtain⟨i',kZ⟩:=Option.isSome_iff_exists.1 aY.bg;have DQ:=(uh hJ).1;have S6:∀y∈x.bs,w1.heap.size<=y:=λy hy=>zq3 hwB (hxB y hy);obtain⟨lva,lvc,Eb,-,-⟩:=ah DQ.fl.row;subst Eb;have CA:=ab (pI DQ.fl DQ.bo hx aY.ok aY.ln (λy hy=>⟨(DQ.ne y hy).1,λhn=>(uh hJ).2.2.1 y (MJ y hn) hy⟩) (λhn=>by have h1:=S6 _ hn;have h2:=DQ.ol;omega) S6 DQ.st.size kZ (by omega));have xc:=hx.is.cls (i:=1+v) (by omega);unfold eR at xc;obtain⟨cx,uK⟩:∃cx,cx=x.f.cl.getD (1+v) 0:=⟨_,rfl⟩;rw[<-uK]at xc CA qw;have ve:=ab qw;have KJ:=ab MK;have KI:=ab MI;have HWG:=ab S6;have yH:x.p=.pointer (some ⟨x.A,0,none⟩):=rfl;rw[yH]at aq;have i5:(0:Int)<=(j:Int):=(by omega);have i6:(j:Int)<(L2.length:Int):=(by omega);have HJ:=ab (uh hJ);clear hx hxB MK MI MJ qp YF aY qw Ab kZ DQ S6 uK yH hJ;go_wp2_with fail
        refine(uh CA).mono ?_;rintro e w3 ⟨v3,L3,rfl,kY,vD,Bc,dP⟩;have MF:=(uh HJ).1.after (uh HWG) kY Bc dP;have MH:eQ w3 B2 (.slice (some ⟨g2,0,none⟩) L2.length c2) L2 (j+1):=(uh KJ).stp dP (λy hy hn=>by
         rcases mem_cons.1 hn with rfl|hn
         .have h1:=(uh KJ).geB _ hy;have h2:=(uh HJ).1.ol;omega
         .rcases mem_append.1 hn with hn|hn
          .exact(uh HJ).2.2.1 y (uh KI y hy).1 hn
          .exact(uh KI y hy).2 hn)
        have IK:∀y∈kU (.slice (some ⟨g2,0,none⟩) L2.length c2) L2 (j+1),y ∉ a6 v3 (La++L3):=λy hy hn=>by
         rcases dP.foot y (mem_cons_of_mem _ hn) with q|q
         .rcases mem_cons.1 q with rfl|q
          .have h1:=(uh KJ).geB _ hy;have h2:=(uh HJ).1.ol;omega
          .rcases mem_append.1 q with q|q
           .exact(uh HJ).2.2.1 y (uh KI y hy).1 q
           .exact(uh KI y hy).2 q
         .have:=(uh KJ).lt y hy;omega
        have Nf:L3.length<=2:=by
         have:=rB x.f cx;rw[<-vD,length_map]at this;exact this
        have qN:(La++L3).map (·.f)=(((gt f c k).take (j+1)).foldl (λr g=>CK r g (g.cl.getD (1+v) 0)) R).1:=by
         rw[uh ve,map_append,(uh HJ).2.2.2.1,vD];rfl
        have rE:(fv||(mC x.f cx).2)=(fu||(((gt f c k).take (j+1)).foldl (λr g=>CK r g (g.cl.getD (1+v) 0)) R).2):=by
         rw[uh ve,(uh HJ).2.2.2.2,Bool.or_assoc];rfl
        obtain⟨a3,c3,hv3,-,-⟩:=ah kY.row;subst hv3;have HN:=ab (zq2 MF (zq2 MH (zq2 IK (zq2 qN rE))));have qq:(La++L3).length<=4*k+2*(j+1):=(by rw[length_append];omega);clear kY vD Bc dP MF MH IK qN rE CA HJ KJ KI HWG ve aq xc;go_wp2_with fail
        go_roundg (G2-1)
        case rel=>exact⟨j+1,La++L3,_,by omega,by go_num,qq,ab (by have h:=uh HN;rw[length_append]at h;exact h)⟩
        case measure=>omega
       .have gx:decide ((j:Int)<(L2.length:Int))=false:=(by simp;omega);have qp:(gt f c k).length<=j:=(by rw[<-uh Ah,length_map];omega);have hN:=uh hJ;rw[take_of_length_le qp,<-uh bA]at hN;have HN:=ab (zq2 hN.1 (zq2 hN.2.2.2.1 hN.2.2.2.2));have qq:La.length<=4*(k+1):=(by omega);obtain⟨lva,lvc,Eb,-,-⟩:=ah hN.1.fl.row;subst Eb;clear hN hJ qp;go_wp2_with fail
        go_roundg (G-1)
        case rel=>exact⟨k+1,La,fv,by omega,by go_num,qq,HN⟩
        case measure=>omega
     .have hd:decide ((k:Int)<(f.ow.length:Int))=false:=(by simp;omega);have iz:k=f.ow.length:=(by omega);have HE:Hid (gR f v=(R.1,!ew f c n,true,R.2)):=ab (by rw[uh abW,hR,iz]);clear iz hR;go_wp2_with fail
      go_ret;refine⟨_,L,rfl,(uh hI).1.fl,by rw[uh HE];exact(uh hI).2.1,?_,(uh hI).1.st⟩;rw[uh HE];have h1:=(uh hI).1.bo;rw[uh HNB,(uh hI).2.2]at h1;simpa using h1
end
structure Os(w W:World)(O A:Nat)(f:CF)(av ov:Value)(nu da fu:Bool)(nv tv:Value)(Ln Lt:List FE):Prop where
 oo:Oo W O nu da fu nv tv Ln Lt
 ff:dm W A f av ov
 st:am [O] w (dU O nv tv Ln Lt) W
 ol:O<w.heap.size
 of:O ∉ aG A av ov
 fw:∀k∈aG A av ov,k<w.heap.size
def mQ(w:World)(O:Nat)(o:KN)(w':World):Prop:=∃nv tv Ln Lt,Oo w' O o.nu o.da o.fu nv tv Ln Lt/\Ln.map (·.f)=o.nx/\Lt.map (·.f)=o.ot/\am [O] w (dU O nv tv Ln Lt) w'
section
variable {w W W':World} {O A:Nat} {f:CF} {av ov nv tv:Value} {nu da fu:Bool} {Ln Lt:List FE}
theorem Os.start(h:Oo w O nu da fu nv tv Ln Lt)(hf:dm w A f av ov)(hn:dU O nv tv Ln Lt=[O])(YU:O ∉ aG A av ov):Os w w O A f av ov nu da fu nv tv Ln Lt:=⟨h,hf,(am.refl [O] w).foots (λk hk=>by rw[hn]at hk;exact zq0 hk),h.bk.lt,YU,hf.lt⟩
theorem Os.ge(h:Os w W O A f av ov nu da fu nv tv Ln Lt):∀k∈dU O nv tv Ln Lt,k=O\/w.heap.size<=k:=λk hk=>by
 rcases h.st.foot k hk with q|q
 .exact zq0 (by simpa using q)
 .exact zq1 q
theorem Os.below(h:Os w W O A f av ov nu da fu nv tv Ln Lt)(hb:Below W.heap.size W W'):Os w W' O A f av ov nu da fu nv tv Ln Lt :=
 ⟨h.oo.below hb,h.ff.below hb,⟨hb.os.trans h.st.os,hb.tape.trans h.st.tape,hb.output.trans h.st.output,zq3 h.st.size hb.size,λk hk hn=>(hb.block k (zq6 hk h.st.size)).trans (h.st.block k hk hn),h.st.foot⟩,h.ol,h.of,h.fw⟩
theorem Os.fresh(h:Os w W O A f av ov nu da fu nv tv Ln Lt){x:FE}(hx:∀k∈x.bs,W.heap.size<=k):∀k∈x.bs,k ∉ dU O nv tv Ln Lt:=λk hk hn=>by have:=hx k hk;have:=h.oo.lt k hn;omega
theorem Os.next{B:List Nat}{nv' tv':Value}{Ln' Lt':List FE}{nu' da' fu':Bool}(h:Os w W O A f av ov nu da fu nv tv Ln Lt)(hB:∀k∈B,w.heap.size<=k)(h1:Oo W' O nu' da' fu' nv' tv' Ln' Lt')(hs:am (dU O nv tv Ln Lt++B) W (dU O nv' tv' Ln' Lt') W'):Os w W' O A f av ov nu' da' fu' nv' tv' Ln' Lt':=by
 have key:∀k,k<w.heap.size->k≠O->k ∉ dU O nv tv Ln Lt++B:=λk hk aM hn=>by
  rcases mem_append.1 hn with hn|hn
  .rcases h.ge k hn with q|q
   .exact aM q
   .omega
  .have:=hB k hn;omega
 refine⟨h1,h.ff.of_eq (λk hk=>hs.block k (h.ff.lt k hk) (key k (h.fw k hk) (λe=>h.of (by rw[<-e];exact hk)))),⟨hs.os.trans h.st.os,hs.tape.trans h.st.tape,hs.output.trans h.st.output,zq3 h.st.size hs.size,λk hk hn=>?_,λk hk=>?_⟩,h.ol,h.of,h.fw⟩
 .exact(hs.block k (zq6 hk h.st.size) (key k hk (by simpa using hn))).trans (h.st.block k hk hn)
 .rcases hs.foot k hk with q|q
  .rcases mem_append.1 q with q|q
   .exact h.st.foot k q
   .exact zq1 (hB k q)
  .exact zq1 (zq3 h.st.size q)
theorem Os.out{o:KN}(h:Os w W O A f av ov o.nu o.da o.fu nv tv Ln Lt)(h1:Ln.map (·.f)=o.nx)(h2:Lt.map (·.f)=o.ot):mQ w O o W:=⟨nv,tv,Ln,Lt,h.oo,h1,h2,h.st⟩
theorem Dj{v c:Nat}(h:Os w w O A f av ov false false false (.slice none 0 0) (.slice none 0 0) [] [])(hO:au f)(ha:f.ap.length<=40000)(hv:v<4)(hc:c<24):
  Calls prog 235 #[.pointer (some ⟨O,0,none⟩),.pointer (some ⟨A,0,none⟩),.int .i64 v,.int .i64 c] w λe w'=>e=.returned (.tuple #[])/\mQ w O ⟨[bJ (setC f (1+v) c)],[],false,false,false⟩ w':=by
 have f8:=hO.owLen;have jk:=ab (cn h.ff hO.c5 ha (zq3 f8 (by omega)));have H:=ab h;have HO:=ab hO;have i1:(0:Int)<=1+(v:Int):=by omega
 have i2:1+(v:Int)<5:=by omega
 have i3:(1+(v:Int)).toNat=1+v:=by omega
 clear h hO;go_enter func235,ntmps235;go_wp2_with fail
 refine(uh jk).mono ?_;rintro e w1 ⟨A1,rfl,mq⟩;obtain⟨av1,ov1,SA⟩:=mq.frf;have x1:=SA.fm.is.cls (i:=1+v) (by omega);have z1:=ownsRow.frozenAt SA.fm.is.ob (1+v);have mE:=SA.fm.setCl (1+v) c (by omega);obtain⟨w2,lQ⟩:∃w2,w2=w1.setCell ⟨A1,1+v,none⟩ (.int .i64 (c:Int)):=⟨_,rfl⟩;rw[<-lQ]at mE;have ce:am (aG A1 av1 ov1) w1 (aG A1 av1 ov1) w2:=by rw[lQ];exact(am.refl _ _).setCell (p:=⟨A1,1+v,none⟩) (zq0 (by simp[aG])) _
 have kF:=SA.step (x':=⟨A1,setC f (1+v) c,av1,ov1⟩) mE ce;have Yc:=(uh H).below kF.bw;have pw:=ab (gg Yc.oo kF.fm ((uh HO).sC (1+v) hc) (zq3 ha (by omega)) ((uh H).fresh kF.ge) (by simp));have WT:=ab Yc;have zG:=ab kF.ge;clear mq SA mE ce kF Yc jk;go_upto_region 2 with fail;rw[<-lQ];clear lQ x1 z1;go_wp2_with fail
 refine(uh pw).mono ?_;rintro e w3 ⟨rfl,nv3,x3,-,hx3,aeu,dP⟩;have HN:=ab ((uh WT).next (uh zG) aeu dP);have HX:=ab hx3;clear aeu dP hx3 pw;go_wp2_with fail
 go_end0
 exact⟨rfl,(uh HN).out (o:=⟨[bJ (setC f (1+v) c)],[],false,false,false⟩) (by simp[uh HX]) rfl⟩
theorem Dv{v:Nat}(h:Os w w O A f av ov false false false (.slice none 0 0) (.slice none 0 0) [] [])(hO:au f)(ha:f.ap.length<=40000)(hv:v<4):
  Calls prog 239 #[.pointer (some ⟨O,0,none⟩),.pointer (some ⟨A,0,none⟩),.int .i64 v] w λe w'=>e=.returned (.tuple #[])/\mQ w O (if 24<=aD f then ⟨[],[],false,false,true⟩ else ⟨[bJ (FK f v)],[],false,false,false⟩) w':=by
 have f8:=hO.owLen;have Ef:aD f<=100000:=by
  unfold aD;have h1:=BO hO;omega
 have KF:=ab (sW h.ff (zq3 ha (by omega)) (zq3 f8 (by omega)) Ef);obtain⟨N,hN⟩:∃N,N=aD f:=⟨_,rfl⟩;have rj:=ab hN;rw[<-hN]at KF Ef ⊢;obtain⟨oR,hoR⟩:∃oR:KN,oR=if 24<=N then ⟨[],[],false,false,true⟩ else ⟨[bJ (FK f v)],[],false,false,false⟩:=⟨_,rfl⟩
 rw[<-hoR];have KG:=ab hoR;clear hoR;have H:=ab h;have HO:=ab hO;have i1:(0:Int)<=1+(v:Int):=by omega
 have i2:1+(v:Int)<5:=by omega
 have i3:(1+(v:Int)).toNat=1+v:=by omega
 clear h hO hN;go_enter func239,ntmps239;go_wp2_with fail
 refine(uh KF).mono ?_;rintro e w1 ⟨rfl,aO⟩;have rF:=(uh H).below aO;have QG:=ab rF;clear aO KF;by_cases nZ:24<=N
 .have d5:decide ((24:Int)<=(N:Int))=true:=by simp;omega
  have o4:=rF.oo.bk.cell 4 rfl;have z4:=rF.oo.bk.frz 4;have HN:=ab (rF.next (B:=[]) (λk hk=>by simp at hk) (rF.oo.flag (nu':=false) (da':=false) (fu':=true) 4 (by omega) rfl) (((am.refl (dU O (.slice none 0 0) (.slice none 0 0) [] []) w1).setCell (p:=⟨O,4,none⟩) (zq0 (by simp[dU])) (.bool true)).wide (by simp) |>.foots (λk hk=>zq0 (by simpa using hk))));have PT:Hid (oR=⟨[],[],false,false,true⟩):=ab (by rw[uh KG,if_pos nZ]);clear rF nZ;go_wp2_with fail
  refine bodyPost_ret (v:=.tuple #[]) (by simp[results,Tryz.results239]) rfl ?_;exact⟨rfl,by rw[uh PT];exact(uh HN).out (o:=⟨[],[],false,false,true⟩) rfl rfl⟩
 .have d5:decide ((24:Int)<=(N:Int))=false:=by simp;omega
  have PT:Hid (oR=⟨[bJ (FK f v)],[],false,false,false⟩):=ab (by rw[uh KG,if_neg nZ]);have jk:=ab (cn rF.ff (uh HO).c5 ha (zq3 f8 (by omega)));have aiJ:N<24:=by omega
  clear nZ rF;go_wp2_with fail
  refine(uh jk).mono ?_;rintro e w2 ⟨A2,rfl,sY⟩;obtain⟨av2,ov2,kF⟩:=sY.frf;have x0:=kF.fm.is.cls (i:=0) (by omega);unfold eR at x0;obtain⟨n0,qt⟩:∃n0,n0=f.cl.getD 0 0:=⟨_,rfl⟩;rw[show(({ A:=A2,f:=f,av:=av2,ov:=ov2 }:FE).f.cl.getD 0 0:Nat)=n0 from qt.symm]at x0;have vW:=ab (oB kF.fm 3 N n0 (zq3 f8 (by omega)));have se:=ab kF;have WQ:=ab qt;clear sY kF jk qt;go_wp2_with fail
  refine(uh vW).mono ?_;rintro e w3 ⟨rfl,ov3,yr,cd⟩;have kX:=(uh se).step (x':=⟨A2,q8 f ⟨3,N,n0⟩,av2,ov3⟩) yr cd;have x1:=kX.fm.is.cls (i:=1+v) (by omega);have z1:=ownsRow.frozenAt kX.fm.is.ob (1+v);have pL:=kX.fm.setCl (1+v) N (by omega);obtain⟨w4,uT⟩:∃w4,w4=w3.setCell ⟨A2,1+v,none⟩ (.int .i64 (N:Int)):=⟨_,rfl⟩;rw[<-uT]at pL;have eG:am (aG A2 av2 ov3) w3 (aG A2 av2 ov3) w4:=by rw[uT];exact(am.refl _ _).setCell (p:=⟨A2,1+v,none⟩) (zq0 (by simp[aG])) _
  have hcr:setC (q8 f ⟨3,N,n0⟩) (1+v) N=FK f v:=by unfold FK;rw[<-uh rj,<-uh WQ]
  have yB:=kX.step (x':=⟨A2,FK f v,av2,ov3⟩) (by rw[<-hcr];exact pL) eG;have IP:=(uh QG).below yB.bw;have pw:=ab (gg IP.oo yB.fm (ya (uh HO) (by rw[<-uh rj];exact aiJ)) (zq3 ha (by omega)) ((uh QG).fresh yB.ge) (by simp));have HO4:=ab IP;have zG:=ab (λk hk=>zq3 (uh QG).st.size (yB.ge k hk));clear kX yr cd pL eG yB IP vW hcr;go_upto_region 6 with fail;rw[<-uT];clear uT x1 z1 x0;go_wp2_with fail
  refine(uh pw).mono ?_;rintro e w5 ⟨rfl,nv5,x5,-,hx5,aev,f9⟩;have HN:=ab ((uh HO4).next (uh zG) aev f9);have HX:=ab hx5;clear aev f9 hx5 pw;go_wp2_with fail
  go_end0
  exact⟨rfl,by rw[uh PT];exact(uh HN).out (o:=⟨[bJ (FK f v)],[],false,false,false⟩) (by simp[uh HX]) rfl⟩
end
def Qp(n:Nd):Value:=.agg #[.int .i64 (n.op:Int),.int .i64 (n.v:Int),.int .i64 (n.ak:Int),.int .i64 (n.ai:Int),.int .i64 (n.nx:Int),.int .i64 (n.ot:Int)]
theorem kM(w:World)(n:Nat):Below w.heap.size w (w.drewN n):=⟨rfl,rfl,rfl,zq4 _,λ_ _=>rfl⟩
section
variable {w W W':World} {O A:Nat} {f:CF} {av ov nv tv:Value} {nu da fu:Bool} {Ln Lt:List FE}
theorem qh{n:Nd}(h:Os w w O A f av ov false false false (.slice none 0 0) (.slice none 0 0) [] [])(hO:au f)(ha:f.ap.length<=40000)(hv:n.v<4)(hi:n.ai<4):
  Calls prog 244 #[.pointer (some ⟨O,0,none⟩),.pointer (some ⟨A,0,none⟩),Qp n] w λe w'=>e=.returned (.tuple #[])/\mQ w O ⟨(kP f n).1,(kP f n).2,false,false,false⟩ w':=by
 have f8:=hO.owLen;have iw:kP f n=(if ew f (f.cl.getD (1+n.v) 0) (lK f n.ak n.ai)=true then [] else [bJ (rL f (f.cl.getD (1+n.v) 0) (lK f n.ak n.ai))],if f.cl.getD (1+n.v) 0=lK f n.ak n.ai then [] else [bJ (cC f (f.cl.getD (1+n.v) 0) (lK f n.ak n.ai))]):=rfl;obtain⟨op,v,ak,ai,nx,ot⟩:=n;simp only at hv hi iw;unfold Qp;simp only;obtain⟨W1,dF⟩:∃W1,W1=w.alloc (.cells #[Value.int .i64 (op:Int),.int .i64 (v:Int),.int .i64 (ak:Int),.int .i64 (ai:Int),.int .i64 (nx:Int),.int .i64 (ot:Int)] 186):=⟨_,rfl⟩;have aT:Below w.heap.size w W1:=by rw[dF];exact af w _
 have hX:Bk W1 w.heap.size 186 [Value.int .i64 (op:Int),.int .i64 (v:Int),.int .i64 (ak:Int),.int .i64 (ai:Int),.int .i64 (nx:Int),.int .i64 (ot:Int)]:=by rw[dF];exact Bk.new w _ _
 obtain⟨X,fy⟩:∃X,X=w.heap.size:=⟨_,rfl⟩;rw[<-fy]at hX;have rF:=h.below aT;have b1:=hX.cell 1 rfl;have b2:=hX.cell 2 rfl;have b3:=hX.cell 3 rfl;have x1:=rF.ff.cls (i:=1+v) (by omega);unfold eR at x1;obtain⟨a,haE⟩:∃a,a=f.cl.getD (1+v) 0:=⟨_,rfl⟩;obtain⟨b,hbE⟩:∃b,b=lK f ak ai:=⟨_,rfl⟩;rw[<-haE]at x1;rw[<-haE,<-hbE]at iw;have Yo:a<24:=by rw[haE];exact hO.get _
 have adu:b<24:=by rw[hbE];exact hO.cT _ _
 have i1:(0:Int)<=1+(v:Int):=by omega
 have i2:1+(v:Int)<5:=by omega
 have i3:(1+(v:Int)).toNat=1+v:=by omega
 obtain⟨oR,hoR⟩:∃oR:KN,oR=⟨(kP f ⟨op,v,ak,ai,nx,ot⟩).1,(kP f ⟨op,v,ak,ai,nx,ot⟩).2,false,false,false⟩:=⟨_,rfl⟩;rw[<-hoR];rw[iw]at hoR;have KG:=ab hoR;have HO:=ab hO;have H1:=ab rF;have nJ:=ab hbE;clear h hO rF hoR iw aT hX haE hbE;go_enter func244,ntmps244;go_upto_region 1 with fail;rw[<-dF,<-fy];clear dF fy;go_quiet (fail)
 obtain⟨W2,d9⟩:∃W2,W2=W1.drewN nq:=⟨_,rfl⟩;rw[<-d9];have ax:Below W1.heap.size W1 W2:=by rw[d9];exact kM W1 nq
 have d2:W2.cell? ⟨X,2,none⟩=some (.int .i64 (ak:Int)):=by rw[d9];exact b2
 have d3:W2.cell? ⟨X,3,none⟩=some (.int .i64 (ai:Int)):=by rw[d9];exact b3
 have Yc:=(uh H1).below ax;have qF:=ab (pD Yc.ff ak ai hi);rw[<-uh nJ]at qF;have H2:=ab Yc;clear d9 ax Yc b1 b2 b3 x1 H1;go_wp2_with fail
 refine(uh qF).mono ?_;rintro e W3 ⟨rfl,bF⟩;have MB:=(uh H2).below bF;have UQ:=ab (jW a b MB.ff);have H3:=ab MB;clear bF MB H2 qF d2 d3;go_wp2_with fail
 refine(uh UQ).mono ?_;rintro e W4 ⟨rfl,gX⟩;have IP:=(uh H3).below gX;have H4:=ab IP;clear gX H3 UQ;cases vx:ew f a b
 .
  rw[vx]at KG;have jk:=ab (cn IP.ff (uh HO).c5 ha (zq3 f8 (by omega)));have Cy:=ab (jt vx);clear IP vx;go_wp2_with fail
  refine(uh jk).mono ?_;rintro e W5 ⟨A5,rfl,zio⟩;obtain⟨av5,ov5,Bf⟩:=zio.frf;have HJO:=ab (wF Bf.fm (zq3 ha (by omega)) (zq3 f8 (by omega)) a b);have US:=ab Bf;clear zio Bf jk;go_wp2_with fail
  refine(uh HJO).mono ?_;rintro e W6 ⟨rfl,R4,IR⟩;have Kj:=(uh US).step (x':=⟨A5,rL f a b,av5,ov5⟩) R4 IR;have hO6:=(uh H4).below Kj.bw;have pw:=ab (gg hO6.oo Kj.fm ((uh HO).jo Yo (uh Cy)) (by
   show(f.ap.map _).length<=100000;rw[length_map];omega) ((uh H4).fresh Kj.ge) (by simp))
  have H6:=ab hO6;have zG:=ab (λk hk=>zq3 (uh H4).st.size (Kj.ge k hk));clear R4 IR Kj hO6 HJO;go_wp2_with fail
  refine(uh pw).mono ?_;rintro e W7 ⟨rfl,nv7,x7,-,hx7,aex,tA⟩;have hO7:=(uh H6).next (uh zG) aex tA;have H7:=ab hO7;have HX7:=ab hx7;clear aex tA hx7 pw;by_cases qo:a=b
  .have d1:((a:Int) != (b:Int))=false:=(by simp[qo]);have PT:Hid (oR=⟨[bJ (rL f a b)],[],false,false,false⟩):=ab (by rw[uh KG,if_neg (by decide),if_pos qo]);clear qo hO7;go_wp2_with fail
   go_end0
   exact⟨rfl,by rw[uh PT];exact(uh H7).out (o:=⟨[bJ (rL f a b)],[],false,false,false⟩) (by simp[uh HX7]) rfl⟩
  .have d1:((a:Int) != (b:Int))=true:=(by rw[bne_iff_ne];omega);have PT:Hid (oR=⟨[bJ (rL f a b)],[bJ (cC f a b)],false,false,false⟩):=ab (by rw[uh KG,if_neg (by decide),if_neg qo]);have jk:=ab (cn hO7.ff (uh HO).c5 ha (zq3 f8 (by omega)));clear qo hO7;go_wp2_with fail
   refine(uh jk).mono ?_;rintro e W8 ⟨A8,rfl,hN8⟩;obtain⟨av8,ov8,uL⟩:=hN8.frf;have zJ:=ab (oI uL.fm a b (zq3 ha (by omega)));have QC:=ab uL;clear hN8 uL jk;go_wp2_with fail
   refine(uh zJ).mono ?_;rintro e W9 ⟨rfl,av9,Mx,MN⟩;have vy:=(uh QC).step (x':=⟨A8,cC f a b,av9,ov8⟩) Mx MN;have Yd:=(uh H7).below vy.bw;have U8:=ab (uA Yd.oo vy.fm ((uh HO).pa Yo adu) (by
    show(f.ap++[_]).length<=100000;rw[length_append,length_singleton];omega) ((uh H7).fresh vy.ge) (by simp))
   have H9:=ab Yd;have WJ:=ab (λk hk=>zq3 (uh H7).st.size (vy.ge k hk));clear Mx MN vy Yd zJ;go_wp2_with fail
   refine(uh U8).mono ?_;rintro e Wa ⟨rfl,tva,xa,-,Ko,Nq,tB⟩;have HN:=ab ((uh H9).next (uh WJ) Nq tB);have HXA:=ab Ko;clear Nq tB Ko U8;go_wp2_with fail
   go_end0
   exact⟨rfl,by rw[uh PT];exact(uh HN).out (o:=⟨[bJ (rL f a b)],[bJ (cC f a b)],false,false,false⟩) (by simp[uh HX7]) (by simp[uh HXA])⟩
 .rw[vx]at KG;have qo:a≠b:=λe=>by rw[e]at vx;unfold ew at vx;simp at vx
  have d1:((a:Int) != (b:Int))=true:=by rw[bne_iff_ne];omega
  have PT:Hid (oR=⟨[],[bJ (cC f a b)],false,false,false⟩):=ab (by rw[uh KG,if_pos rfl,if_neg qo]);have jk:=ab (cn IP.ff (uh HO).c5 ha (zq3 f8 (by omega)));clear qo IP vx;go_wp2_with fail
  refine(uh jk).mono ?_;rintro e W8 ⟨A8,rfl,hN8⟩;obtain⟨av8,ov8,uL⟩:=hN8.frf;have zJ:=ab (oI uL.fm a b (zq3 ha (by omega)));have QC:=ab uL;clear hN8 uL jk;go_wp2_with fail
  refine(uh zJ).mono ?_;rintro e W9 ⟨rfl,av9,Mx,MN⟩;have vy:=(uh QC).step (x':=⟨A8,cC f a b,av9,ov8⟩) Mx MN;have Yd:=(uh H4).below vy.bw;have U8:=ab (uA Yd.oo vy.fm ((uh HO).pa Yo adu) (by
   show(f.ap++[_]).length<=100000;rw[length_append,length_singleton];omega) ((uh H4).fresh vy.ge) (by simp))
  have H9:=ab Yd;have WJ:=ab (λk hk=>zq3 (uh H4).st.size (vy.ge k hk));clear Mx MN vy Yd zJ;go_wp2_with fail
  refine(uh U8).mono ?_;rintro e Wa ⟨rfl,tva,xa,-,Ko,Nq,tB⟩;have HN:=ab ((uh H9).next (uh WJ) Nq tB);have HXA:=ab Ko;clear Nq tB Ko U8;go_wp2_with fail
  go_end0
  exact⟨rfl,by rw[uh PT];exact(uh HN).out (o:=⟨[],[bJ (cC f a b)],false,false,false⟩) rfl (by simp[uh HXA])⟩
end
def cR:Value:=.slice none 0 0
structure Lo(w W:World)(O A:Nat)(f:CF)(av ov:Value)(nu da fu:Bool)(nv:Value)(Ln:List FE)(B:Nat)(lv:Value)(L:List FE)(j:Nat):Prop where
 os:Os w W O A f av ov nu da fu nv cR Ln []
 pe:eQ W B lv L j
 dj:∀k∈kU lv L j,k ∉ dU O nv cR Ln []
 wB:w.heap.size<=B
section
variable {w W W':World} {O A:Nat} {f:CF} {av ov nv lv:Value} {nu da fu:Bool} {Ln L:List FE} {B j:Nat}
theorem Lo.mid{x':FE}(h:Lo w W O A f av ov nu da fu nv Ln B lv L j)(hj:j<L.length)(hs:am L[j].bs W x'.bs W'):
  Os w W' O A f av ov nu da fu nv cR Ln []/\(∀k∈x'.bs,k ∉ dU O nv cR Ln [])/\(∀k∈x'.bs,w.heap.size<=k)/\eQ W' B lv L (j+1)/\(∀k∈kU lv L (j+1),k ∉ dU O nv cR Ln []/\k ∉ x'.bs):=by
 obtain⟨h1,h2,h3,h4,h5⟩:=h.pe.next hj;have wW:∀k∈L[j].bs,k ∉ dU O nv cR Ln []:=λk hk=>h.dj k (h5 k hk);have qW:Oo W' O nu da fu nv cR Ln []:=h.os.oo.stp hs (λk hk hn=>wW k hn hk);refine⟨h.os.next (B:=L[j].bs) (λk hk=>zq3 h.wB (h2 k hk)) qW ((hs.wide (λk hk=>mem_append_right _ hk)).foots (λk hk=>zq0 (mem_append_left _ hk))),λk hk hn=>?_,λk hk=>?_,h3.stp hs (λk hk hn=>(h4 k hk).2 hn),λk hk=>⟨h.dj k (h4 k hk).1,λhn=>?_⟩⟩
 .rcases hs.foot k hk with q|q
  .exact wW k q hn
  .have:=h.os.oo.lt k hn;omega
 .rcases hs.foot k hk with q|q
  .exact zq3 h.wB (h2 k q)
  .exact zq3 h.os.st.size q
 .rcases hs.foot k hn with q|q
  .exact(h4 k hk).2 q
  .have:=h3.lt k hk;omega
theorem Lo.fin {x' y:FE} {nv':Value} {W'':World} (hO:Os w W' O A f av ov nu da fu nv cR Ln []) (bZ:∀k∈x'.bs,w.heap.size<=k) (hP:eQ W' B lv L (j+1)) (hd:∀k∈kU lv L (j+1),k ∉ dU O nv cR Ln []/\k ∉ x'.bs) (hw:w.heap.size<=B)
  (qW:Oo W'' O nu da fu nv' cR (Ln++[y]) []) (hs:am (dU O nv cR Ln []++x'.bs) W' (dU O nv' cR (Ln++[y]) []) W''):Lo w W'' O A f av ov nu da fu nv' (Ln++[y]) B lv L (j+1):=by
 have hn:∀k∈kU lv L (j+1),k ∉ dU O nv cR Ln []++x'.bs:=λk hk hm=>by
  rcases mem_append.1 hm with q|q
  .exact(hd k hk).1 q
  .exact(hd k hk).2 q
 refine⟨hO.next bZ qW hs,hP.stp hs hn,λk hk hm=>?_,hw⟩;rcases hs.foot k hm with q|q
 .exact hn k hk q
 .have:=hP.lt k hk;omega
theorem Lo.start{w2:World}{nu' da' fu':Bool}(h:Os w W O A f av ov nu da fu cR cR [] [])(jN:Fl w2 W.heap.size lv L)(wQ:Bk w2 O 280 [cR,cR,.bool nu',.bool da',.bool fu'])(hs:am [O] W (O::a6 lv L) w2):Lo w w2 O A f av ov nu' da' fu' cR [] W.heap.size lv L 0:=by
 have YE:dU O cR cR [] []=[O]:=rfl;have qV:Fl w2 0 cR []:=Fl.nil0 w2 0;refine⟨⟨⟨wQ,qV,qV,by simp[a6,cR,Value.ownBlock]⟩,h.ff.of_eq (λk hk=>hs.block k (h.ff.lt k hk) (λhn=>h.of (by rw[mem_singleton]at hn;rw[<-hn];exact hk))),?_,h.ol,h.of,h.fw⟩,jN.pend,λk hk hn=>?_,h.st.size⟩
 .rw[YE];have h0:=h.st;rw[YE]at h0;exact(h0.trans (hs.foots (F'':=[O]) (λk hk=>zq0 hk)))
 .rw[YE,mem_singleton]at hn;have h1:=jN.pend.geB k hk;have h2:=h.ol;have h3:=h.st.size;omega
end
