import Derived.Test.YtciihepbeacppaaGreatM15
set_option maxRecDepth 100000
set_option maxHeartbeats 0
namespace Go.Proofs.YtciihepbeacppaaGreat
open Tryz Go.RowKit List World Below
set_option linter.unusedVariables false
def lG(v:Value)(L:List FE)(j:Nat):List Nat:=v.ownBlock.toList++(L.drop j).flatMap FE.bs
structure fq(W:World)(B:Nat)(v:Value)(L:List FE)(j:Nat):Prop where
 row:W.ownsRow B 126 1 v L.length (L.map FE.p)
 fm:∀x∈L.drop j,Fm W x.A x.f x.av x.ov
 ge:∀x∈L.drop j,∀k∈x.bs,B<=k
 nd:(lG v L j).Nodup
section
variable {W W':World} {B j:Nat} {v:Value} {L:List FE}
theorem Fl.pend(h:Fl W B v L):fq W B v L 0:=⟨h.row,by simpa using h.fm,by simpa using h.ge,by simpa[lG,a9] using h.nd⟩
theorem fq.lt(h:fq W B v L j):∀k∈lG v L j,k<W.heap.size:=by
 intro k hk;rcases mem_append.1 hk with hk|hk
 .exact(h.row.lt k (by simpa using hk)).2
 .obtain⟨x,hx,hk⟩:=mem_flatMap.1 hk;exact(h.fm x hx).lt k hk
theorem fq.geB(h:fq W B v L j):∀k∈lG v L j,B<=k:=by
 intro k hk;rcases mem_append.1 hk with hk|hk
 .exact(h.row.lt k (by simpa using hk)).1
 .obtain⟨x,hx,hk⟩:=mem_flatMap.1 hk;exact h.ge x hx k hk
theorem fq.of_eq(h:fq W B v L j)(he:∀k∈lG v L j,W'.heap[k]?=W.heap[k]?):fq W' B v L j :=
 ⟨ae h.row (λk hk=>he k (mem_append_left _ (by simpa using hk))),λx hx=>(h.fm x hx).of_eq (λk hk=>he k (mem_append_right _ (mem_flatMap.2 ⟨x,hx,hk⟩))),h.ge,h.nd⟩
theorem fq.stp{F F':List Nat}(h:fq W B v L j)(hs:aq F W F' W')(hd:∀k∈lG v L j,k ∉ F):fq W' B v L j:=h.of_eq (λk hk=>hs.block k (h.lt k hk) (hd k hk))
theorem fq.below(h:fq W B v L j)(hb:Below W.heap.size W W'):fq W' B v L j:=h.of_eq (λk hk=>hb.block k (h.lt k hk))
theorem fq.next(h:fq W B v L j)(hj:j<L.length):Fm W L[j].A L[j].f L[j].av L[j].ov/\(∀k∈L[j].bs,B<=k)/\fq W B v L (j+1)/\(∀k∈lG v L (j+1),k∈lG v L j/\k ∉ L[j].bs)/\(∀k∈L[j].bs,k∈lG v L j):=by
 have e:L.drop j=L[j]::L.drop (j+1):=drop_eq_getElem_cons hj;have hm:L[j]∈L.drop j:=by rw[e];exact mem_cons_self
 have ac6:∀x∈L.drop (j+1),x∈L.drop j:=λx hx=>by rw[e];exact mem_cons_of_mem _ hx
 have dV:=h.nd;unfold lG at dV;rw[e,flatMap_cons,nodup_append,nodup_append]at dV;obtain⟨n1,⟨n2,n3,n4⟩,n5⟩:=dV;refine⟨h.fm _ hm,h.ge _ hm,⟨h.row,λx hx=>h.fm x (ac6 x hx),λx hx=>h.ge x (ac6 x hx),?_⟩,λk hk=>?_,λk hk=>?_⟩
 .unfold lG;rw[nodup_append];exact⟨n1,n3,λa ha b hb=>n5 a ha b (mem_append_right _ hb)⟩
 .rcases mem_append.1 hk with hk|hk
  .exact⟨mem_append_left _ hk,λhn=>n5 k hk k (mem_append_left _ hn) rfl⟩
  .refine⟨mem_append_right _ ?_,λhn=>n4 k hn k hk rfl⟩;rw[e,flatMap_cons];exact mem_append_right _ hk
 .refine mem_append_right _ ?_;rw[e,flatMap_cons];exact mem_append_left _ hk
theorem fq.cell(h:fq W B v L j){i:Nat}(hi:i<L.length):∃g cap,v=.slice (some ⟨g,0,none⟩) L.length cap/\W.cell? ⟨g,i,none⟩=some L[i].p:=by
 obtain⟨g,cap,hv,-,-,-⟩:=bT h.row (by omega);subst hv;refine⟨g,cap,rfl,?_⟩;have:=h.row.cellAt i (by omega);rw[this];simp[hi]
end
theorem tX{α:Type}(g:α->Nat->α)(a:α)(n:Nat):(range (n+1)).foldl g a=g ((range n).foldl g a) n:=by
 rw[range_succ,foldl_append];rfl
theorem us{α β:Type}(g:α->β->α)(a:α){l:List β}{j:Nat}(hj:j<l.length):(l.take (j+1)).foldl g a=g ((l.take j).foldl g a) l[j]:=by
 rw[take_add_one,getElem?_eq_getElem hj,foldl_append];rfl
structure Ol(w W:World)(O:Nat)(nv tv:Value)(nu da fu:Bool)(A:Nat)(f:CF)(av ov:Value)(lv:Value)(L:List FE):Prop where
 fl:Fl W w.heap.size lv L
 bo:Bk W O 280 [nv,tv,.bool nu,.bool da,.bool fu]
 ff:dT W A f av ov
 st:aq [O] w (O::a9 lv L) W
 ol:O<w.heap.size
 of:O ∉ aG A av ov
 fw:∀k∈aG A av ov,k<w.heap.size
section
variable {w W W':World} {O A:Nat} {nv tv:Value} {nu da fu:Bool} {f:CF} {av ov lv:Value} {L:List FE}
theorem Ol.below(h:Ol w W O nv tv nu da fu A f av ov lv L)(hb:Below W.heap.size W W'):Ol w W' O nv tv nu da fu A f av ov lv L :=
 ⟨h.fl.below hb,h.bo.below hb,h.ff.below hb,⟨hb.os.trans h.st.os,hb.tape.trans h.st.tape,hb.output.trans h.st.output,zq3 h.st.size hb.size,λk hk hn=>(hb.block k (zq6 hk h.st.size)).trans (h.st.block k hk hn),h.st.foot⟩,h.ol,h.of,h.fw⟩
theorem Ol.ne(h:Ol w W O nv tv nu da fu A f av ov lv L):∀k∈a9 lv L,k≠O/\k ∉ aG A av ov:=λk hk=>⟨λe=>by have:=h.fl.geB k hk;have:=h.ol;omega,λhn=>by have:=h.fl.geB k hk;have:=h.fw k hn;omega⟩
theorem Ol.after{x:FE}{lv':Value}{L':List FE}{fu':Bool}(h:Ol w W O nv tv nu da fu A f av ov lv L)(hx:∀k∈x.bs,w.heap.size<=k)(h1:Fl W' w.heap.size lv' L')(h2:Bk W' O 280 [nv,tv,.bool nu,.bool da,.bool fu'])(hs:aq (O::(a9 lv L++x.bs)) W (O::a9 lv' L') W'):Ol w W' O nv tv nu da fu' A f av ov lv' L':=by
 refine⟨h1,h2,h.ff.of_eq (λk hk=>hs.block k (h.ff.lt k hk) (λhn=>?_)),?_,h.ol,h.of,h.fw⟩
 .rcases mem_cons.1 hn with rfl|hn
  .exact h.of hk
  .rcases mem_append.1 hn with hn|hn
   .exact(h.ne k hn).2 hk
   .have:=hx k hn;have:=h.fw k hk;omega
 .refine⟨hs.os.trans h.st.os,hs.tape.trans h.st.tape,hs.output.trans h.st.output,zq3 h.st.size hs.size,λk hk hn=>?_,λk hk=>?_⟩
  .rw[hs.block k (zq6 hk h.st.size) (λhm=>?_)]
   .exact h.st.block k hk hn
   .rcases mem_cons.1 hm with rfl|hm
    .exact hn (by simp)
    .rcases mem_append.1 hm with hm|hm
     .have:=h.fl.geB k hm;omega
     .have:=hx k hm;omega
  .rcases mem_cons.1 hk with rfl|hk
   .exact zq0 (by simp)
   .exact zq1 (h1.geB k hk)
theorem qs{v:Nat}(hv:v<4)(B7:Bk w O 280 [nv,tv,.bool nu,.bool da,.bool fu])(h:dT w A f av ov)(hO:au f)(ha:f.ap.length<=40000)(WF:O ∉ aG A av ov):
  Calls prog 257 #[.pointer (some ⟨O,0,none⟩),.pointer (some ⟨A,0,none⟩),.int .i64 v] w λe w'=>∃lv L,e=.returned lv/\Fl w' w.heap.size lv L/\L.map (·.f)=(jV f v).1/\Bk w' O 280 [nv,tv,.bool (nu||(jV f v).2.1),.bool (da||(jV f v).2.2.1),.bool (fu||(jV f v).2.2.2)]/\aq [O] w (O::a9 lv L) w':=by
 have gG:=hO.owLen;have x1:=h.cls (i:=1+v) (by omega);have x0:=h.cls (i:=0) (by omega);unfold fX at x0 x1;have ng:jV f v=if f.cl.getD (1+v) 0=f.cl.getD 0 0 then ([],true,false,false) else if (er f.ow (f.cl.getD (1+v) 0)).isSome=true then ((oG f (f.cl.getD (1+v) 0)).1,false,false,(oG f (f.cl.getD (1+v) 0)).2) else (((range f.ow.length).foldl (λr i=>wP f v i r) ([],false)).1,!gi f (f.cl.getD (1+v) 0) (f.cl.getD 0 0),true,((range f.ow.length).foldl (λr i=>wP f v i r) ([],false)).2):=rfl
 have xZ:=hO.get (1+v);obtain⟨c,hc⟩:∃c,c=f.cl.getD (1+v) 0:=⟨_,rfl⟩;obtain⟨n,hn⟩:∃n,n=f.cl.getD 0 0:=⟨_,rfl⟩;rw[<-hc]at x1 ng xZ;rw[<-hn]at x0 ng;have i1:(0:Int)<=1+(v:Int):=by omega
 have i2:1+(v:Int)<5:=by omega
 have i3:(1+(v:Int)).toNat=1+v:=by omega
 have H:=ab h;have HO:=ab hO;have HBO:=ab B7;have HC:=ab hc;have Pt:=ab WF;have o2:=B7.cell 2 rfl;have o3:=B7.cell 3 rfl;have oz:=B7.frz;have HOL:=ab B7.lt;have lz:=ab (cB c h);by_cases je:c=n
 .have d0:((c:Int)==(n:Int))=true:=by simp[je]
  have HE:Hid (jV f v=([],true,false,false)):=ab (by rw[ng,if_pos je]);have dS:=ab (B7.set 2 (.bool true));clear ng je h hO B7 hc hn WF;go_enter func257,ntmps257;go_wp2_with fail
  go_ret;refine⟨_,[],rfl,Fl.nil0 _ _,by rw[uh HE];rfl,?_,?_⟩
  .rw[uh HE];have:=uh dS;simpa using this
  .exact((aq.refl [O] w).setCell (p:=⟨O,2,none⟩) (zq0 (by simp)) _).foots (λk hk=>zq0 (by simpa[a9,Value.ownBlock] using hk))
 .have d0:((c:Int)==(n:Int))=false:=by simp;omega
  rw[if_neg je]at ng;have zs:=ab ng;have hg:=qt (er f.ow c);cases hb:er f.ow c with
  |some i =>
   rw[hb]at hg lz zs;have HE:Hid (jV f v=((oG f c).1,false,false,(oG f c).2)):=ab (by rw[uh zs];rfl);have jE:=ab (cD h hO.c5 ha (zq3 gG (by omega)));have HB:=ab hb;clear ng je h hO B7 hc hn zs hb WF;go_enter func257,ntmps257;go_wp2_with fail
   refine(uh lz).mono ?_;rintro e w1 ⟨rfl,rfl⟩;go_wp2_with fail
   refine(uh jE).mono ?_;rintro e w2 ⟨A2,rfl,mS⟩;obtain⟨av2,ov2,lj⟩:=mS.frf;have BO:=ab (qb (v:=.slice none 0 0) (L:=[]) (B:=w1.heap.size) (Fl.nil0 w2 _) ((uh HBO).below lj.bw) lj.fm (uh HO) ha (λk hk=>by simp[a9,Value.ownBlock]at hk) (λhn=>by have h1:=lj.ge _ hn;have h2:=uh HOL;omega) lj.ge lj.bw.size (uh HB) (by simp));have uZ:=ab lj;clear mS lj jE;go_wp2_with fail
   refine(uh BO).mono ?_;rintro e w3 ⟨v3,L3,rfl,lL,AI,Az,fe⟩;have aS:aq [O] w1 (O::a9 v3 L3) w3:=by
    have aR:=(uh uZ).bw;refine⟨fe.os.trans aR.os,fe.tape.trans aR.tape,fe.output.trans aR.output,zq3 aR.size fe.size,λk hk hn=>?_,λk hk=>?_⟩
    .rw[fe.block k (zq6 hk aR.size) (λhm=>?_)]
     .exact aR.block k hk
     .rcases mem_cons.1 hm with rfl|hm
      .exact hn (by simp)
      .rcases mem_append.1 hm with hm|hm
       .simp[a9,Value.ownBlock]at hm
       .have:=(uh uZ).ge k hm;omega
    .rcases mem_cons.1 hk with rfl|hk
     .exact zq0 (by simp)
     .exact zq1 (lL.geB k hk)
   rw[nil_append]at lL;have HN:=ab (zq2 lL (zq2 AI (zq2 Az aS)));clear lL AI Az fe aS BO uZ;go_wp2_with fail
   go_ret;refine⟨_,L3,rfl,(uh HN).1,by rw[uh HE];exact(uh HN).2.1,?_,(uh HN).2.2.2⟩;rw[uh HE];have:=(uh HN).2.2.1;simpa using this
  |none =>
   rw[hb]at hg lz zs;have aar:Hid (jV f v=(((range f.ow.length).foldl (λr i=>wP f v i r) ([],false)).1,!gi f c n,true,((range f.ow.length).foldl (λr i=>wP f v i r) ([],false)).2)):=ab (by rw[uh zs];rfl);have Wl:=B7.set 3 (.bool true);have h8:dT (w.setCell ⟨O,3,none⟩ (.bool true)) A f av ov:=h.of_eq (λk hk=>heap_setCell _ _ _ _ (λe=>WF (by have e':k=O:=e;rw[<-e'];exact hk)));obtain⟨W8,hW8⟩:∃W8,W8=w.setCell ⟨O,3,none⟩ (.bool true):=⟨_,rfl⟩;have E9:aq [O] w [O] W8:=(by rw[hW8];exact(aq.refl [O] w).setCell (p:=⟨O,3,none⟩) (zq0 (by simp)) _);rw[<-hW8]at Wl h8;have SN:=ab (kx c n h8);have Pw:=ab (lX (N:=40000) hv hO ha);have HLT:=ab h.lt;have HBN:=ab hb;have HB8:=ab Wl;have H8:=ab h8;have S4:=ab E9;clear ng je h hO B7 hc hn zs hb WF Wl h8 E9;go_enter func257,ntmps257;go_wp2_with fail
   refine(uh lz).mono ?_;rintro e w1 ⟨rfl,rfl⟩;go_upto_region 9 with fail;rw[<-hW8];clear hW8 o2 o3 oz;go_wp2_with fail
   refine(uh SN).mono ?_;rintro e w9 ⟨rfl,Ls⟩;have abU:=(uh HB8).below Ls;have h9:=(uh H8).below Ls;have ZF:aq [O] w1 [O] w9:=⟨Ls.os.trans (uh S4).os,Ls.tape.trans (uh S4).tape,Ls.output.trans (uh S4).output,zq3 (uh S4).size Ls.size,λk hk hn=>(Ls.block k (zq6 hk (uh S4).size)).trans ((uh S4).block k hk hn),(uh S4).foot⟩;have YR:=ab abU;have H9:=ab h9;have HS9:=ab ZF;obtain⟨nb,Mc⟩:∃nb,nb=(nu||!gi f c n):=⟨_,rfl⟩;have HNB:=ab Mc;clear abU h9 ZF Ls SN HB8 H8 S4;cases vo:gi f c n
   .rw[vo]at Mc;have o2:=(uh YR).cell 2 rfl;have oz:=(uh YR).frz 2;obtain⟨W10,s8⟩:∃W10,W10=w9.setCell ⟨O,2,none⟩ (.bool true):=⟨_,rfl⟩;have HW:Hid (Bk W10 O 280 [nv,tv,.bool nb,.bool true,.bool fu]/\dT W10 A f av ov/\aq [O] w1 [O] W10):=ab ⟨by
     have:=(uh YR).set 2 (.bool true);rw[s8,Mc];simpa using this,by
     rw[s8];exact(uh H9).of_eq (λk hk=>heap_setCell _ _ _ _ (λe=>uh Pt (by have e':k=O:=e;rw[<-e'];exact hk))),by rw[s8];exact(uh HS9).setCell (p:=⟨O,2,none⟩) (zq0 (by simp)) _⟩
    clear Mc vo YR H9 HS9;go_upto_region 11 with fail;rw[<-s8];clear s8 o2 oz;have C2:Ol w1 (W10.alloc (.cells #[] 126)) O nv tv nb true fu A f av ov (.slice (some ⟨W10.heap.size,0,none⟩) 0 0) []:=by
     obtain⟨q1,q2,q3⟩:=uh HW;have bV:=ah W10 (.cells #[] 126);refine⟨⟨?_,λx hx=>by simp at hx,λx hx=>by simp at hx,by simp[a9,Value.ownBlock]⟩,q1.below bV,q2.below bV,?_,uh HOL,uh Pt,uh HLT⟩
     .have:=ownsRow_lit (base:=W10.heap.size) (e:=126) (size:=1) W10 #[] 0 (zq4 _) (by simp[maxLen]) rfl;exact dB this q3.size
     .refine(q3.trans (aq.ofBw bV)).foots (λk hk=>?_);rcases mem_cons.1 hk with rfl|hk
      .exact zq0 (by simp)
      .right;have e:k=W10.heap.size:=(by simpa[a9,Value.ownBlock,eq_comm] using hk);rw[e];exact q3.size
    have cd:=ab C2;have hc6:=C2.ff.c6;clear C2 HW;go_wp2_with fail
    go_loopg [9,10] f.ow.length (λgn lv iv wx=>∃(k:Nat) (L:List FE) (fu':Bool),k+gn=f.ow.length/\iv=.int .i64 k/\L.length<=4*k/\Hid (Ol w1 wx O nv tv nb true fu' A f av ov lv L/\L.map (·.f)=((range k).foldl (λr i=>wP f v i r) ([],false)).1/\fu'=(fu||((range k).foldl (λr i=>wP f v i r) ([],false)).2)))
    case atStart=>exact⟨0,[],fu,by omega,rfl,by simp,ab ⟨uh cd,rfl,by simp⟩⟩
    case round =>
     clear cd hc6;obtain⟨k,L,fu',f7,rfl,VX,hI⟩:=hrel;obtain⟨G,hG⟩:∃G,G=gk:=⟨_,rfl⟩;obtain⟨R,hR⟩:∃R,R=(range k).foldl (λr i=>wP f v i r) (([]:List CF),false):=⟨_,rfl⟩;rw[<-hR]at hI;obtain⟨la,lc,jO,-,-⟩:=aj (uh hI).1.fl.row;subst jO;have c6:=(uh hI).1.ff.c6;obtain⟨oa,oc,fx,-,-⟩:=aj (uh hI).1.ff.ow;rw[fx]at c6;clear fx;by_cases ar:k<f.ow.length
     .have hd:decide ((k:Int)<(f.ow.length:Int))=true:=(by simp;omega);have aS:(range (k+1)).foldl (λr i=>wP f v i r) (([]:List CF),false)=(gO f c k).foldl (λr g=>BY r g (g.cl.getD (1+v) 0)) R:=by
       rw[tX,<-hR,uh HC];rfl
      have cI:=ab aS;have zr:=ab (Dw (uh hI).1.ff (uh HO) ha xZ ar);have OO:=po f c k;have HMk:=ab (yK (N:=40000) hv (uh HO) ha (by rw[<-uh HC];exact uh HBN) ar);rw[<-uh HC]at HMk;have i4:(0:Int)<=(k:Int):=(by omega);clear aS hR;go_wp2_with fail
      refine(uh zr).mono ?_;rintro e w2 ⟨v2,L2,rfl,AE,qN,aR⟩;have Le:=(uh hI).1.below aR;have Lg:=AE.pend;have VU:L2.length=(gO f c k).length:=(by rw[<-qN,length_map]);have TH:∀x∈lG v2 L2 0,x ∉ a9 (.slice la L.length lc) L:=λx hx hn=>by
       have h1:=Lg.geB x hx;have h2:=(uh hI).1.fl.lt x hn;omega
      have hwB:w1.heap.size<=wr.heap.size:=(uh hI).1.st.size;obtain⟨B2,uE⟩:∃B2,B2=wr.heap.size:=⟨_,rfl⟩;rw[<-uE]at Lg hwB;obtain⟨a2,c2,wE,-,-⟩:=aj Lg.row;subst wE;have mQ:=ab (zq2 Le (zq2 Lg (zq2 TH (zq2 (uh hI).2.1 (uh hI).2.2))));have Cs:=ab qN;have abp:L2.length<=2:=(by omega);clear AE qN aR Le Lg TH hI zr uE c6 VU OO;go_wp2_with fail
      go_loopg [9,66] L2.length (λgn lv iv wx=>∃(j:Nat) (La:List FE) (fv:Bool),j+gn=L2.length/\iv=.int .i64 j/\La.length<=4*k+2*j/\Hid (Ol w1 wx O nv tv nb true fv A f av ov lv La/\fq wx B2 (.slice a2 L2.length c2) L2 j/\(∀x∈lG (.slice a2 L2.length c2) L2 j,x ∉ a9 lv La)/\La.map (·.f)=(((gO f c k).take j).foldl (λr g=>BY r g (g.cl.getD (1+v) 0)) R).1/\fv=(fu||(((gO f c k).take j).foldl (λr g=>BY r g (g.cl.getD (1+v) 0)) R).2)))
      case atStart=>exact⟨0,L,fu',by omega,rfl,by omega,mQ⟩
      case round =>
       clear mQ;obtain⟨j,La,fv,yc,rfl,VW,hJ⟩:=hrel;obtain⟨G2,CZ⟩:∃G2,G2=gk:=⟨_,rfl⟩;by_cases fC:j<L2.length
       .have jk:decide ((j:Int)<(L2.length:Int))=true:=(by simp;omega);obtain⟨g2,cap2,cO,aw⟩:=(uh hJ).2.1.cell fC;simp only[Value.slice.injEq,true_and]at cO;obtain⟨rfl,rfl⟩:=cO;obtain⟨hx,hxB,Lk,Li,Lj⟩:=(uh hJ).2.1.next fC;have qM:j<(gO f c k).length:=(by rw[<-uh Cs,length_map];exact fC);have Wu:L2[j].f=(gO f c k)[j]:=by
         have:=congrArg (λl=>l[j]?) (uh Cs);simp only[getElem?_map,getElem?_eq_getElem fC,getElem?_eq_getElem qM,Option.map_some,Option.some.injEq]at this;exact this
        have bE:=uh HMk L2[j].f (by rw[Wu];exact getElem_mem qM);have qQ:=us (λr g=>BY r g (g.cl.getD (1+v) 0)) R qM;rw[<-Wu]at qQ;obtain⟨x,zI⟩:∃x,x=L2[j]:=⟨_,rfl⟩;rw[<-zI]at aw hx hxB Li Lj bE qQ;obtain⟨i',lN⟩:=Option.isSome_iff_exists.1 bE.bg;have C1:=(uh hJ).1;have Q0:∀y∈x.bs,w1.heap.size<=y:=λy hy=>zq3 hwB (hxB y hy);obtain⟨lva,lvc,Df,-,-⟩:=aj C1.fl.row;subst Df;have BO:=ab (qb C1.fl C1.bo hx bE.ok bE.ln (λy hy=>⟨(C1.ne y hy).1,λhn=>(uh hJ).2.2.1 y (Lj y hn) hy⟩) (λhn=>by have h1:=Q0 _ hn;have h2:=C1.ol;omega) Q0 C1.st.size lN (by omega));have xc:=hx.is.cls (i:=1+v) (by omega);unfold fX at xc;obtain⟨cx,uK⟩:∃cx,cx=x.f.cl.getD (1+v) 0:=⟨_,rfl⟩;rw[<-uK]at xc BO qQ;have ve:=ab qQ;have JD:=ab Lk;have JC:=ab Li;have HWG:=ab Q0;have yo:x.p=.pointer (some ⟨x.A,0,none⟩):=rfl;rw[yo]at aw;have i5:(0:Int)<=(j:Int):=(by omega);have i6:(j:Int)<(L2.length:Int):=(by omega);have HJ:=ab (uh hJ);clear hx hxB Lk Li Lj qM Wu bE qQ zI lN C1 Q0 uK yo hJ;go_wp2_with fail
        refine(uh BO).mono ?_;rintro e w3 ⟨v3,L3,rfl,lL,AI,Az,fe⟩;have Lf:=(uh HJ).1.after (uh HWG) lL Az fe;have Lh:fq w3 B2 (.slice (some ⟨g2,0,none⟩) L2.length c2) L2 (j+1):=(uh JD).stp fe (λy hy hn=>by
         rcases mem_cons.1 hn with rfl|hn
         .have h1:=(uh JD).geB _ hy;have h2:=(uh HJ).1.ol;omega
         .rcases mem_append.1 hn with hn|hn
          .exact(uh HJ).2.2.1 y (uh JC y hy).1 hn
          .exact(uh JC y hy).2 hn)
        have Hh:∀y∈lG (.slice (some ⟨g2,0,none⟩) L2.length c2) L2 (j+1),y ∉ a9 v3 (La++L3):=λy hy hn=>by
         rcases fe.foot y (mem_cons_of_mem _ hn) with q|q
         .rcases mem_cons.1 q with rfl|q
          .have h1:=(uh JD).geB _ hy;have h2:=(uh HJ).1.ol;omega
          .rcases mem_append.1 q with q|q
           .exact(uh HJ).2.2.1 y (uh JC y hy).1 q
           .exact(uh JC y hy).2 q
         .have:=(uh JD).lt y hy;omega
        have L4:L3.length<=2:=by
         have:=rL x.f cx;rw[<-AI,length_map]at this;exact this
        have zB:(La++L3).map (·.f)=(((gO f c k).take (j+1)).foldl (λr g=>BY r g (g.cl.getD (1+v) 0)) R).1:=by
         rw[uh ve,map_append,(uh HJ).2.2.2.1,AI];rfl
        have Lb:(fv||(oG x.f cx).2)=(fu||(((gO f c k).take (j+1)).foldl (λr g=>BY r g (g.cl.getD (1+v) 0)) R).2):=by
         rw[uh ve,(uh HJ).2.2.2.2,Bool.or_assoc];rfl
        obtain⟨a3,c3,WZ,-,-⟩:=aj lL.row;subst WZ;have HN:=ab (zq2 Lf (zq2 Lh (zq2 Hh (zq2 zB Lb))));have uO:(La++L3).length<=4*k+2*(j+1):=(by rw[length_append];omega);clear lL AI Az fe Lf Lh Hh zB Lb BO HJ JD JC HWG ve aw xc;go_wp2_with fail
        go_roundg (G2-1)
        case rel=>exact⟨j+1,La++L3,_,by omega,by go_num,uO,ab (by have h:=uh HN;rw[length_append]at h;exact h)⟩
        case measure=>omega
       .have jk:decide ((j:Int)<(L2.length:Int))=false:=(by simp;omega);have qM:(gO f c k).length<=j:=(by rw[<-uh Cs,length_map];omega);have hN:=uh hJ;rw[take_of_length_le qM,<-uh cI]at hN;have HN:=ab (zq2 hN.1 (zq2 hN.2.2.2.1 hN.2.2.2.2));have uO:La.length<=4*(k+1):=(by omega);obtain⟨lva,lvc,Df,-,-⟩:=aj hN.1.fl.row;subst Df;clear hN hJ qM;go_wp2_with fail
        go_roundg (G-1)
        case rel=>exact⟨k+1,La,fv,by omega,by go_num,uO,HN⟩
        case measure=>omega
     .have hd:decide ((k:Int)<(f.ow.length:Int))=false:=(by simp;omega);have jl:k=f.ow.length:=(by omega);have HE:Hid (jV f v=(R.1,!gi f c n,true,R.2)):=ab (by rw[uh aar,hR,jl]);clear jl hR;go_wp2_with fail
      go_ret;refine⟨_,L,rfl,(uh hI).1.fl,by rw[uh HE];exact(uh hI).2.1,?_,(uh hI).1.st⟩;rw[uh HE];have h1:=(uh hI).1.bo;rw[uh HNB,(uh hI).2.2]at h1;simpa using h1
   .rw[vo]at Mc;obtain⟨W10,s8⟩:∃W10,W10=w9:=⟨_,rfl⟩;have HW:Hid (Bk W10 O 280 [nv,tv,.bool nb,.bool true,.bool fu]/\dT W10 A f av ov/\aq [O] w1 [O] W10):=ab ⟨by
     rw[s8,Mc];simpa using uh YR,by rw[s8];exact uh H9,by rw[s8];exact uh HS9⟩
    clear Mc vo YR H9 HS9;go_upto_region 11 with fail;rw[<-s8];clear s8;have C2:Ol w1 (W10.alloc (.cells #[] 126)) O nv tv nb true fu A f av ov (.slice (some ⟨W10.heap.size,0,none⟩) 0 0) []:=by
     obtain⟨q1,q2,q3⟩:=uh HW;have bV:=ah W10 (.cells #[] 126);refine⟨⟨?_,λx hx=>by simp at hx,λx hx=>by simp at hx,by simp[a9,Value.ownBlock]⟩,q1.below bV,q2.below bV,?_,uh HOL,uh Pt,uh HLT⟩
     .have:=ownsRow_lit (base:=W10.heap.size) (e:=126) (size:=1) W10 #[] 0 (zq4 _) (by simp[maxLen]) rfl;exact dB this q3.size
     .refine(q3.trans (aq.ofBw bV)).foots (λk hk=>?_);rcases mem_cons.1 hk with rfl|hk
      .exact zq0 (by simp)
      .right;have e:k=W10.heap.size:=(by simpa[a9,Value.ownBlock,eq_comm] using hk);rw[e];exact q3.size
    have cd:=ab C2;have hc6:=C2.ff.c6;clear C2 HW;go_wp2_with fail
    go_loopg [9,10] f.ow.length (λgn lv iv wx=>∃(k:Nat) (L:List FE) (fu':Bool),k+gn=f.ow.length/\iv=.int .i64 k/\L.length<=4*k/\Hid (Ol w1 wx O nv tv nb true fu' A f av ov lv L/\L.map (·.f)=((range k).foldl (λr i=>wP f v i r) ([],false)).1/\fu'=(fu||((range k).foldl (λr i=>wP f v i r) ([],false)).2)))
    case atStart=>exact⟨0,[],fu,by omega,rfl,by simp,ab ⟨uh cd,rfl,by simp⟩⟩
    case round =>
     clear cd hc6;obtain⟨k,L,fu',f7,rfl,VX,hI⟩:=hrel;obtain⟨G,hG⟩:∃G,G=gk:=⟨_,rfl⟩;obtain⟨R,hR⟩:∃R,R=(range k).foldl (λr i=>wP f v i r) (([]:List CF),false):=⟨_,rfl⟩;rw[<-hR]at hI;obtain⟨la,lc,jO,-,-⟩:=aj (uh hI).1.fl.row;subst jO;have c6:=(uh hI).1.ff.c6;obtain⟨oa,oc,fx,-,-⟩:=aj (uh hI).1.ff.ow;rw[fx]at c6;clear fx;by_cases ar:k<f.ow.length
     .have hd:decide ((k:Int)<(f.ow.length:Int))=true:=(by simp;omega);have aS:(range (k+1)).foldl (λr i=>wP f v i r) (([]:List CF),false)=(gO f c k).foldl (λr g=>BY r g (g.cl.getD (1+v) 0)) R:=by
       rw[tX,<-hR,uh HC];rfl
      have cI:=ab aS;have zr:=ab (Dw (uh hI).1.ff (uh HO) ha xZ ar);have OO:=po f c k;have HMk:=ab (yK (N:=40000) hv (uh HO) ha (by rw[<-uh HC];exact uh HBN) ar);rw[<-uh HC]at HMk;have i4:(0:Int)<=(k:Int):=(by omega);clear aS hR;go_wp2_with fail
      refine(uh zr).mono ?_;rintro e w2 ⟨v2,L2,rfl,AE,qN,aR⟩;have Le:=(uh hI).1.below aR;have Lg:=AE.pend;have VU:L2.length=(gO f c k).length:=(by rw[<-qN,length_map]);have TH:∀x∈lG v2 L2 0,x ∉ a9 (.slice la L.length lc) L:=λx hx hn=>by
       have h1:=Lg.geB x hx;have h2:=(uh hI).1.fl.lt x hn;omega
      have hwB:w1.heap.size<=wr.heap.size:=(uh hI).1.st.size;obtain⟨B2,uE⟩:∃B2,B2=wr.heap.size:=⟨_,rfl⟩;rw[<-uE]at Lg hwB;obtain⟨a2,c2,wE,-,-⟩:=aj Lg.row;subst wE;have mQ:=ab (zq2 Le (zq2 Lg (zq2 TH (zq2 (uh hI).2.1 (uh hI).2.2))));have Cs:=ab qN;have abp:L2.length<=2:=(by omega);clear AE qN aR Le Lg TH hI zr uE c6 VU OO;go_wp2_with fail
      go_loopg [9,66] L2.length (λgn lv iv wx=>∃(j:Nat) (La:List FE) (fv:Bool),j+gn=L2.length/\iv=.int .i64 j/\La.length<=4*k+2*j/\Hid (Ol w1 wx O nv tv nb true fv A f av ov lv La/\fq wx B2 (.slice a2 L2.length c2) L2 j/\(∀x∈lG (.slice a2 L2.length c2) L2 j,x ∉ a9 lv La)/\La.map (·.f)=(((gO f c k).take j).foldl (λr g=>BY r g (g.cl.getD (1+v) 0)) R).1/\fv=(fu||(((gO f c k).take j).foldl (λr g=>BY r g (g.cl.getD (1+v) 0)) R).2)))
      case atStart=>exact⟨0,L,fu',by omega,rfl,by omega,mQ⟩
      case round =>
       clear mQ;obtain⟨j,La,fv,yc,rfl,VW,hJ⟩:=hrel;obtain⟨G2,CZ⟩:∃G2,G2=gk:=⟨_,rfl⟩;by_cases fC:j<L2.length
       .have jk:decide ((j:Int)<(L2.length:Int))=true:=(by simp;omega);obtain⟨g2,cap2,cO,aw⟩:=(uh hJ).2.1.cell fC;simp only[Value.slice.injEq,true_and]at cO;obtain⟨rfl,rfl⟩:=cO;obtain⟨hx,hxB,Lk,Li,Lj⟩:=(uh hJ).2.1.next fC;have qM:j<(gO f c k).length:=(by rw[<-uh Cs,length_map];exact fC);have Wu:L2[j].f=(gO f c k)[j]:=by
         have:=congrArg (λl=>l[j]?) (uh Cs);simp only[getElem?_map,getElem?_eq_getElem fC,getElem?_eq_getElem qM,Option.map_some,Option.some.injEq]at this;exact this
        have bE:=uh HMk L2[j].f (by rw[Wu];exact getElem_mem qM);have qQ:=us (λr g=>BY r g (g.cl.getD (1+v) 0)) R qM;rw[<-Wu]at qQ;obtain⟨x,zI⟩:∃x,x=L2[j]:=⟨_,rfl⟩;rw[<-zI]at aw hx hxB Li Lj bE qQ;obtain⟨i',lN⟩:=Option.isSome_iff_exists.1 bE.bg;have C1:=(uh hJ).1;have Q0:∀y∈x.bs,w1.heap.size<=y:=λy hy=>zq3 hwB (hxB y hy);obtain⟨lva,lvc,Df,-,-⟩:=aj C1.fl.row;subst Df;have BO:=ab (qb C1.fl C1.bo hx bE.ok bE.ln (λy hy=>⟨(C1.ne y hy).1,λhn=>(uh hJ).2.2.1 y (Lj y hn) hy⟩) (λhn=>by have h1:=Q0 _ hn;have h2:=C1.ol;omega) Q0 C1.st.size lN (by omega));have xc:=hx.is.cls (i:=1+v) (by omega);unfold fX at xc;obtain⟨cx,uK⟩:∃cx,cx=x.f.cl.getD (1+v) 0:=⟨_,rfl⟩;rw[<-uK]at xc BO qQ;have ve:=ab qQ;have JD:=ab Lk;have JC:=ab Li;have HWG:=ab Q0;have yo:x.p=.pointer (some ⟨x.A,0,none⟩):=rfl;rw[yo]at aw;have i5:(0:Int)<=(j:Int):=(by omega);have i6:(j:Int)<(L2.length:Int):=(by omega);have HJ:=ab (uh hJ);clear hx hxB Lk Li Lj qM Wu bE qQ zI lN C1 Q0 uK yo hJ;go_wp2_with fail
        refine(uh BO).mono ?_;rintro e w3 ⟨v3,L3,rfl,lL,AI,Az,fe⟩;have Lf:=(uh HJ).1.after (uh HWG) lL Az fe;have Lh:fq w3 B2 (.slice (some ⟨g2,0,none⟩) L2.length c2) L2 (j+1):=(uh JD).stp fe (λy hy hn=>by
         rcases mem_cons.1 hn with rfl|hn
         .have h1:=(uh JD).geB _ hy;have h2:=(uh HJ).1.ol;omega
         .rcases mem_append.1 hn with hn|hn
          .exact(uh HJ).2.2.1 y (uh JC y hy).1 hn
          .exact(uh JC y hy).2 hn)
        have Hh:∀y∈lG (.slice (some ⟨g2,0,none⟩) L2.length c2) L2 (j+1),y ∉ a9 v3 (La++L3):=λy hy hn=>by
         rcases fe.foot y (mem_cons_of_mem _ hn) with q|q
         .rcases mem_cons.1 q with rfl|q
          .have h1:=(uh JD).geB _ hy;have h2:=(uh HJ).1.ol;omega
          .rcases mem_append.1 q with q|q
           .exact(uh HJ).2.2.1 y (uh JC y hy).1 q
           .exact(uh JC y hy).2 q
         .have:=(uh JD).lt y hy;omega
        have L4:L3.length<=2:=by
         have:=rL x.f cx;rw[<-AI,length_map]at this;exact this
        have zB:(La++L3).map (·.f)=(((gO f c k).take (j+1)).foldl (λr g=>BY r g (g.cl.getD (1+v) 0)) R).1:=by
         rw[uh ve,map_append,(uh HJ).2.2.2.1,AI];rfl
        have Lb:(fv||(oG x.f cx).2)=(fu||(((gO f c k).take (j+1)).foldl (λr g=>BY r g (g.cl.getD (1+v) 0)) R).2):=by
         rw[uh ve,(uh HJ).2.2.2.2,Bool.or_assoc];rfl
        obtain⟨a3,c3,WZ,-,-⟩:=aj lL.row;subst WZ;have HN:=ab (zq2 Lf (zq2 Lh (zq2 Hh (zq2 zB Lb))));have uO:(La++L3).length<=4*k+2*(j+1):=(by rw[length_append];omega);clear lL AI Az fe Lf Lh Hh zB Lb BO HJ JD JC HWG ve aw xc;go_wp2_with fail
        go_roundg (G2-1)
        case rel=>exact⟨j+1,La++L3,_,by omega,by go_num,uO,ab (by have h:=uh HN;rw[length_append]at h;exact h)⟩
        case measure=>omega
       .have jk:decide ((j:Int)<(L2.length:Int))=false:=(by simp;omega);have qM:(gO f c k).length<=j:=(by rw[<-uh Cs,length_map];omega);have hN:=uh hJ;rw[take_of_length_le qM,<-uh cI]at hN;have HN:=ab (zq2 hN.1 (zq2 hN.2.2.2.1 hN.2.2.2.2));have uO:La.length<=4*(k+1):=(by omega);obtain⟨lva,lvc,Df,-,-⟩:=aj hN.1.fl.row;subst Df;clear hN hJ qM;go_wp2_with fail
        go_roundg (G-1)
        case rel=>exact⟨k+1,La,fv,by omega,by go_num,uO,HN⟩
        case measure=>omega
     .have hd:decide ((k:Int)<(f.ow.length:Int))=false:=(by simp;omega);have jl:k=f.ow.length:=(by omega);have HE:Hid (jV f v=(R.1,!gi f c n,true,R.2)):=ab (by rw[uh aar,hR,jl]);clear jl hR;go_wp2_with fail
      go_ret;refine⟨_,L,rfl,(uh hI).1.fl,by rw[uh HE];exact(uh hI).2.1,?_,(uh hI).1.st⟩;rw[uh HE];have h1:=(uh hI).1.bo;rw[uh HNB,(uh hI).2.2]at h1;simpa using h1
end
structure Os(w W:World)(O A:Nat)(f:CF)(av ov:Value)(nu da fu:Bool)(nv tv:Value)(Ln Lt:List FE):Prop where
 oo:Oo W O nu da fu nv tv Ln Lt
 ff:dT W A f av ov
 st:aq [O] w (dU O nv tv Ln Lt) W
 ol:O<w.heap.size
 of:O ∉ aG A av ov
 fw:∀k∈aG A av ov,k<w.heap.size
def nE(w:World)(O:Nat)(o:JI)(w':World):Prop:=∃nv tv Ln Lt,Oo w' O o.nu o.da o.fu nv tv Ln Lt/\Ln.map (·.f)=o.nx/\Lt.map (·.f)=o.ot/\aq [O] w (dU O nv tv Ln Lt) w'
section
variable {w W W':World} {O A:Nat} {f:CF} {av ov nv tv:Value} {nu da fu:Bool} {Ln Lt:List FE}
theorem Os.start(h:Oo w O nu da fu nv tv Ln Lt)(hf:dT w A f av ov)(hn:dU O nv tv Ln Lt=[O])(WF:O ∉ aG A av ov):Os w w O A f av ov nu da fu nv tv Ln Lt:=⟨h,hf,(aq.refl [O] w).foots (λk hk=>by rw[hn]at hk;exact zq0 hk),h.bk.lt,WF,hf.lt⟩
theorem Os.ge(h:Os w W O A f av ov nu da fu nv tv Ln Lt):∀k∈dU O nv tv Ln Lt,k=O\/w.heap.size<=k:=λk hk=>by
 rcases h.st.foot k hk with q|q
 .exact zq0 (by simpa using q)
 .exact zq1 q
theorem Os.below(h:Os w W O A f av ov nu da fu nv tv Ln Lt)(hb:Below W.heap.size W W'):Os w W' O A f av ov nu da fu nv tv Ln Lt :=
 ⟨h.oo.below hb,h.ff.below hb,⟨hb.os.trans h.st.os,hb.tape.trans h.st.tape,hb.output.trans h.st.output,zq3 h.st.size hb.size,λk hk hn=>(hb.block k (zq6 hk h.st.size)).trans (h.st.block k hk hn),h.st.foot⟩,h.ol,h.of,h.fw⟩
theorem Os.fresh(h:Os w W O A f av ov nu da fu nv tv Ln Lt){x:FE}(hx:∀k∈x.bs,W.heap.size<=k):∀k∈x.bs,k ∉ dU O nv tv Ln Lt:=λk hk hn=>by have:=hx k hk;have:=h.oo.lt k hn;omega
theorem Os.next{B:List Nat}{nv' tv':Value}{Ln' Lt':List FE}{nu' da' fu':Bool}(h:Os w W O A f av ov nu da fu nv tv Ln Lt)(hB:∀k∈B,w.heap.size<=k)(h1:Oo W' O nu' da' fu' nv' tv' Ln' Lt')(hs:aq (dU O nv tv Ln Lt++B) W (dU O nv' tv' Ln' Lt') W'):Os w W' O A f av ov nu' da' fu' nv' tv' Ln' Lt':=by
 have key:∀k,k<w.heap.size->k≠O->k ∉ dU O nv tv Ln Lt++B:=λk hk aY hn=>by
  rcases mem_append.1 hn with hn|hn
  .rcases h.ge k hn with q|q
   .exact aY q
   .omega
  .have:=hB k hn;omega
 refine⟨h1,h.ff.of_eq (λk hk=>hs.block k (h.ff.lt k hk) (key k (h.fw k hk) (λe=>h.of (by rw[<-e];exact hk)))),⟨hs.os.trans h.st.os,hs.tape.trans h.st.tape,hs.output.trans h.st.output,zq3 h.st.size hs.size,λk hk hn=>?_,λk hk=>?_⟩,h.ol,h.of,h.fw⟩
 .exact(hs.block k (zq6 hk h.st.size) (key k hk (by simpa using hn))).trans (h.st.block k hk hn)
 .rcases hs.foot k hk with q|q
  .rcases mem_append.1 q with q|q
   .exact h.st.foot k q
   .exact zq1 (hB k q)
  .exact zq1 (zq3 h.st.size q)
theorem Os.out{o:JI}(h:Os w W O A f av ov o.nu o.da o.fu nv tv Ln Lt)(h1:Ln.map (·.f)=o.nx)(h2:Lt.map (·.f)=o.ot):nE w O o W:=⟨nv,tv,Ln,Lt,h.oo,h1,h2,h.st⟩
theorem CC{v c:Nat}(h:Os w w O A f av ov false false false (.slice none 0 0) (.slice none 0 0) [] [])(hO:au f)(ha:f.ap.length<=40000)(hv:v<4)(hc:c<24):
  Calls prog 235 #[.pointer (some ⟨O,0,none⟩),.pointer (some ⟨A,0,none⟩),.int .i64 v,.int .i64 c] w λe w'=>e=.returned (.tuple #[])/\nE w O ⟨[bR (nZ f (1+v) c)],[],false,false,false⟩ w':=by
 have gG:=hO.owLen;have jE:=ab (cD h.ff hO.c5 ha (zq3 gG (by omega)));have H:=ab h;have HO:=ab hO;have i1:(0:Int)<=1+(v:Int):=by omega
 have i2:1+(v:Int)<5:=by omega
 have i3:(1+(v:Int)).toNat=1+v:=by omega
 clear h hO;go_enter func235,ntmps235;go_wp2_with fail
 refine(uh jE).mono ?_;rintro e w1 ⟨A1,rfl,qJ⟩;obtain⟨av1,ov1,QH⟩:=qJ.frf;have x1:=QH.fm.is.cls (i:=1+v) (by omega);have z1:=ownsRow.frozenAt QH.fm.is.ob (1+v);have oj:=QH.fm.setCl (1+v) c (by omega);obtain⟨w2,rR⟩:∃w2,w2=w1.setCell ⟨A1,1+v,none⟩ (.int .i64 (c:Int)):=⟨_,rfl⟩;rw[<-rR]at oj;have dF:aq (aG A1 av1 ov1) w1 (aG A1 av1 ov1) w2:=by rw[rR];exact(aq.refl _ _).setCell (p:=⟨A1,1+v,none⟩) (zq0 (by simp[aG])) _
 have lj:=QH.step (x':=⟨A1,nZ f (1+v) c,av1,ov1⟩) oj dF;have re:=(uh H).below lj.bw;have pR:=ab (gD re.oo lj.fm ((uh HO).sC (1+v) hc) (zq3 ha (by omega)) ((uh H).fresh lj.ge) (by simp));have HO2:=ab re;have BP:=ab lj.ge;clear qJ QH oj dF lj re jE;go_upto_region 2 with fail;rw[<-rR];clear rR x1 z1;go_wp2_with fail
 refine(uh pR).mono ?_;rintro e w3 ⟨rfl,nv3,x3,-,hx3,acO,fe⟩;have HN:=ab ((uh HO2).next (uh BP) acO fe);have HX:=ab hx3;clear acO fe hx3 pR;go_wp2_with fail
 go_end0
 exact⟨rfl,(uh HN).out (o:=⟨[bR (nZ f (1+v) c)],[],false,false,false⟩) (by simp[uh HX]) rfl⟩
theorem CK{v:Nat}(h:Os w w O A f av ov false false false (.slice none 0 0) (.slice none 0 0) [] [])(hO:au f)(ha:f.ap.length<=40000)(hv:v<4):
  Calls prog 239 #[.pointer (some ⟨O,0,none⟩),.pointer (some ⟨A,0,none⟩),.int .i64 v] w λe w'=>e=.returned (.tuple #[])/\nE w O (if 24<=a8 f then ⟨[],[],false,false,true⟩ else ⟨[bR (I6 f v)],[],false,false,false⟩) w':=by
 have gG:=hO.owLen;have ZB:a8 f<=100000:=by
  unfold a8;have h1:=Bg hO;omega
 have OG:=ab (sW h.ff (zq3 ha (by omega)) (zq3 gG (by omega)) ZB);obtain⟨N,hN⟩:∃N,N=a8 f:=⟨_,rfl⟩;have rB:=ab hN;rw[<-hN]at OG ZB ⊢;obtain⟨oR,hoR⟩:∃oR:JI,oR=if 24<=N then ⟨[],[],false,false,true⟩ else ⟨[bR (I6 f v)],[],false,false,false⟩:=⟨_,rfl⟩
 rw[<-hoR];have JA:=ab hoR;clear hoR;have H:=ab h;have HO:=ab hO;have i1:(0:Int)<=1+(v:Int):=by omega
 have i2:1+(v:Int)<5:=by omega
 have i3:(1+(v:Int)).toNat=1+v:=by omega
 clear h hO hN;go_enter func239,ntmps239;go_wp2_with fail
 refine(uh OG).mono ?_;rintro e w1 ⟨rfl,bB⟩;have rP:=(uh H).below bB;have Ps:=ab rP;clear bB OG;by_cases oK:24<=N
 .have d5:decide ((24:Int)<=(N:Int))=true:=by simp;omega
  have o4:=rP.oo.bk.cell 4 rfl;have z4:=rP.oo.bk.frz 4;have HN:=ab (rP.next (B:=[]) (λk hk=>by simp at hk) (rP.oo.flag (nu':=false) (da':=false) (fu':=true) 4 (by omega) rfl) (((aq.refl (dU O (.slice none 0 0) (.slice none 0 0) [] []) w1).setCell (p:=⟨O,4,none⟩) (zq0 (by simp[dU])) (.bool true)).wide (by simp) |>.foots (λk hk=>zq0 (by simpa using hk))));have OH:Hid (oR=⟨[],[],false,false,true⟩):=ab (by rw[uh JA,if_pos oK]);clear rP oK;go_wp2_with fail
  refine bodyPost_ret (v:=.tuple #[]) (by simp[results,Tryz.results239]) rfl ?_;exact⟨rfl,by rw[uh OH];exact(uh HN).out (o:=⟨[],[],false,false,true⟩) rfl rfl⟩
 .have d5:decide ((24:Int)<=(N:Int))=false:=by simp;omega
  have OH:Hid (oR=⟨[bR (I6 f v)],[],false,false,false⟩):=ab (by rw[uh JA,if_neg oK]);have jE:=ab (cD rP.ff (uh HO).c5 ha (zq3 gG (by omega)));have agS:N<24:=by omega
  clear oK rP;go_wp2_with fail
  refine(uh jE).mono ?_;rintro e w2 ⟨A2,rfl,mS⟩;obtain⟨av2,ov2,lj⟩:=mS.frf;have x0:=lj.fm.is.cls (i:=0) (by omega);unfold fX at x0;obtain⟨n0,qj⟩:∃n0,n0=f.cl.getD 0 0:=⟨_,rfl⟩;rw[show(({ A:=A2,f:=f,av:=av2,ov:=ov2 }:FE).f.cl.getD 0 0:Nat)=n0 from qj.symm]at x0;have vK:=ab (pf lj.fm 3 N n0 (zq3 gG (by omega)));have uZ:=ab lj;have HN0:=ab qj;clear mS lj jE qj;go_wp2_with fail
  refine(uh vK).mono ?_;rintro e w3 ⟨rfl,ov3,B1,cF⟩;have lK:=(uh uZ).step (x':=⟨A2,yz f ⟨3,N,n0⟩,av2,ov3⟩) B1 cF;have x1:=lK.fm.is.cls (i:=1+v) (by omega);have z1:=ownsRow.frozenAt lK.fm.is.ob (1+v);have qf:=lK.fm.setCl (1+v) N (by omega);obtain⟨w4,Xc⟩:∃w4,w4=w3.setCell ⟨A2,1+v,none⟩ (.int .i64 (N:Int)):=⟨_,rfl⟩;rw[<-Xc]at qf;have tu:aq (aG A2 av2 ov3) w3 (aG A2 av2 ov3) w4:=by rw[Xc];exact(aq.refl _ _).setCell (p:=⟨A2,1+v,none⟩) (zq0 (by simp[aG])) _
  have Zp:nZ (yz f ⟨3,N,n0⟩) (1+v) N=I6 f v:=by unfold I6;rw[<-uh rB,<-uh HN0]
  have x9:=lK.step (x':=⟨A2,I6 f v,av2,ov3⟩) (by rw[<-Zp];exact qf) tu;have Hl:=(uh Ps).below x9.bw;have pR:=ab (gD Hl.oo x9.fm (CJ (uh HO) (by rw[<-uh rB];exact agS)) (zq3 ha (by omega)) ((uh Ps).fresh x9.ge) (by simp));have HO4:=ab Hl;have BP:=ab (λk hk=>zq3 (uh Ps).st.size (x9.ge k hk));clear lK B1 cF qf tu x9 Hl vK Zp;go_upto_region 6 with fail;rw[<-Xc];clear Xc x1 z1 x0;go_wp2_with fail
  refine(uh pR).mono ?_;rintro e w5 ⟨rfl,nv5,x5,-,hx5,acP,oO⟩;have HN:=ab ((uh HO4).next (uh BP) acP oO);have HX:=ab hx5;clear acP oO hx5 pR;go_wp2_with fail
  go_end0
  exact⟨rfl,by rw[uh OH];exact(uh HN).out (o:=⟨[bR (I6 f v)],[],false,false,false⟩) (by simp[uh HX]) rfl⟩
end
def O7(n:Nd):Value:=.agg #[.int .i64 (n.op:Int),.int .i64 (n.v:Int),.int .i64 (n.ak:Int),.int .i64 (n.ai:Int),.int .i64 (n.nx:Int),.int .i64 (n.ot:Int)]
theorem ey(w:World)(n:Nat):Below w.heap.size w (w.drewN n):=⟨rfl,rfl,rfl,zq4 _,λ_ _=>rfl⟩
section
variable {w W W':World} {O A:Nat} {f:CF} {av ov nv tv:Value} {nu da fu:Bool} {Ln Lt:List FE}
theorem qF{n:Nd}(h:Os w w O A f av ov false false false (.slice none 0 0) (.slice none 0 0) [] [])(hO:au f)(ha:f.ap.length<=40000)(hv:n.v<4)(hi:n.ai<4):
  Calls prog 244 #[.pointer (some ⟨O,0,none⟩),.pointer (some ⟨A,0,none⟩),O7 n] w λe w'=>e=.returned (.tuple #[])/\nE w O ⟨(og f n).1,(og f n).2,false,false,false⟩ w':=by
 have gG:=hO.owLen;have rg:og f n=(if gi f (f.cl.getD (1+n.v) 0) (qE f n.ak n.ai)=true then [] else [bR (wH f (f.cl.getD (1+n.v) 0) (qE f n.ak n.ai))],if f.cl.getD (1+n.v) 0=qE f n.ak n.ai then [] else [bR (dx f (f.cl.getD (1+n.v) 0) (qE f n.ak n.ai))]):=rfl;obtain⟨op,v,ak,ai,nx,ot⟩:=n;simp only at hv hi rg;unfold O7;simp only;obtain⟨W1,dE⟩:∃W1,W1=w.alloc (.cells #[Value.int .i64 (op:Int),.int .i64 (v:Int),.int .i64 (ak:Int),.int .i64 (ai:Int),.int .i64 (nx:Int),.int .i64 (ot:Int)] 186):=⟨_,rfl⟩;have bV:Below w.heap.size w W1:=by rw[dE];exact ah w _
 have hX:Bk W1 w.heap.size 186 [Value.int .i64 (op:Int),.int .i64 (v:Int),.int .i64 (ak:Int),.int .i64 (ai:Int),.int .i64 (nx:Int),.int .i64 (ot:Int)]:=by rw[dE];exact Bk.new w _ _
 obtain⟨X,fV⟩:∃X,X=w.heap.size:=⟨_,rfl⟩;rw[<-fV]at hX;have rP:=h.below bV;have b1:=hX.cell 1 rfl;have b2:=hX.cell 2 rfl;have b3:=hX.cell 3 rfl;have x1:=rP.ff.cls (i:=1+v) (by omega);unfold fX at x1;obtain⟨a,haE⟩:∃a,a=f.cl.getD (1+v) 0:=⟨_,rfl⟩;obtain⟨b,hbE⟩:∃b,b=qE f ak ai:=⟨_,rfl⟩;rw[<-haE]at x1;rw[<-haE,<-hbE]at rg;have Wd:a<24:=by rw[haE];exact hO.get _
 have abS:b<24:=by rw[hbE];exact hO.cT _ _
 have i1:(0:Int)<=1+(v:Int):=by omega
 have i2:1+(v:Int)<5:=by omega
 have i3:(1+(v:Int)).toNat=1+v:=by omega
 obtain⟨oR,hoR⟩:∃oR:JI,oR=⟨(og f ⟨op,v,ak,ai,nx,ot⟩).1,(og f ⟨op,v,ak,ai,nx,ot⟩).2,false,false,false⟩:=⟨_,rfl⟩;rw[<-hoR];rw[rg]at hoR;have JA:=ab hoR;have HO:=ab hO;have H1:=ab rP;have Cq:=ab hbE;clear h hO rP hoR rg bV hX haE hbE;go_enter func244,ntmps244;go_upto_region 1 with fail;rw[<-dE,<-fV];clear dE fV;go_quiet (fail)
 obtain⟨W2,iA⟩:∃W2,W2=W1.drewN nq:=⟨_,rfl⟩;rw[<-iA];have aR:Below W1.heap.size W1 W2:=by rw[iA];exact ey W1 nq
 have d2:W2.cell? ⟨X,2,none⟩=some (.int .i64 (ak:Int)):=by rw[iA];exact b2
 have d3:W2.cell? ⟨X,3,none⟩=some (.int .i64 (ai:Int)):=by rw[iA];exact b3
 have re:=(uh H1).below aR;have uA:=ab (pX re.ff ak ai hi);rw[<-uh Cq]at uA;have H2:=ab re;clear iA aR re b1 b2 b3 x1 H1;go_wp2_with fail
 refine(uh uA).mono ?_;rintro e W3 ⟨rfl,cU⟩;have Lc:=(uh H2).below cU;have SN:=ab (kx a b Lc.ff);have H3:=ab Lc;clear cU Lc H2 uA d2 d3;go_wp2_with fail
 refine(uh SN).mono ?_;rintro e W4 ⟨rfl,mp⟩;have Hl:=(uh H3).below mp;have H4:=ab Hl;clear mp H3 SN;cases vo:gi f a b
 .
  rw[vo]at JA;have jE:=ab (cD Hl.ff (uh HO).c5 ha (zq3 gG (by omega)));have BN:=ab (mn vo);clear Hl vo;go_wp2_with fail
  refine(uh jE).mono ?_;rintro e W5 ⟨A5,rfl,hN5⟩;obtain⟨av5,ov5,AD⟩:=hN5.frf;have HJO:=ab (wh AD.fm (zq3 ha (by omega)) (zq3 gG (by omega)) a b);have SP:=ab AD;clear hN5 AD jE;go_wp2_with fail
  refine(uh HJO).mono ?_;rintro e W6 ⟨rfl,Qp,Hp⟩;have Jf:=(uh SP).step (x':=⟨A5,wH f a b,av5,ov5⟩) Qp Hp;have hO6:=(uh H4).below Jf.bw;have pR:=ab (gD hO6.oo Jf.fm ((uh HO).jo Wd (uh BN)) (by
   show(f.ap.map _).length<=100000;rw[length_map];omega) ((uh H4).fresh Jf.ge) (by simp))
  have H6:=ab hO6;have BP:=ab (λk hk=>zq3 (uh H4).st.size (Jf.ge k hk));clear Qp Hp Jf hO6 HJO;go_wp2_with fail
  refine(uh pR).mono ?_;rintro e W7 ⟨rfl,nv7,x7,-,hx7,acR,wD⟩;have hO7:=(uh H6).next (uh BP) acR wD;have H7:=ab hO7;have HX7:=ab hx7;clear acR wD hx7 pR;by_cases uH:a=b
  .have d1:((a:Int) != (b:Int))=false:=(by simp[uH]);have OH:Hid (oR=⟨[bR (wH f a b)],[],false,false,false⟩):=ab (by rw[uh JA,if_neg (by decide),if_pos uH]);clear uH hO7;go_wp2_with fail
   go_end0
   exact⟨rfl,by rw[uh OH];exact(uh H7).out (o:=⟨[bR (wH f a b)],[],false,false,false⟩) (by simp[uh HX7]) rfl⟩
  .have d1:((a:Int) != (b:Int))=true:=(by rw[bne_iff_ne];omega);have OH:Hid (oR=⟨[bR (wH f a b)],[bR (dx f a b)],false,false,false⟩):=ab (by rw[uh JA,if_neg (by decide),if_neg uH]);have jE:=ab (cD hO7.ff (uh HO).c5 ha (zq3 gG (by omega)));clear uH hO7;go_wp2_with fail
   refine(uh jE).mono ?_;rintro e W8 ⟨A8,rfl,hN8⟩;obtain⟨av8,ov8,uL⟩:=hN8.frf;have SV:=ab (pw uL.fm a b (zq3 ha (by omega)));have Po:=ab uL;clear hN8 uL jE;go_wp2_with fail
   refine(uh SV).mono ?_;rintro e W9 ⟨rfl,av9,K7,Lm⟩;have vq:=(uh Po).step (x':=⟨A8,dx f a b,av9,ov8⟩) K7 Lm;have V1:=(uh H7).below vq.bw;have S7:=ab (uw V1.oo vq.fm ((uh HO).pa Wd abS) (by
    show(f.ap++[_]).length<=100000;rw[length_append,length_singleton];omega) ((uh H7).fresh vq.ge) (by simp))
   have H9:=ab V1;have UE:=ab (λk hk=>zq3 (uh H7).st.size (vq.ge k hk));clear K7 Lm vq V1 SV;go_wp2_with fail
   refine(uh S7).mono ?_;rintro e Wa ⟨rfl,tva,xa,-,hxa,Mh,Dn⟩;have HN:=ab ((uh H9).next (uh UE) Mh Dn);have HXA:=ab hxa;clear Mh Dn hxa S7;go_wp2_with fail
   go_end0
   exact⟨rfl,by rw[uh OH];exact(uh HN).out (o:=⟨[bR (wH f a b)],[bR (dx f a b)],false,false,false⟩) (by simp[uh HX7]) (by simp[uh HXA])⟩
 .rw[vo]at JA;have uH:a≠b:=λe=>by rw[e]at vo;unfold gi at vo;simp at vo
  have d1:((a:Int) != (b:Int))=true:=by rw[bne_iff_ne];omega
  have OH:Hid (oR=⟨[],[bR (dx f a b)],false,false,false⟩):=ab (by rw[uh JA,if_pos rfl,if_neg uH]);have jE:=ab (cD Hl.ff (uh HO).c5 ha (zq3 gG (by omega)));clear uH Hl vo;go_wp2_with fail
  refine(uh jE).mono ?_;rintro e W8 ⟨A8,rfl,hN8⟩;obtain⟨av8,ov8,uL⟩:=hN8.frf;have SV:=ab (pw uL.fm a b (zq3 ha (by omega)));have Po:=ab uL;clear hN8 uL jE;go_wp2_with fail
  refine(uh SV).mono ?_;rintro e W9 ⟨rfl,av9,K7,Lm⟩;have vq:=(uh Po).step (x':=⟨A8,dx f a b,av9,ov8⟩) K7 Lm;have V1:=(uh H4).below vq.bw;have S7:=ab (uw V1.oo vq.fm ((uh HO).pa Wd abS) (by
   show(f.ap++[_]).length<=100000;rw[length_append,length_singleton];omega) ((uh H4).fresh vq.ge) (by simp))
  have H9:=ab V1;have UE:=ab (λk hk=>zq3 (uh H4).st.size (vq.ge k hk));clear K7 Lm vq V1 SV;go_wp2_with fail
  refine(uh S7).mono ?_;rintro e Wa ⟨rfl,tva,xa,-,hxa,Mh,Dn⟩;have HN:=ab ((uh H9).next (uh UE) Mh Dn);have HXA:=ab hxa;clear Mh Dn hxa S7;go_wp2_with fail
  go_end0
  exact⟨rfl,by rw[uh OH];exact(uh HN).out (o:=⟨[],[bR (dx f a b)],false,false,false⟩) rfl (by simp[uh HXA])⟩
end
def cX:Value:=.slice none 0 0
structure Lo(w W:World)(O A:Nat)(f:CF)(av ov:Value)(nu da fu:Bool)(nv:Value)(Ln:List FE)(B:Nat)(lv:Value)(L:List FE)(j:Nat):Prop where
 os:Os w W O A f av ov nu da fu nv cX Ln []
 pe:fq W B lv L j
 dj:∀k∈lG lv L j,k ∉ dU O nv cX Ln []
 wB:w.heap.size<=B
section
variable {w W W':World} {O A:Nat} {f:CF} {av ov nv lv:Value} {nu da fu:Bool} {Ln L:List FE} {B j:Nat}
theorem Lo.mid{x':FE}(h:Lo w W O A f av ov nu da fu nv Ln B lv L j)(hj:j<L.length)(hs:aq L[j].bs W x'.bs W'):
  Os w W' O A f av ov nu da fu nv cX Ln []/\(∀k∈x'.bs,k ∉ dU O nv cX Ln [])/\(∀k∈x'.bs,w.heap.size<=k)/\fq W' B lv L (j+1)/\(∀k∈lG lv L (j+1),k ∉ dU O nv cX Ln []/\k ∉ x'.bs):=by
 obtain⟨h1,h2,h3,h4,h5⟩:=h.pe.next hj;have Jk:∀k∈L[j].bs,k ∉ dU O nv cX Ln []:=λk hk=>h.dj k (h5 k hk);have ro:Oo W' O nu da fu nv cX Ln []:=h.os.oo.stp hs (λk hk hn=>Jk k hn hk);refine⟨h.os.next (B:=L[j].bs) (λk hk=>zq3 h.wB (h2 k hk)) ro ((hs.wide (λk hk=>mem_append_right _ hk)).foots (λk hk=>zq0 (mem_append_left _ hk))),λk hk hn=>?_,λk hk=>?_,h3.stp hs (λk hk hn=>(h4 k hk).2 hn),λk hk=>⟨h.dj k (h4 k hk).1,λhn=>?_⟩⟩
 .rcases hs.foot k hk with q|q
  .exact Jk k q hn
  .have:=h.os.oo.lt k hn;omega
 .rcases hs.foot k hk with q|q
  .exact zq3 h.wB (h2 k q)
  .exact zq3 h.os.st.size q
 .rcases hs.foot k hn with q|q
  .exact(h4 k hk).2 q
  .have:=h3.lt k hk;omega
theorem Lo.fin {x' y:FE} {nv':Value} {W'':World} (hO:Os w W' O A f av ov nu da fu nv cX Ln []) (cq:∀k∈x'.bs,w.heap.size<=k) (hP:fq W' B lv L (j+1)) (hd:∀k∈lG lv L (j+1),k ∉ dU O nv cX Ln []/\k ∉ x'.bs) (hw:w.heap.size<=B)
  (ro:Oo W'' O nu da fu nv' cX (Ln++[y]) []) (hs:aq (dU O nv cX Ln []++x'.bs) W' (dU O nv' cX (Ln++[y]) []) W''):Lo w W'' O A f av ov nu da fu nv' (Ln++[y]) B lv L (j+1):=by
 have hn:∀k∈lG lv L (j+1),k ∉ dU O nv cX Ln []++x'.bs:=λk hk hm=>by
  rcases mem_append.1 hm with q|q
  .exact(hd k hk).1 q
  .exact(hd k hk).2 q
 refine⟨hO.next cq ro hs,hP.stp hs hn,λk hk hm=>?_,hw⟩;rcases hs.foot k hm with q|q
 .exact hn k hk q
 .have:=hP.lt k hk;omega
theorem Lo.start{w2:World}{nu' da' fu':Bool}(h:Os w W O A f av ov nu da fu cX cX [] [])(kh:Fl w2 W.heap.size lv L)(B7:Bk w2 O 280 [cX,cX,.bool nu',.bool da',.bool fu'])(hs:aq [O] W (O::a9 lv L) w2):Lo w w2 O A f av ov nu' da' fu' cX [] W.heap.size lv L 0:=by
 have hfp:dU O cX cX [] []=[O]:=rfl;have rl:Fl w2 0 cX []:=Fl.nil0 w2 0;refine⟨⟨⟨B7,rl,rl,by simp[a9,cX,Value.ownBlock]⟩,h.ff.of_eq (λk hk=>hs.block k (h.ff.lt k hk) (λhn=>h.of (by rw[mem_singleton]at hn;rw[<-hn];exact hk))),?_,h.ol,h.of,h.fw⟩,kh.pend,λk hk hn=>?_,h.st.size⟩
 .rw[hfp];have h0:=h.st;rw[hfp]at h0;exact(h0.trans (hs.foots (F'':=[O]) (λk hk=>zq0 hk)))
 .rw[hfp,mem_singleton]at hn;have h1:=kh.pend.geB k hk;have h2:=h.ol;have h3:=h.st.size;omega
end
