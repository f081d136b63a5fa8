import Derived.Test.YtciihepbeacppaaGreatM16
set_option maxRecDepth 100000
set_option maxHeartbeats 0
namespace Go.Proofs.YtciihepbeacppaaGreat
open Tryz Go.RowKit List World Below
set_option linter.unusedVariables false
def mU(v:Value)(L:List FE)(j:Nat):List Nat:=v.ownBlock.toList++(L.drop j).flatMap FE.bs
structure gi(W:World)(B:Nat)(v:Value)(L:List FE)(j:Nat):Prop where
 row:W.ownsRow B 126 1 v L.length (L.map FE.p)
 fm:∀x∈L.drop j,Fm W x.A x.f x.av x.ov
 ge:∀x∈L.drop j,∀k∈x.bs,B<=k
 nd:(mU v L j).Nodup
section
variable {W W':World} {B j:Nat} {v:Value} {L:List FE}
theorem Fl.pend(h:Fl W B v L):gi W B v L 0:=⟨h.row,by simpa using h.fm,by simpa using h.ge,by simpa[mU,bn] using h.nd⟩
theorem gi.lt(h:gi W B v L j):∀k∈mU v L j,k<W.heap.size:=by
 intro k hk;rcases mem_append.1 hk with hk|hk
 .exact(h.row.lt k (by simpa using hk)).2
 .obtain⟨x,hx,hk⟩:=mem_flatMap.1 hk;exact(h.fm x hx).lt k hk
theorem gi.geB(h:gi W B v L j):∀k∈mU v L j,B<=k:=by
 intro k hk;rcases mem_append.1 hk with hk|hk
 .exact(h.row.lt k (by simpa using hk)).1
 .obtain⟨x,hx,hk⟩:=mem_flatMap.1 hk;exact h.ge x hx k hk
theorem gi.of_eq(h:gi W B v L j)(he:∀k∈mU v L j,W'.heap[k]?=W.heap[k]?):gi W' B v L j :=
 ⟨ae h.row (λk hk=>he k (mem_append_left _ (by simpa using hk))),λx hx=>(h.fm x hx).of_eq (λk hk=>he k (mem_append_right _ (mem_flatMap.2 ⟨x,hx,hk⟩))),h.ge,h.nd⟩
theorem gi.stp{F F':List Nat}(h:gi W B v L j)(hs:au F W F' W')(hd:∀k∈mU v L j,k ∉ F):gi W' B v L j:=h.of_eq (λk hk=>hs.block k (h.lt k hk) (hd k hk))
theorem gi.below(h:gi W B v L j)(hb:Below W.heap.size W W'):gi W' B v L j:=h.of_eq (λk hk=>hb.block k (h.lt k hk))
theorem gi.next(h:gi W B v L j)(hj:j<L.length):Fm W L[j].A L[j].f L[j].av L[j].ov/\(∀k∈L[j].bs,B<=k)/\gi W B v L (j+1)/\(∀k∈mU v L (j+1),k∈mU v L j/\k ∉ L[j].bs)/\(∀k∈L[j].bs,k∈mU v L j):=by
 have e:L.drop j=L[j]::L.drop (j+1):=drop_eq_getElem_cons hj;have hm:L[j]∈L.drop j:=by rw[e];exact mem_cons_self
 have agM:∀x∈L.drop (j+1),x∈L.drop j:=λx hx=>by rw[e];exact mem_cons_of_mem _ hx
 have c9:=h.nd;unfold mU at c9;rw[e,flatMap_cons,nodup_append,nodup_append]at c9;obtain⟨n1,⟨n2,n3,n4⟩,n5⟩:=c9;refine⟨h.fm _ hm,h.ge _ hm,⟨h.row,λx hx=>h.fm x (agM x hx),λx hx=>h.ge x (agM x hx),?_⟩,λk hk=>?_,λk hk=>?_⟩
 .unfold mU;rw[nodup_append];exact⟨n1,n3,λa ha b hb=>n5 a ha b (mem_append_right _ hb)⟩
 .rcases mem_append.1 hk with hk|hk
  .exact⟨mem_append_left _ hk,λhn=>n5 k hk k (mem_append_left _ hn) rfl⟩
  .refine⟨mem_append_right _ ?_,λhn=>n4 k hn k hk rfl⟩;rw[e,flatMap_cons];exact mem_append_right _ hk
 .refine mem_append_right _ ?_;rw[e,flatMap_cons];exact mem_append_left _ hk
theorem gi.cell(h:gi W B v L j){i:Nat}(hi:i<L.length):∃g cap,v=.slice (some ⟨g,0,none⟩) L.length cap/\W.cell? ⟨g,i,none⟩=some L[i].p:=by
 obtain⟨g,cap,hv,-,-,-⟩:=cR h.row (by omega);subst hv;refine⟨g,cap,rfl,?_⟩;have:=h.row.cellAt i (by omega);rw[this];simp[hi]
end
theorem wj{α:Type}(g:α->Nat->α)(a:α)(n:Nat):(range (n+1)).foldl g a=g ((range n).foldl g a) n:=by
 rw[range_succ,foldl_append];rfl
theorem wO{α β:Type}(g:α->β->α)(a:α){l:List β}{j:Nat}(hj:j<l.length):(l.take (j+1)).foldl g a=g ((l.take j).foldl g a) l[j]:=by
 rw[take_add_one,getElem?_eq_getElem hj,foldl_append];rfl
structure Ol(w W:World)(O:Nat)(nv tv:Value)(nu da fu:Bool)(A:Nat)(f:CF)(av ov:Value)(lv:Value)(L:List FE):Prop where
 fl:Fl W w.heap.size lv L
 bo:Bk W O 280 [nv,tv,.bool nu,.bool da,.bool fu]
 ff:ew W A f av ov
 st:au [O] w (O::bn lv L) W
 ol:O<w.heap.size
 of:O ∉ aH A av ov
 fw:∀k∈aH A av ov,k<w.heap.size
section
variable {w W W':World} {O A:Nat} {nv tv:Value} {nu da fu:Bool} {f:CF} {av ov lv:Value} {L:List FE}
theorem Ol.below(h:Ol w W O nv tv nu da fu A f av ov lv L)(hb:Below W.heap.size W W'):Ol w W' O nv tv nu da fu A f av ov lv L :=
 ⟨h.fl.below hb,h.bo.below hb,h.ff.below hb,⟨hb.os.trans h.st.os,hb.tape.trans h.st.tape,hb.output.trans h.st.output,zq3 h.st.size hb.size,λk hk hn=>(hb.block k (zq6 hk h.st.size)).trans (h.st.block k hk hn),h.st.foot⟩,h.ol,h.of,h.fw⟩
theorem Ol.ne(h:Ol w W O nv tv nu da fu A f av ov lv L):∀k∈bn lv L,k≠O/\k ∉ aH A av ov:=λk hk=>⟨λe=>by have:=h.fl.geB k hk;have:=h.ol;omega,λhn=>by have:=h.fl.geB k hk;have:=h.fw k hn;omega⟩
theorem Ol.after{x:FE}{lv':Value}{L':List FE}{fu':Bool}(h:Ol w W O nv tv nu da fu A f av ov lv L)(hx:∀k∈x.bs,w.heap.size<=k)(h1:Fl W' w.heap.size lv' L')(h2:Bk W' O 280 [nv,tv,.bool nu,.bool da,.bool fu'])(hs:au (O::(bn lv L++x.bs)) W (O::bn lv' L') W'):Ol w W' O nv tv nu da fu' A f av ov lv' L':=by
 refine⟨h1,h2,h.ff.of_eq (λk hk=>hs.block k (h.ff.lt k hk) (λhn=>?_)),?_,h.ol,h.of,h.fw⟩
 .rcases mem_cons.1 hn with rfl|hn
  .exact h.of hk
  .rcases mem_append.1 hn with hn|hn
   .exact(h.ne k hn).2 hk
   .have:=hx k hn;have:=h.fw k hk;omega
 .refine⟨hs.os.trans h.st.os,hs.tape.trans h.st.tape,hs.output.trans h.st.output,zq3 h.st.size hs.size,λk hk hn=>?_,λk hk=>?_⟩
  .rw[hs.block k (zq6 hk h.st.size) (λhm=>?_)]
   .exact h.st.block k hk hn
   .rcases mem_cons.1 hm with rfl|hm
    .exact hn (by simp)
    .rcases mem_append.1 hm with hm|hm
     .have:=h.fl.geB k hm;omega
     .have:=hx k hm;omega
  .rcases mem_cons.1 hk with rfl|hk
   .exact zq0 (by simp)
   .exact zq1 (h1.geB k hk)
theorem si{v:Nat}(hv:v<4)(Ei:Bk w O 280 [nv,tv,.bool nu,.bool da,.bool fu])(h:ew w A f av ov)(hO:aq f)(ha:f.ap.length<=40000)(hof:O ∉ aH A av ov):
  Calls prog 257 #[.pointer (some ⟨O,0,none⟩),.pointer (some ⟨A,0,none⟩),.int .i64 v] w λe w'=>∃lv L,e=.returned lv/\Fl w' w.heap.size lv L/\L.map (·.f)=(dP f v).1/\Bk w' O 280 [nv,tv,.bool (nu||(dP f v).2.1),.bool (da||(dP f v).2.2.1),.bool (fu||(dP f v).2.2.2)]/\au [O] w (O::bn lv L) w':=by
 have iE:=hO.owLen;have x1:=h.cls (i:=1+v) (by omega);have x0:=h.cls (i:=0) (by omega);unfold gZ at x0 x1;have nU:dP f v=if f.cl.getD (1+v) 0=f.cl.getD 0 0 then ([],true,false,false) else if (cU f.ow (f.cl.getD (1+v) 0)).isSome=true then ((jk f (f.cl.getD (1+v) 0)).1,false,false,(jk f (f.cl.getD (1+v) 0)).2) else (((range f.ow.length).foldl (λr i=>yX f v i r) ([],false)).1,!bj f (f.cl.getD (1+v) 0) (f.cl.getD 0 0),true,((range f.ow.length).foldl (λr i=>yX f v i r) ([],false)).2):=rfl
 have zZ:=hO.get (1+v);obtain⟨c,hc⟩:∃c,c=f.cl.getD (1+v) 0:=⟨_,rfl⟩;obtain⟨n,hn⟩:∃n,n=f.cl.getD 0 0:=⟨_,rfl⟩;rw[<-hc]at x1 nU zZ;rw[<-hn]at x0 nU;have i1:(0:Int)<=1+(v:Int):=by omega
 have i2:1+(v:Int)<5:=by omega
 have i3:(1+(v:Int)).toNat=1+v:=by omega
 have H:=ab h;have HO:=ab hO;have HBO:=ab Ei;have HC:=ab hc;have So:=ab hof;have o2:=Ei.cell 2 rfl;have o3:=Ei.cell 3 rfl;have oz:=Ei.frz;have HOL:=ab Ei.lt;have mL:=ab (cI c h);by_cases fZ:c=n
 .have d0:((c:Int)==(n:Int))=true:=by simp[fZ]
  have HE:Hid (dP f v=([],true,false,false)):=ab (by rw[nU,if_pos fZ]);have eu:=ab (Ei.set 2 (.bool true));clear nU fZ h hO Ei hc hn hof;go_enter func257,ntmps257;go_wp2_with fail
  go_ret;refine⟨_,[],rfl,Fl.nil0 _ _,by rw[uh HE];rfl,?_,?_⟩
  .rw[uh HE];have:=uh eu;simpa using this
  .exact((au.refl [O] w).setCell (p:=⟨O,2,none⟩) (zq0 (by simp)) _).foots (λk hk=>zq0 (by simpa[bn,Value.ownBlock] using hk))
 .have d0:((c:Int)==(n:Int))=false:=by simp;omega
  rw[if_neg fZ]at nU;have Bx:=ab nU;have hg:=sj (cU f.ow c);cases hb:cU f.ow c with
  |some i =>
   rw[hb]at hg mL Bx;have HE:Hid (dP f v=((jk f c).1,false,false,(jk f c).2)):=ab (by rw[uh Bx];rfl);have kM:=ab (cK h hO.c5 ha (zq3 iE (by omega)));have HB:=ab hb;clear nU fZ h hO Ei hc hn Bx hb hof;go_enter func257,ntmps257;go_wp2_with fail
   refine(uh mL).mono ?_;rintro e w1 ⟨rfl,rfl⟩;go_wp2_with fail
   refine(uh kM).mono ?_;rintro e w2 ⟨A2,rfl,If⟩;obtain⟨av2,ov2,mE⟩:=If.frf;have DY:=ab (rO (v:=.slice none 0 0) (L:=[]) (B:=w1.heap.size) (Fl.nil0 w2 _) ((uh HBO).below mE.bw) mE.fm (uh HO) ha (λk hk=>by simp[bn,Value.ownBlock]at hk) (λhn=>by have h1:=mE.ge _ hn;have h2:=uh HOL;omega) mE.ge mE.bw.size (uh HB) (by simp));have xI:=ab mE;clear If mE kM;go_wp2_with fail
   refine(uh DY).mono ?_;rintro e w3 ⟨v3,L3,rfl,mZ,CU,CL,f8⟩;have aV:au [O] w1 (O::bn v3 L3) w3:=by
    have aU:=(uh xI).bw;refine⟨f8.os.trans aU.os,f8.tape.trans aU.tape,f8.output.trans aU.output,zq3 aU.size f8.size,λk hk hn=>?_,λk hk=>?_⟩
    .rw[f8.block k (zq6 hk aU.size) (λhm=>?_)]
     .exact aU.block k hk
     .rcases mem_cons.1 hm with rfl|hm
      .exact hn (by simp)
      .rcases mem_append.1 hm with hm|hm
       .simp[bn,Value.ownBlock]at hm
       .have:=(uh xI).ge k hm;omega
    .rcases mem_cons.1 hk with rfl|hk
     .exact zq0 (by simp)
     .exact zq1 (mZ.geB k hk)
   rw[nil_append]at mZ;have HN:=ab (zq2 mZ (zq2 CU (zq2 CL aV)));clear mZ CU CL f8 aV DY xI;go_wp2_with fail
   go_ret;refine⟨_,L3,rfl,(uh HN).1,by rw[uh HE];exact(uh HN).2.1,?_,(uh HN).2.2.2⟩;rw[uh HE];have:=(uh HN).2.2.1;simpa using this
  |none =>
   rw[hb]at hg mL Bx;have ad8:Hid (dP f v=(((range f.ow.length).foldl (λr i=>yX f v i r) ([],false)).1,!bj f c n,true,((range f.ow.length).foldl (λr i=>yX f v i r) ([],false)).2)):=ab (by rw[uh Bx];rfl);have ZU:=Ei.set 3 (.bool true);have h8:ew (w.setCell ⟨O,3,none⟩ (.bool true)) A f av ov:=h.of_eq (λk hk=>heap_setCell _ _ _ _ (λe=>hof (by have e':k=O:=e;rw[<-e'];exact hk)));obtain⟨W8,hW8⟩:∃W8,W8=w.setCell ⟨O,3,none⟩ (.bool true):=⟨_,rfl⟩;have Io:au [O] w [O] W8:=(by rw[hW8];exact(au.refl [O] w).setCell (p:=⟨O,3,none⟩) (zq0 (by simp)) _);rw[<-hW8]at ZU h8;have V7:=ab (lX c n h8);have St:=ab (im (N:=40000) hv hO ha);have HLT:=ab h.lt;have HBN:=ab hb;have HB8:=ab ZU;have H8:=ab h8;have Wo:=ab Io;clear nU fZ h hO Ei hc hn Bx hb hof ZU h8 Io;go_enter func257,ntmps257;go_wp2_with fail
   refine(uh mL).mono ?_;rintro e w1 ⟨rfl,rfl⟩;go_upto_region 9 with fail;rw[<-hW8];clear hW8 o2 o3 oz;go_wp2_with fail
   refine(uh V7).mono ?_;rintro e w9 ⟨rfl,OD⟩;have afz:=(uh HB8).below OD;have h9:=(uh H8).below OD;have hs9:au [O] w1 [O] w9:=⟨OD.os.trans (uh Wo).os,OD.tape.trans (uh Wo).tape,OD.output.trans (uh Wo).output,zq3 (uh Wo).size OD.size,λk hk hn=>(OD.block k (zq6 hk (uh Wo).size)).trans ((uh Wo).block k hk hn),(uh Wo).foot⟩;have HB9:=ab afz;have H9:=ab h9;have HS9:=ab hs9;obtain⟨nb,O8⟩:∃nb,nb=(nu||!bj f c n):=⟨_,rfl⟩;have HNB:=ab O8;clear afz h9 hs9 OD V7 HB8 H8 Wo;cases xU:bj f c n
   .rw[xU]at O8;have o2:=(uh HB9).cell 2 rfl;have oz:=(uh HB9).frz 2;obtain⟨W10,vj⟩:∃W10,W10=w9.setCell ⟨O,2,none⟩ (.bool true):=⟨_,rfl⟩;have HW:Hid (Bk W10 O 280 [nv,tv,.bool nb,.bool true,.bool fu]/\ew W10 A f av ov/\au [O] w1 [O] W10):=ab ⟨by
     have:=(uh HB9).set 2 (.bool true);rw[vj,O8];simpa using this,by
     rw[vj];exact(uh H9).of_eq (λk hk=>heap_setCell _ _ _ _ (λe=>uh So (by have e':k=O:=e;rw[<-e'];exact hk))),by rw[vj];exact(uh HS9).setCell (p:=⟨O,2,none⟩) (zq0 (by simp)) _⟩
    clear O8 xU HB9 H9 HS9;go_upto_region 11 with fail;rw[<-vj];clear vj o2 oz;have Fk:Ol w1 (W10.alloc (.cells #[] 126)) O nv tv nb true fu A f av ov (.slice (some ⟨W10.heap.size,0,none⟩) 0 0) []:=by
     obtain⟨q1,q2,q3⟩:=uh HW;have cf:=ah W10 (.cells #[] 126);refine⟨⟨?_,λx hx=>by simp at hx,λx hx=>by simp at hx,by simp[bn,Value.ownBlock]⟩,q1.below cf,q2.below cf,?_,uh HOL,uh So,uh HLT⟩
     .have:=ownsRow_lit (base:=W10.heap.size) (e:=126) (size:=1) W10 #[] 0 (zq4 _) (by simp[maxLen]) rfl;exact ej this q3.size
     .refine(q3.trans (au.ofBw cf)).foots (λk hk=>?_);rcases mem_cons.1 hk with rfl|hk
      .exact zq0 (by simp)
      .right;have e:k=W10.heap.size:=(by simpa[bn,Value.ownBlock,eq_comm] using hk);rw[e];exact q3.size
    have cG:=ab Fk;have hc6:=Fk.ff.c6;clear Fk HW;go_wp2_with fail
    go_loopg [9,10] f.ow.length (λgn lv iv wx=>∃(k:Nat) (L:List FE) (fu':Bool),k+gn=f.ow.length/\iv=.int .i64 k/\L.length<=4*k/\Hid (Ol w1 wx O nv tv nb true fu' A f av ov lv L/\L.map (·.f)=((range k).foldl (λr i=>yX f v i r) ([],false)).1/\fu'=(fu||((range k).foldl (λr i=>yX f v i r) ([],false)).2)))
    case atStart=>exact⟨0,[],fu,by omega,rfl,by simp,ab ⟨uh cG,rfl,by simp⟩⟩
    case round =>
     clear cG hc6;obtain⟨k,L,fu',fJ,rfl,ZA,hI⟩:=hrel;obtain⟨G,hG⟩:∃G,G=gk:=⟨_,rfl⟩;obtain⟨R,hR⟩:∃R,R=(range k).foldl (λr i=>yX f v i r) (([]:List CF),false):=⟨_,rfl⟩;rw[<-hR]at hI;obtain⟨la,lc,ic,-,-⟩:=aj (uh hI).1.fl.row;subst ic;have c6:=(uh hI).1.ff.c6;obtain⟨oa,oc,gj,-,-⟩:=aj (uh hI).1.ff.ow;rw[gj]at c6;clear gj;by_cases ar:k<f.ow.length
     .have hd:decide ((k:Int)<(f.ow.length:Int))=true:=(by simp;omega);have aV:(range (k+1)).foldl (λr i=>yX f v i r) (([]:List CF),false)=(iM f c k).foldl (λr g=>D8 r g (g.cl.getD (1+v) 0)) R:=by
       rw[wj,<-hR,uh HC];rfl
      have db:=ab aV;have Bw:=ab (F8 (uh hI).1.ff (uh HO) ha zZ ar);have ZC:=qS f c k;have HMk:=ab (AF (N:=40000) hv (uh HO) ha (by rw[<-uh HC];exact uh HBN) ar);rw[<-uh HC]at HMk;have i4:(0:Int)<=(k:Int):=(by omega);clear aV hR;go_wp2_with fail
      refine(uh Bw).mono ?_;rintro e w2 ⟨v2,L2,rfl,CQ,rz,aU⟩;have Ot:=(uh hI).1.below aU;have Ov:=CQ.pend;have Zx:L2.length=(iM f c k).length:=(by rw[<-rz,length_map]);have Xf:∀x∈mU v2 L2 0,x ∉ bn (.slice la L.length lc) L:=λx hx hn=>by
       have h1:=Ov.geB x hx;have h2:=(uh hI).1.fl.lt x hn;omega
      have hwB:w1.heap.size<=wr.heap.size:=(uh hI).1.st.size;obtain⟨B2,Fh⟩:∃B2,B2=wr.heap.size:=⟨_,rfl⟩;rw[<-Fh]at Ov hwB;obtain⟨a2,c2,Em,-,-⟩:=aj Ov.row;subst Em;have oK:=ab (zq2 Ot (zq2 Ov (zq2 Xf (zq2 (uh hI).2.1 (uh hI).2.2))));have EF:=ab rz;have ae4:L2.length<=2:=(by omega);clear CQ rz aU Ot Ov Xf hI Bw Fh c6 Zx ZC;go_wp2_with fail
      go_loopg [9,66] L2.length (λgn lv iv wx=>∃(j:Nat) (La:List FE) (fv:Bool),j+gn=L2.length/\iv=.int .i64 j/\La.length<=4*k+2*j/\Hid (Ol w1 wx O nv tv nb true fv A f av ov lv La/\gi wx B2 (.slice a2 L2.length c2) L2 j/\(∀x∈mU (.slice a2 L2.length c2) L2 j,x ∉ bn lv La)/\La.map (·.f)=(((iM f c k).take j).foldl (λr g=>D8 r g (g.cl.getD (1+v) 0)) R).1/\fv=(fu||(((iM f c k).take j).foldl (λr g=>D8 r g (g.cl.getD (1+v) 0)) R).2)))
      case atStart=>exact⟨0,L,fu',by omega,rfl,by omega,oK⟩
      case round =>
       clear oK;obtain⟨j,La,fv,BO,rfl,Zz,hJ⟩:=hrel;obtain⟨G2,Fi⟩:∃G2,G2=gk:=⟨_,rfl⟩;by_cases f7:j<L2.length
       .have kj:decide ((j:Int)<(L2.length:Int))=true:=(by simp;omega);obtain⟨g2,cap2,dx,ay⟩:=(uh hJ).2.1.cell f7;simp only[Value.slice.injEq,true_and]at dx;obtain⟨rfl,rfl⟩:=dx;obtain⟨hx,hxB,BK,Ow,Fo⟩:=(uh hJ).2.1.next f7;have sP:j<(iM f c k).length:=(by rw[<-uh EF,length_map];exact f7);have Z4:L2[j].f=(iM f c k)[j]:=by
         have:=congrArg (λl=>l[j]?) (uh EF);simp only[getElem?_map,getElem?_eq_getElem f7,getElem?_eq_getElem sP,Option.map_some,Option.some.injEq]at this;exact this
        have bD:=uh HMk L2[j].f (by rw[Z4];exact getElem_mem sP);have rA:=wO (λr g=>D8 r g (g.cl.getD (1+v) 0)) R sP;rw[<-Z4]at rA;obtain⟨x,BX⟩:∃x,x=L2[j]:=⟨_,rfl⟩;rw[<-BX]at ay hx hxB Ow Fo bD rA;obtain⟨i',m0⟩:=Option.isSome_iff_exists.1 bD.bg;have Fj:=(uh hJ).1;have Ur:∀y∈x.bs,w1.heap.size<=y:=λy hy=>zq3 hwB (hxB y hy);obtain⟨lva,lvc,FC,-,-⟩:=aj Fj.fl.row;subst FC;have DY:=ab (rO Fj.fl Fj.bo hx bD.ok bD.ln (λy hy=>⟨(Fj.ne y hy).1,λhn=>(uh hJ).2.2.1 y (Fo y hn) hy⟩) (λhn=>by have h1:=Ur _ hn;have h2:=Fj.ol;omega) Ur Fj.st.size m0 (by omega));have xc:=hx.is.cls (i:=1+v) (by omega);unfold gZ at xc;obtain⟨cx,xr⟩:∃cx,cx=x.f.cl.getD (1+v) 0:=⟨_,rfl⟩;rw[<-xr]at xc DY rA;have xK:=ab rA;have My:=ab BK;have Mx:=ab Ow;have HWG:=ab Ur;have Ai:x.p=.pointer (some ⟨x.A,0,none⟩):=rfl;rw[Ai]at ay;have i5:(0:Int)<=(j:Int):=(by omega);have i6:(j:Int)<(L2.length:Int):=(by omega);have HJ:=ab (uh hJ);clear hx hxB BK Ow Fo sP Z4 bD rA BX m0 Fj Ur xr Ai hJ;go_wp2_with fail
        refine(uh DY).mono ?_;rintro e w3 ⟨v3,L3,rfl,mZ,CU,CL,f8⟩;have Ou:=(uh HJ).1.after (uh HWG) mZ CL f8;have Kq:gi w3 B2 (.slice (some ⟨g2,0,none⟩) L2.length c2) L2 (j+1):=(uh My).stp f8 (λy hy hn=>by
         rcases mem_cons.1 hn with rfl|hn
         .have h1:=(uh My).geB _ hy;have h2:=(uh HJ).1.ol;omega
         .rcases mem_append.1 hn with hn|hn
          .exact(uh HJ).2.2.1 y (uh Mx y hy).1 hn
          .exact(uh Mx y hy).2 hn)
        have Kk:∀y∈mU (.slice (some ⟨g2,0,none⟩) L2.length c2) L2 (j+1),y ∉ bn v3 (La++L3):=λy hy hn=>by
         rcases f8.foot y (mem_cons_of_mem _ hn) with q|q
         .rcases mem_cons.1 q with rfl|q
          .have h1:=(uh My).geB _ hy;have h2:=(uh HJ).1.ol;omega
          .rcases mem_append.1 q with q|q
           .exact(uh HJ).2.2.1 y (uh Mx y hy).1 q
           .exact(uh Mx y hy).2 q
         .have:=(uh My).lt y hy;omega
        have O1:L3.length<=2:=by
         have:=tT x.f cx;rw[<-CU,length_map]at this;exact this
        have BI:(La++L3).map (·.f)=(((iM f c k).take (j+1)).foldl (λr g=>D8 r g (g.cl.getD (1+v) 0)) R).1:=by
         rw[uh xK,map_append,(uh HJ).2.2.2.1,CU];rfl
        have Ok:(fv||(jk x.f cx).2)=(fu||(((iM f c k).take (j+1)).foldl (λr g=>D8 r g (g.cl.getD (1+v) 0)) R).2):=by
         rw[uh xK,(uh HJ).2.2.2.2,Bool.or_assoc];rfl
        obtain⟨a3,c3,hv3,-,-⟩:=aj mZ.row;subst hv3;have HN:=ab (zq2 Ou (zq2 Kq (zq2 Kk (zq2 BI Ok))));have tX:(La++L3).length<=4*k+2*(j+1):=(by rw[length_append];omega);clear mZ CU CL f8 Ou Kq Kk BI Ok DY HJ My Mx HWG xK ay xc;go_wp2_with fail
        go_roundg (G2-1)
        case rel=>exact⟨j+1,La++L3,_,by omega,by go_num,tX,ab (by have h:=uh HN;rw[length_append]at h;exact h)⟩
        case measure=>omega
       .have kj:decide ((j:Int)<(L2.length:Int))=false:=(by simp;omega);have sP:(iM f c k).length<=j:=(by rw[<-uh EF,length_map];omega);have hN:=uh hJ;rw[take_of_length_le sP,<-uh db]at hN;have HN:=ab (zq2 hN.1 (zq2 hN.2.2.2.1 hN.2.2.2.2));have tX:La.length<=4*(k+1):=(by omega);obtain⟨lva,lvc,FC,-,-⟩:=aj hN.1.fl.row;subst FC;clear hN hJ sP;go_wp2_with fail
        go_roundg (G-1)
        case rel=>exact⟨k+1,La,fv,by omega,by go_num,tX,HN⟩
        case measure=>omega
     .have hd:decide ((k:Int)<(f.ow.length:Int))=false:=(by simp;omega);have kk:k=f.ow.length:=(by omega);have HE:Hid (dP f v=(R.1,!bj f c n,true,R.2)):=ab (by rw[uh ad8,hR,kk]);clear kk hR;go_wp2_with fail
      go_ret;refine⟨_,L,rfl,(uh hI).1.fl,by rw[uh HE];exact(uh hI).2.1,?_,(uh hI).1.st⟩;rw[uh HE];have h1:=(uh hI).1.bo;rw[uh HNB,(uh hI).2.2]at h1;simpa using h1
   .rw[xU]at O8;obtain⟨W10,vj⟩:∃W10,W10=w9:=⟨_,rfl⟩;have HW:Hid (Bk W10 O 280 [nv,tv,.bool nb,.bool true,.bool fu]/\ew W10 A f av ov/\au [O] w1 [O] W10):=ab ⟨by
     rw[vj,O8];simpa using uh HB9,by rw[vj];exact uh H9,by rw[vj];exact uh HS9⟩
    clear O8 xU HB9 H9 HS9;go_upto_region 11 with fail;rw[<-vj];clear vj;have Fk:Ol w1 (W10.alloc (.cells #[] 126)) O nv tv nb true fu A f av ov (.slice (some ⟨W10.heap.size,0,none⟩) 0 0) []:=by
     obtain⟨q1,q2,q3⟩:=uh HW;have cf:=ah W10 (.cells #[] 126);refine⟨⟨?_,λx hx=>by simp at hx,λx hx=>by simp at hx,by simp[bn,Value.ownBlock]⟩,q1.below cf,q2.below cf,?_,uh HOL,uh So,uh HLT⟩
     .have:=ownsRow_lit (base:=W10.heap.size) (e:=126) (size:=1) W10 #[] 0 (zq4 _) (by simp[maxLen]) rfl;exact ej this q3.size
     .refine(q3.trans (au.ofBw cf)).foots (λk hk=>?_);rcases mem_cons.1 hk with rfl|hk
      .exact zq0 (by simp)
      .right;have e:k=W10.heap.size:=(by simpa[bn,Value.ownBlock,eq_comm] using hk);rw[e];exact q3.size
    have cG:=ab Fk;have hc6:=Fk.ff.c6;clear Fk HW;go_wp2_with fail
    go_loopg [9,10] f.ow.length (λgn lv iv wx=>∃(k:Nat) (L:List FE) (fu':Bool),k+gn=f.ow.length/\iv=.int .i64 k/\L.length<=4*k/\Hid (Ol w1 wx O nv tv nb true fu' A f av ov lv L/\L.map (·.f)=((range k).foldl (λr i=>yX f v i r) ([],false)).1/\fu'=(fu||((range k).foldl (λr i=>yX f v i r) ([],false)).2)))
    case atStart=>exact⟨0,[],fu,by omega,rfl,by simp,ab ⟨uh cG,rfl,by simp⟩⟩
    case round =>
     clear cG hc6;obtain⟨k,L,fu',fJ,rfl,ZA,hI⟩:=hrel;obtain⟨G,hG⟩:∃G,G=gk:=⟨_,rfl⟩;obtain⟨R,hR⟩:∃R,R=(range k).foldl (λr i=>yX f v i r) (([]:List CF),false):=⟨_,rfl⟩;rw[<-hR]at hI;obtain⟨la,lc,ic,-,-⟩:=aj (uh hI).1.fl.row;subst ic;have c6:=(uh hI).1.ff.c6;obtain⟨oa,oc,gj,-,-⟩:=aj (uh hI).1.ff.ow;rw[gj]at c6;clear gj;by_cases ar:k<f.ow.length
     .have hd:decide ((k:Int)<(f.ow.length:Int))=true:=(by simp;omega);have aV:(range (k+1)).foldl (λr i=>yX f v i r) (([]:List CF),false)=(iM f c k).foldl (λr g=>D8 r g (g.cl.getD (1+v) 0)) R:=by
       rw[wj,<-hR,uh HC];rfl
      have db:=ab aV;have Bw:=ab (F8 (uh hI).1.ff (uh HO) ha zZ ar);have ZC:=qS f c k;have HMk:=ab (AF (N:=40000) hv (uh HO) ha (by rw[<-uh HC];exact uh HBN) ar);rw[<-uh HC]at HMk;have i4:(0:Int)<=(k:Int):=(by omega);clear aV hR;go_wp2_with fail
      refine(uh Bw).mono ?_;rintro e w2 ⟨v2,L2,rfl,CQ,rz,aU⟩;have Ot:=(uh hI).1.below aU;have Ov:=CQ.pend;have Zx:L2.length=(iM f c k).length:=(by rw[<-rz,length_map]);have Xf:∀x∈mU v2 L2 0,x ∉ bn (.slice la L.length lc) L:=λx hx hn=>by
       have h1:=Ov.geB x hx;have h2:=(uh hI).1.fl.lt x hn;omega
      have hwB:w1.heap.size<=wr.heap.size:=(uh hI).1.st.size;obtain⟨B2,Fh⟩:∃B2,B2=wr.heap.size:=⟨_,rfl⟩;rw[<-Fh]at Ov hwB;obtain⟨a2,c2,Em,-,-⟩:=aj Ov.row;subst Em;have oK:=ab (zq2 Ot (zq2 Ov (zq2 Xf (zq2 (uh hI).2.1 (uh hI).2.2))));have EF:=ab rz;have ae4:L2.length<=2:=(by omega);clear CQ rz aU Ot Ov Xf hI Bw Fh c6 Zx ZC;go_wp2_with fail
      go_loopg [9,66] L2.length (λgn lv iv wx=>∃(j:Nat) (La:List FE) (fv:Bool),j+gn=L2.length/\iv=.int .i64 j/\La.length<=4*k+2*j/\Hid (Ol w1 wx O nv tv nb true fv A f av ov lv La/\gi wx B2 (.slice a2 L2.length c2) L2 j/\(∀x∈mU (.slice a2 L2.length c2) L2 j,x ∉ bn lv La)/\La.map (·.f)=(((iM f c k).take j).foldl (λr g=>D8 r g (g.cl.getD (1+v) 0)) R).1/\fv=(fu||(((iM f c k).take j).foldl (λr g=>D8 r g (g.cl.getD (1+v) 0)) R).2)))
      case atStart=>exact⟨0,L,fu',by omega,rfl,by omega,oK⟩
      case round =>
       clear oK;obtain⟨j,La,fv,BO,rfl,Zz,hJ⟩:=hrel;obtain⟨G2,Fi⟩:∃G2,G2=gk:=⟨_,rfl⟩;by_cases f7:j<L2.length
       .have kj:decide ((j:Int)<(L2.length:Int))=true:=(by simp;omega);obtain⟨g2,cap2,dx,ay⟩:=(uh hJ).2.1.cell f7;simp only[Value.slice.injEq,true_and]at dx;obtain⟨rfl,rfl⟩:=dx;obtain⟨hx,hxB,BK,Ow,Fo⟩:=(uh hJ).2.1.next f7;have sP:j<(iM f c k).length:=(by rw[<-uh EF,length_map];exact f7);have Z4:L2[j].f=(iM f c k)[j]:=by
         have:=congrArg (λl=>l[j]?) (uh EF);simp only[getElem?_map,getElem?_eq_getElem f7,getElem?_eq_getElem sP,Option.map_some,Option.some.injEq]at this;exact this
        have bD:=uh HMk L2[j].f (by rw[Z4];exact getElem_mem sP);have rA:=wO (λr g=>D8 r g (g.cl.getD (1+v) 0)) R sP;rw[<-Z4]at rA;obtain⟨x,BX⟩:∃x,x=L2[j]:=⟨_,rfl⟩;rw[<-BX]at ay hx hxB Ow Fo bD rA;obtain⟨i',m0⟩:=Option.isSome_iff_exists.1 bD.bg;have Fj:=(uh hJ).1;have Ur:∀y∈x.bs,w1.heap.size<=y:=λy hy=>zq3 hwB (hxB y hy);obtain⟨lva,lvc,FC,-,-⟩:=aj Fj.fl.row;subst FC;have DY:=ab (rO Fj.fl Fj.bo hx bD.ok bD.ln (λy hy=>⟨(Fj.ne y hy).1,λhn=>(uh hJ).2.2.1 y (Fo y hn) hy⟩) (λhn=>by have h1:=Ur _ hn;have h2:=Fj.ol;omega) Ur Fj.st.size m0 (by omega));have xc:=hx.is.cls (i:=1+v) (by omega);unfold gZ at xc;obtain⟨cx,xr⟩:∃cx,cx=x.f.cl.getD (1+v) 0:=⟨_,rfl⟩;rw[<-xr]at xc DY rA;have xK:=ab rA;have My:=ab BK;have Mx:=ab Ow;have HWG:=ab Ur;have Ai:x.p=.pointer (some ⟨x.A,0,none⟩):=rfl;rw[Ai]at ay;have i5:(0:Int)<=(j:Int):=(by omega);have i6:(j:Int)<(L2.length:Int):=(by omega);have HJ:=ab (uh hJ);clear hx hxB BK Ow Fo sP Z4 bD rA BX m0 Fj Ur xr Ai hJ;go_wp2_with fail
        refine(uh DY).mono ?_;rintro e w3 ⟨v3,L3,rfl,mZ,CU,CL,f8⟩;have Ou:=(uh HJ).1.after (uh HWG) mZ CL f8;have Kq:gi w3 B2 (.slice (some ⟨g2,0,none⟩) L2.length c2) L2 (j+1):=(uh My).stp f8 (λy hy hn=>by
         rcases mem_cons.1 hn with rfl|hn
         .have h1:=(uh My).geB _ hy;have h2:=(uh HJ).1.ol;omega
         .rcases mem_append.1 hn with hn|hn
          .exact(uh HJ).2.2.1 y (uh Mx y hy).1 hn
          .exact(uh Mx y hy).2 hn)
        have Kk:∀y∈mU (.slice (some ⟨g2,0,none⟩) L2.length c2) L2 (j+1),y ∉ bn v3 (La++L3):=λy hy hn=>by
         rcases f8.foot y (mem_cons_of_mem _ hn) with q|q
         .rcases mem_cons.1 q with rfl|q
          .have h1:=(uh My).geB _ hy;have h2:=(uh HJ).1.ol;omega
          .rcases mem_append.1 q with q|q
           .exact(uh HJ).2.2.1 y (uh Mx y hy).1 q
           .exact(uh Mx y hy).2 q
         .have:=(uh My).lt y hy;omega
        have O1:L3.length<=2:=by
         have:=tT x.f cx;rw[<-CU,length_map]at this;exact this
        have BI:(La++L3).map (·.f)=(((iM f c k).take (j+1)).foldl (λr g=>D8 r g (g.cl.getD (1+v) 0)) R).1:=by
         rw[uh xK,map_append,(uh HJ).2.2.2.1,CU];rfl
        have Ok:(fv||(jk x.f cx).2)=(fu||(((iM f c k).take (j+1)).foldl (λr g=>D8 r g (g.cl.getD (1+v) 0)) R).2):=by
         rw[uh xK,(uh HJ).2.2.2.2,Bool.or_assoc];rfl
        obtain⟨a3,c3,hv3,-,-⟩:=aj mZ.row;subst hv3;have HN:=ab (zq2 Ou (zq2 Kq (zq2 Kk (zq2 BI Ok))));have tX:(La++L3).length<=4*k+2*(j+1):=(by rw[length_append];omega);clear mZ CU CL f8 Ou Kq Kk BI Ok DY HJ My Mx HWG xK ay xc;go_wp2_with fail
        go_roundg (G2-1)
        case rel=>exact⟨j+1,La++L3,_,by omega,by go_num,tX,ab (by have h:=uh HN;rw[length_append]at h;exact h)⟩
        case measure=>omega
       .have kj:decide ((j:Int)<(L2.length:Int))=false:=(by simp;omega);have sP:(iM f c k).length<=j:=(by rw[<-uh EF,length_map];omega);have hN:=uh hJ;rw[take_of_length_le sP,<-uh db]at hN;have HN:=ab (zq2 hN.1 (zq2 hN.2.2.2.1 hN.2.2.2.2));have tX:La.length<=4*(k+1):=(by omega);obtain⟨lva,lvc,FC,-,-⟩:=aj hN.1.fl.row;subst FC;clear hN hJ sP;go_wp2_with fail
        go_roundg (G-1)
        case rel=>exact⟨k+1,La,fv,by omega,by go_num,tX,HN⟩
        case measure=>omega
     .have hd:decide ((k:Int)<(f.ow.length:Int))=false:=(by simp;omega);have kk:k=f.ow.length:=(by omega);have HE:Hid (dP f v=(R.1,!bj f c n,true,R.2)):=ab (by rw[uh ad8,hR,kk]);clear kk hR;go_wp2_with fail
      go_ret;refine⟨_,L,rfl,(uh hI).1.fl,by rw[uh HE];exact(uh hI).2.1,?_,(uh hI).1.st⟩;rw[uh HE];have h1:=(uh hI).1.bo;rw[uh HNB,(uh hI).2.2]at h1;simpa using h1
end
structure Os(w W:World)(O A:Nat)(f:CF)(av ov:Value)(nu da fu:Bool)(nv tv:Value)(Ln Lt:List FE):Prop where
 oo:Oo W O nu da fu nv tv Ln Lt
 ff:ew W A f av ov
 st:au [O] w (ez O nv tv Ln Lt) W
 ol:O<w.heap.size
 of:O ∉ aH A av ov
 fw:∀k∈aH A av ov,k<w.heap.size
def pA(w:World)(O:Nat)(o:MD)(w':World):Prop:=∃nv tv Ln Lt,Oo w' O o.nu o.da o.fu nv tv Ln Lt/\Ln.map (·.f)=o.nx/\Lt.map (·.f)=o.ot/\au [O] w (ez O nv tv Ln Lt) w'
section
variable {w W W':World} {O A:Nat} {f:CF} {av ov nv tv:Value} {nu da fu:Bool} {Ln Lt:List FE}
theorem Os.start(h:Oo w O nu da fu nv tv Ln Lt)(hf:ew w A f av ov)(hn:ez O nv tv Ln Lt=[O])(hof:O ∉ aH A av ov):Os w w O A f av ov nu da fu nv tv Ln Lt:=⟨h,hf,(au.refl [O] w).foots (λk hk=>by rw[hn]at hk;exact zq0 hk),h.bk.lt,hof,hf.lt⟩
theorem Os.ge(h:Os w W O A f av ov nu da fu nv tv Ln Lt):∀k∈ez O nv tv Ln Lt,k=O\/w.heap.size<=k:=λk hk=>by
 rcases h.st.foot k hk with q|q
 .exact zq0 (by simpa using q)
 .exact zq1 q
theorem Os.below(h:Os w W O A f av ov nu da fu nv tv Ln Lt)(hb:Below W.heap.size W W'):Os w W' O A f av ov nu da fu nv tv Ln Lt :=
 ⟨h.oo.below hb,h.ff.below hb,⟨hb.os.trans h.st.os,hb.tape.trans h.st.tape,hb.output.trans h.st.output,zq3 h.st.size hb.size,λk hk hn=>(hb.block k (zq6 hk h.st.size)).trans (h.st.block k hk hn),h.st.foot⟩,h.ol,h.of,h.fw⟩
theorem Os.fresh(h:Os w W O A f av ov nu da fu nv tv Ln Lt){x:FE}(hx:∀k∈x.bs,W.heap.size<=k):∀k∈x.bs,k ∉ ez O nv tv Ln Lt:=λk hk hn=>by have:=hx k hk;have:=h.oo.lt k hn;omega
theorem Os.next{B:List Nat}{nv' tv':Value}{Ln' Lt':List FE}{nu' da' fu':Bool}(h:Os w W O A f av ov nu da fu nv tv Ln Lt)(hB:∀k∈B,w.heap.size<=k)(h1:Oo W' O nu' da' fu' nv' tv' Ln' Lt')(hs:au (ez O nv tv Ln Lt++B) W (ez O nv' tv' Ln' Lt') W'):Os w W' O A f av ov nu' da' fu' nv' tv' Ln' Lt':=by
 have key:∀k,k<w.heap.size->k≠O->k ∉ ez O nv tv Ln Lt++B:=λk hk aL hn=>by
  rcases mem_append.1 hn with hn|hn
  .rcases h.ge k hn with q|q
   .exact aL q
   .omega
  .have:=hB k hn;omega
 refine⟨h1,h.ff.of_eq (λk hk=>hs.block k (h.ff.lt k hk) (key k (h.fw k hk) (λe=>h.of (by rw[<-e];exact hk)))),⟨hs.os.trans h.st.os,hs.tape.trans h.st.tape,hs.output.trans h.st.output,zq3 h.st.size hs.size,λk hk hn=>?_,λk hk=>?_⟩,h.ol,h.of,h.fw⟩
 .exact(hs.block k (zq6 hk h.st.size) (key k hk (by simpa using hn))).trans (h.st.block k hk hn)
 .rcases hs.foot k hk with q|q
  .rcases mem_append.1 q with q|q
   .exact h.st.foot k q
   .exact zq1 (hB k q)
  .exact zq1 (zq3 h.st.size q)
theorem Os.out{o:MD}(h:Os w W O A f av ov o.nu o.da o.fu nv tv Ln Lt)(h1:Ln.map (·.f)=o.nx)(h2:Lt.map (·.f)=o.ot):pA w O o W:=⟨nv,tv,Ln,Lt,h.oo,h1,h2,h.st⟩
theorem EQ{v c:Nat}(h:Os w w O A f av ov false false false (.slice none 0 0) (.slice none 0 0) [] [])(hO:aq f)(ha:f.ap.length<=40000)(hv:v<4)(hc:c<24):
  Calls prog 235 #[.pointer (some ⟨O,0,none⟩),.pointer (some ⟨A,0,none⟩),.int .i64 v,.int .i64 c] w λe w'=>e=.returned (.tuple #[])/\pA w O ⟨[aZ (setC f (1+v) c)],[],false,false,false⟩ w':=by
 have iE:=hO.owLen;have kM:=ab (cK h.ff hO.c5 ha (zq3 iE (by omega)));have H:=ab h;have HO:=ab hO;have i1:(0:Int)<=1+(v:Int):=by omega
 have i2:1+(v:Int)<5:=by omega
 have i3:(1+(v:Int)).toNat=1+v:=by omega
 clear h hO;go_enter func235,ntmps235;go_wp2_with fail
 refine(uh kM).mono ?_;rintro e w1 ⟨A1,rfl,sK⟩;obtain⟨av1,ov1,T5⟩:=sK.frf;have x1:=T5.fm.is.cls (i:=1+v) (by omega);have z1:=ownsRow.frozenAt T5.fm.is.ob (1+v);have qb:=T5.fm.setCl (1+v) c (by omega);obtain⟨w2,rB⟩:∃w2,w2=w1.setCell ⟨A1,1+v,none⟩ (.int .i64 (c:Int)):=⟨_,rfl⟩;rw[<-rB]at qb;have gQ:au (aH A1 av1 ov1) w1 (aH A1 av1 ov1) w2:=by rw[rB];exact(au.refl _ _).setCell (p:=⟨A1,1+v,none⟩) (zq0 (by simp[aH])) _
 have mE:=T5.step (x':=⟨A1,setC f (1+v) c,av1,ov1⟩) qb gQ;have ZE:=(uh H).below mE.bw;have rC:=ab (iA ZE.oo mE.fm ((uh HO).sC (1+v) hc) (zq3 ha (by omega)) ((uh H).fresh mE.ge) (by simp));have HO2:=ab ZE;have DZ:=ab mE.ge;clear sK T5 qb gQ mE ZE kM;go_upto_region 2 with fail;rw[<-rB];clear rB x1 z1;go_wp2_with fail
 refine(uh rC).mono ?_;rintro e w3 ⟨rfl,nv3,x3,-,hx3,agv,f8⟩;have HN:=ab ((uh HO2).next (uh DZ) agv f8);have HX:=ab hx3;clear agv f8 hx3 rC;go_wp2_with fail
 go_end0
 exact⟨rfl,(uh HN).out (o:=⟨[aZ (setC f (1+v) c)],[],false,false,false⟩) (by simp[uh HX]) rfl⟩
theorem EZ{v:Nat}(h:Os w w O A f av ov false false false (.slice none 0 0) (.slice none 0 0) [] [])(hO:aq f)(ha:f.ap.length<=40000)(hv:v<4):
  Calls prog 239 #[.pointer (some ⟨O,0,none⟩),.pointer (some ⟨A,0,none⟩),.int .i64 v] w λe w'=>e=.returned (.tuple #[])/\pA w O (if 24<=aw f then ⟨[],[],false,false,true⟩ else ⟨[aZ (zK f v)],[],false,false,false⟩) w':=by
 have iE:=hO.owLen;have BS:aw f<=100000:=by
  unfold aw;have h1:=Dl hO;omega
 have RC:=ab (ve h.ff (zq3 ha (by omega)) (zq3 iE (by omega)) BS);obtain⟨N,hN⟩:∃N,N=aw f:=⟨_,rfl⟩;have xe:=ab hN;rw[<-hN]at RC BS ⊢;obtain⟨oR,hoR⟩:∃oR:MD,oR=if 24<=N then ⟨[],[],false,false,true⟩ else ⟨[aZ (zK f v)],[],false,false,false⟩:=⟨_,rfl⟩
 rw[<-hoR];have Mv:=ab hoR;clear hoR;have H:=ab h;have HO:=ab hO;have i1:(0:Int)<=1+(v:Int):=by omega
 have i2:1+(v:Int)<5:=by omega
 have i3:(1+(v:Int)).toNat=1+v:=by omega
 clear h hO hN;go_enter func239,ntmps239;go_wp2_with fail
 refine(uh RC).mono ?_;rintro e w1 ⟨rfl,bH⟩;have tW:=(uh H).below bH;have Sm:=ab tW;clear bH RC;by_cases qz:24<=N
 .have d5:decide ((24:Int)<=(N:Int))=true:=by simp;omega
  have o4:=tW.oo.bk.cell 4 rfl;have z4:=tW.oo.bk.frz 4;have HN:=ab (tW.next (B:=[]) (λk hk=>by simp at hk) (tW.oo.flag (nu':=false) (da':=false) (fu':=true) 4 (by omega) rfl) (((au.refl (ez O (.slice none 0 0) (.slice none 0 0) [] []) w1).setCell (p:=⟨O,4,none⟩) (zq0 (by simp[ez])) (.bool true)).wide (by simp) |>.foots (λk hk=>zq0 (by simpa using hk))));have RD:Hid (oR=⟨[],[],false,false,true⟩):=ab (by rw[uh Mv,if_pos qz]);clear tW qz;go_wp2_with fail
  refine bodyPost_ret (v:=.tuple #[]) (by simp[results,Tryz.results239]) rfl ?_;exact⟨rfl,by rw[uh RD];exact(uh HN).out (o:=⟨[],[],false,false,true⟩) rfl rfl⟩
 .have d5:decide ((24:Int)<=(N:Int))=false:=by simp;omega
  have RD:Hid (oR=⟨[aZ (zK f v)],[],false,false,false⟩):=ab (by rw[uh Mv,if_neg qz]);have kM:=ab (cK tW.ff (uh HO).c5 ha (zq3 iE (by omega)));have akz:N<24:=by omega
  clear qz tW;go_wp2_with fail
  refine(uh kM).mono ?_;rintro e w2 ⟨A2,rfl,If⟩;obtain⟨av2,ov2,mE⟩:=If.frf;have x0:=mE.fm.is.cls (i:=0) (by omega);unfold gZ at x0;obtain⟨n0,oS⟩:∃n0,n0=f.cl.getD 0 0:=⟨_,rfl⟩;rw[show(({ A:=A2,f:=f,av:=av2,ov:=ov2 }:FE).f.cl.getD 0 0:Nat)=n0 from oS.symm]at x0;have yi:=ab (qN mE.fm 3 N n0 (zq3 iE (by omega)));have xI:=ab mE;have HN0:=ab oS;clear If mE kM oS;go_wp2_with fail
  refine(uh yi).mono ?_;rintro e w3 ⟨rfl,ov3,Ed,cB⟩;have mY:=(uh xI).step (x':=⟨A2,ll f ⟨3,N,n0⟩,av2,ov3⟩) Ed cB;have x1:=mY.fm.is.cls (i:=1+v) (by omega);have z1:=ownsRow.frozenAt mY.fm.is.ob (1+v);have rU:=mY.fm.setCl (1+v) N (by omega);obtain⟨w4,hw4⟩:∃w4,w4=w3.setCell ⟨A2,1+v,none⟩ (.int .i64 (N:Int)):=⟨_,rfl⟩;rw[<-hw4]at rU;have vD:au (aH A2 av2 ov3) w3 (aH A2 av2 ov3) w4:=by rw[hw4];exact(au.refl _ _).setCell (p:=⟨A2,1+v,none⟩) (zq0 (by simp[aH])) _
  have hcr:setC (ll f ⟨3,N,n0⟩) (1+v) N=zK f v:=by unfold zK;rw[<-uh xe,<-uh HN0]
  have Ab:=mY.step (x':=⟨A2,zK f v,av2,ov3⟩) (by rw[<-hcr];exact rU) vD;have Ko:=(uh Sm).below Ab.bw;have rC:=ab (iA Ko.oo Ab.fm (mN (uh HO) (by rw[<-uh xe];exact akz)) (zq3 ha (by omega)) ((uh Sm).fresh Ab.ge) (by simp));have HO4:=ab Ko;have DZ:=ab (λk hk=>zq3 (uh Sm).st.size (Ab.ge k hk));clear mY Ed cB rU vD Ab Ko yi hcr;go_upto_region 6 with fail;rw[<-hw4];clear hw4 x1 z1 x0;go_wp2_with fail
  refine(uh rC).mono ?_;rintro e w5 ⟨rfl,nv5,x5,-,hx5,agw,qC⟩;have HN:=ab ((uh HO4).next (uh DZ) agw qC);have HX:=ab hx5;clear agw qC hx5 rC;go_wp2_with fail
  go_end0
  exact⟨rfl,by rw[uh RD];exact(uh HN).out (o:=⟨[aZ (zK f v)],[],false,false,false⟩) (by simp[uh HX]) rfl⟩
end
def RX(n:Nd):Value:=.agg #[.int .i64 (n.op:Int),.int .i64 (n.v:Int),.int .i64 (n.ak:Int),.int .i64 (n.ai:Int),.int .i64 (n.nx:Int),.int .i64 (n.ot:Int)]
theorem gz(w:World)(n:Nat):Below w.heap.size w (w.drewN n):=⟨rfl,rfl,rfl,zq4 _,λ_ _=>rfl⟩
section
variable {w W W':World} {O A:Nat} {f:CF} {av ov nv tv:Value} {nu da fu:Bool} {Ln Lt:List FE}
theorem sH{n:Nd}(h:Os w w O A f av ov false false false (.slice none 0 0) (.slice none 0 0) [] [])(hO:aq f)(ha:f.ap.length<=40000)(hv:n.v<4)(hi:n.ai<4):
  Calls prog 244 #[.pointer (some ⟨O,0,none⟩),.pointer (some ⟨A,0,none⟩),RX n] w λe w'=>e=.returned (.tuple #[])/\pA w O ⟨(jW f n).1,(jW f n).2,false,false,false⟩ w':=by
 have iE:=hO.owLen;have mC:jW f n=(if bj f (f.cl.getD (1+n.v) 0) (clT f n.ak n.ai)=true then [] else [aZ (qe f (f.cl.getD (1+n.v) 0) (clT f n.ak n.ai))],if f.cl.getD (1+n.v) 0=clT f n.ak n.ai then [] else [aZ (b7 f (f.cl.getD (1+n.v) 0) (clT f n.ak n.ai))]):=rfl;obtain⟨op,v,ak,ai,nx,ot⟩:=n;simp only at hv hi mC;unfold RX;simp only;obtain⟨W1,dV⟩:∃W1,W1=w.alloc (.cells #[Value.int .i64 (op:Int),.int .i64 (v:Int),.int .i64 (ak:Int),.int .i64 (ai:Int),.int .i64 (nx:Int),.int .i64 (ot:Int)] 186):=⟨_,rfl⟩;have cf:Below w.heap.size w W1:=by rw[dV];exact ah w _
 have hX:Bk W1 w.heap.size 186 [Value.int .i64 (op:Int),.int .i64 (v:Int),.int .i64 (ak:Int),.int .i64 (ai:Int),.int .i64 (nx:Int),.int .i64 (ot:Int)]:=by rw[dV];exact Bk.new w _ _
 obtain⟨X,gV⟩:∃X,X=w.heap.size:=⟨_,rfl⟩;rw[<-gV]at hX;have tW:=h.below cf;have b1:=hX.cell 1 rfl;have b2:=hX.cell 2 rfl;have b3:=hX.cell 3 rfl;have x1:=tW.ff.cls (i:=1+v) (by omega);unfold gZ at x1;obtain⟨a,haE⟩:∃a,a=f.cl.getD (1+v) 0:=⟨_,rfl⟩;obtain⟨b,hbE⟩:∃b,b=clT f ak ai:=⟨_,rfl⟩;rw[<-haE]at x1;rw[<-haE,<-hbE]at mC;have ZO:a<24:=by rw[haE];exact hO.get _
 have afw:b<24:=by rw[hbE];exact hO.cT _ _
 have i1:(0:Int)<=1+(v:Int):=by omega
 have i2:1+(v:Int)<5:=by omega
 have i3:(1+(v:Int)).toNat=1+v:=by omega
 obtain⟨oR,hoR⟩:∃oR:MD,oR=⟨(jW f ⟨op,v,ak,ai,nx,ot⟩).1,(jW f ⟨op,v,ak,ai,nx,ot⟩).2,false,false,false⟩:=⟨_,rfl⟩;rw[<-hoR];rw[mC]at hoR;have Mv:=ab hoR;have HO:=ab hO;have H1:=ab tW;have JH:=ab hbE;clear h hO tW hoR mC cf hX haE hbE;go_enter func244,ntmps244;go_upto_region 1 with fail;rw[<-dV,<-gV];clear dV gV;go_quiet (fail)
 obtain⟨W2,jt⟩:∃W2,W2=W1.drewN nq:=⟨_,rfl⟩;rw[<-jt];have aU:Below W1.heap.size W1 W2:=by rw[jt];exact gz W1 nq
 have d2:W2.cell? ⟨X,2,none⟩=some (.int .i64 (ak:Int)):=by rw[jt];exact b2
 have d3:W2.cell? ⟨X,3,none⟩=some (.int .i64 (ai:Int)):=by rw[jt];exact b3
 have ZE:=(uh H1).below aU;have wZ:=ab (rJ ZE.ff ak ai hi);rw[<-uh JH]at wZ;have H2:=ab ZE;clear jt aU ZE b1 b2 b3 x1 H1;go_wp2_with fail
 refine(uh wZ).mono ?_;rintro e W3 ⟨rfl,du⟩;have On:=(uh H2).below du;have V7:=ab (lX a b On.ff);have H3:=ab On;clear du On H2 wZ d2 d3;go_wp2_with fail
 refine(uh V7).mono ?_;rintro e W4 ⟨rfl,nR⟩;have Ko:=(uh H3).below nR;have H4:=ab Ko;clear nR H3 V7;cases xU:bj f a b
 .
  rw[xU]at Mv;have kM:=ab (cK Ko.ff (uh HO).c5 ha (zq3 iE (by omega)));have DX:=ab (eR xU);clear Ko xU;go_wp2_with fail
  refine(uh kM).mono ?_;rintro e W5 ⟨A5,rfl,hN5⟩;obtain⟨av5,ov5,CP⟩:=hN5.frf;have HJO:=ab (yE CP.fm (zq3 ha (by omega)) (zq3 iE (by omega)) a b);have V9:=ab CP;clear hN5 CP kM;go_wp2_with fail
  refine(uh HJO).mono ?_;rintro e W6 ⟨rfl,TK,Kr⟩;have Ma:=(uh V9).step (x':=⟨A5,qe f a b,av5,ov5⟩) TK Kr;have hO6:=(uh H4).below Ma.bw;have rC:=ab (iA hO6.oo Ma.fm ((uh HO).jo ZO (uh DX)) (by
   show(f.ap.map _).length<=100000;rw[length_map];omega) ((uh H4).fresh Ma.ge) (by simp))
  have H6:=ab hO6;have DZ:=ab (λk hk=>zq3 (uh H4).st.size (Ma.ge k hk));clear TK Kr Ma hO6 HJO;go_wp2_with fail
  refine(uh rC).mono ?_;rintro e W7 ⟨rfl,nv7,x7,-,hx7,agy,yP⟩;have hO7:=(uh H6).next (uh DZ) agy yP;have H7:=ab hO7;have HX7:=ab hx7;clear agy yP hx7 rC;by_cases qw:a=b
  .have d1:((a:Int) != (b:Int))=false:=(by simp[qw]);have RD:Hid (oR=⟨[aZ (qe f a b)],[],false,false,false⟩):=ab (by rw[uh Mv,if_neg (by decide),if_pos qw]);clear qw hO7;go_wp2_with fail
   go_end0
   exact⟨rfl,by rw[uh RD];exact(uh H7).out (o:=⟨[aZ (qe f a b)],[],false,false,false⟩) (by simp[uh HX7]) rfl⟩
  .have d1:((a:Int) != (b:Int))=true:=(by rw[bne_iff_ne];omega);have RD:Hid (oR=⟨[aZ (qe f a b)],[aZ (b7 f a b)],false,false,false⟩):=ab (by rw[uh Mv,if_neg (by decide),if_neg qw]);have kM:=ab (cK hO7.ff (uh HO).c5 ha (zq3 iE (by omega)));clear qw hO7;go_wp2_with fail
   refine(uh kM).mono ?_;rintro e W8 ⟨A8,rfl,hN8⟩;obtain⟨av8,ov8,xt⟩:=hN8.frf;have Wh:=ab (qX xt.fm a b (zq3 ha (by omega)));have Sj:=ab xt;clear hN8 xt kM;go_wp2_with fail
   refine(uh Wh).mono ?_;rintro e W9 ⟨rfl,av9,Oh,Oz⟩;have xV:=(uh Sj).step (x':=⟨A8,b7 f a b,av9,ov8⟩) Oh Oz;have ZF:=(uh H7).below xV.bw;have Wr:=ab (wT ZF.oo xV.fm ((uh HO).pa ZO afw) (by
    show(f.ap++[_]).length<=100000;rw[length_append,length_singleton];omega) ((uh H7).fresh xV.ge) (by simp))
   have H9:=ab ZF;have Yd:=ab (λk hk=>zq3 (uh H7).st.size (xV.ge k hk));clear Oh Oz xV ZF Wh;go_wp2_with fail
   refine(uh Wr).mono ?_;rintro e Wa ⟨rfl,tva,xa,-,hxa,Pg,FM⟩;have HN:=ab ((uh H9).next (uh Yd) Pg FM);have HXA:=ab hxa;clear Pg FM hxa Wr;go_wp2_with fail
   go_end0
   exact⟨rfl,by rw[uh RD];exact(uh HN).out (o:=⟨[aZ (qe f a b)],[aZ (b7 f a b)],false,false,false⟩) (by simp[uh HX7]) (by simp[uh HXA])⟩
 .rw[xU]at Mv;have qw:a≠b:=λe=>by rw[e]at xU;unfold bj at xU;simp at xU
  have d1:((a:Int) != (b:Int))=true:=by rw[bne_iff_ne];omega
  have RD:Hid (oR=⟨[],[aZ (b7 f a b)],false,false,false⟩):=ab (by rw[uh Mv,if_pos rfl,if_neg qw]);have kM:=ab (cK Ko.ff (uh HO).c5 ha (zq3 iE (by omega)));clear qw Ko xU;go_wp2_with fail
  refine(uh kM).mono ?_;rintro e W8 ⟨A8,rfl,hN8⟩;obtain⟨av8,ov8,xt⟩:=hN8.frf;have Wh:=ab (qX xt.fm a b (zq3 ha (by omega)));have Sj:=ab xt;clear hN8 xt kM;go_wp2_with fail
  refine(uh Wh).mono ?_;rintro e W9 ⟨rfl,av9,Oh,Oz⟩;have xV:=(uh Sj).step (x':=⟨A8,b7 f a b,av9,ov8⟩) Oh Oz;have ZF:=(uh H4).below xV.bw;have Wr:=ab (wT ZF.oo xV.fm ((uh HO).pa ZO afw) (by
   show(f.ap++[_]).length<=100000;rw[length_append,length_singleton];omega) ((uh H4).fresh xV.ge) (by simp))
  have H9:=ab ZF;have Yd:=ab (λk hk=>zq3 (uh H4).st.size (xV.ge k hk));clear Oh Oz xV ZF Wh;go_wp2_with fail
  refine(uh Wr).mono ?_;rintro e Wa ⟨rfl,tva,xa,-,hxa,Pg,FM⟩;have HN:=ab ((uh H9).next (uh Yd) Pg FM);have HXA:=ab hxa;clear Pg FM hxa Wr;go_wp2_with fail
  go_end0
  exact⟨rfl,by rw[uh RD];exact(uh HN).out (o:=⟨[],[aZ (b7 f a b)],false,false,false⟩) rfl (by simp[uh HXA])⟩
end
def di:Value:=.slice none 0 0
structure Lo(w W:World)(O A:Nat)(f:CF)(av ov:Value)(nu da fu:Bool)(nv:Value)(Ln:List FE)(B:Nat)(lv:Value)(L:List FE)(j:Nat):Prop where
 os:Os w W O A f av ov nu da fu nv di Ln []
 pe:gi W B lv L j
 dj:∀k∈mU lv L j,k ∉ ez O nv di Ln []
 wB:w.heap.size<=B
section
variable {w W W':World} {O A:Nat} {f:CF} {av ov nv lv:Value} {nu da fu:Bool} {Ln L:List FE} {B j:Nat}
theorem Lo.mid{x':FE}(h:Lo w W O A f av ov nu da fu nv Ln B lv L j)(hj:j<L.length)(hs:au L[j].bs W x'.bs W'):
  Os w W' O A f av ov nu da fu nv di Ln []/\(∀k∈x'.bs,k ∉ ez O nv di Ln [])/\(∀k∈x'.bs,w.heap.size<=k)/\gi W' B lv L (j+1)/\(∀k∈mU lv L (j+1),k ∉ ez O nv di Ln []/\k ∉ x'.bs):=by
 obtain⟨h1,h2,h3,h4,h5⟩:=h.pe.next hj;have FD:∀k∈L[j].bs,k ∉ ez O nv di Ln []:=λk hk=>h.dj k (h5 k hk);have tB:Oo W' O nu da fu nv di Ln []:=h.os.oo.stp hs (λk hk hn=>FD k hn hk);refine⟨h.os.next (B:=L[j].bs) (λk hk=>zq3 h.wB (h2 k hk)) tB ((hs.wide (λk hk=>mem_append_right _ hk)).foots (λk hk=>zq0 (mem_append_left _ hk))),λk hk hn=>?_,λk hk=>?_,h3.stp hs (λk hk hn=>(h4 k hk).2 hn),λk hk=>⟨h.dj k (h4 k hk).1,λhn=>?_⟩⟩
 .rcases hs.foot k hk with q|q
  .exact FD k q hn
  .have:=h.os.oo.lt k hn;omega
 .rcases hs.foot k hk with q|q
  .exact zq3 h.wB (h2 k q)
  .exact zq3 h.os.st.size q
 .rcases hs.foot k hn with q|q
  .exact(h4 k hk).2 q
  .have:=h3.lt k hk;omega
theorem Lo.fin {x' y:FE} {nv':Value} {W'':World} (hO:Os w W' O A f av ov nu da fu nv di Ln []) (cN:∀k∈x'.bs,w.heap.size<=k) (hP:gi W' B lv L (j+1)) (hd:∀k∈mU lv L (j+1),k ∉ ez O nv di Ln []/\k ∉ x'.bs) (hw:w.heap.size<=B)
  (tB:Oo W'' O nu da fu nv' di (Ln++[y]) []) (hs:au (ez O nv di Ln []++x'.bs) W' (ez O nv' di (Ln++[y]) []) W''):Lo w W'' O A f av ov nu da fu nv' (Ln++[y]) B lv L (j+1):=by
 have hn:∀k∈mU lv L (j+1),k ∉ ez O nv di Ln []++x'.bs:=λk hk hm=>by
  rcases mem_append.1 hm with q|q
  .exact(hd k hk).1 q
  .exact(hd k hk).2 q
 refine⟨hO.next cN tB hs,hP.stp hs hn,λk hk hm=>?_,hw⟩;rcases hs.foot k hm with q|q
 .exact hn k hk q
 .have:=hP.lt k hk;omega
theorem Lo.start{w2:World}{nu' da' fu':Bool}(h:Os w W O A f av ov nu da fu di di [] [])(kT:Fl w2 W.heap.size lv L)(Ei:Bk w2 O 280 [di,di,.bool nu',.bool da',.bool fu'])(hs:au [O] W (O::bn lv L) w2):Lo w w2 O A f av ov nu' da' fu' di [] W.heap.size lv L 0:=by
 have hfp:ez O di di [] []=[O]:=rfl;have tz:Fl w2 0 di []:=Fl.nil0 w2 0;refine⟨⟨⟨Ei,tz,tz,by simp[bn,di,Value.ownBlock]⟩,h.ff.of_eq (λk hk=>hs.block k (h.ff.lt k hk) (λhn=>h.of (by rw[mem_singleton]at hn;rw[<-hn];exact hk))),?_,h.ol,h.of,h.fw⟩,kT.pend,λk hk hn=>?_,h.st.size⟩
 .rw[hfp];have h0:=h.st;rw[hfp]at h0;exact(h0.trans (hs.foots (F'':=[O]) (λk hk=>zq0 hk)))
 .rw[hfp,mem_singleton]at hn;have h1:=kT.pend.geB k hk;have h2:=h.ol;have h3:=h.st.size;omega
end
