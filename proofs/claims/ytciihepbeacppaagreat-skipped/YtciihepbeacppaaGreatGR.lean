import Derived.Test.YtciihepbeacppaaGreatM18
import Derived.BigRegion
set_option maxRecDepth 100000
set_option maxHeartbeats 0
namespace Go.Proofs.YtciihepbeacppaaGreat
open Tryz Go.RowKit List World Below
set_option linter.unusedVariables false
theorem CK{Y w':World}{o:Obj}(hb:Below (Y.alloc o).heap.size (Y.alloc o) w'):w'.heap[Y.heap.size]?=some o:=(hb.block _ (by simp)).trans (heap_alloc_new Y o)
theorem pM(w:World)(o:Obj):Below w.heap.size w (w.alloc o):=(Below.refl _ _).alloc (zq4 _) o
theorem Ae{w:World}{b:Nat}{x y z:Value}{T:TypeId}(h:w.heap[b]?=some (.cells #[x,y,z] T (0,0))):w.cell? ⟨b,0,none⟩=some x/\w.cell? ⟨b,1,none⟩=some y/\w.cell? ⟨b,2,none⟩=some z/\∀j,w.frozen? ⟨b,j,none⟩=false:=by
 have hc:=λj=>cell_of_row w b j #[x,y,z] T (0,0) h;exact⟨hc 0,hc 1,hc 2,λj=>frozen_of_row w b j _ T h⟩
theorem ahu{w:World}{b:Nat}{x y z p q r:Value}{T:TypeId}(h:w.heap[b]?=some (.cells #[x,y,z] T (0,0))):(((w.setCell ⟨b,0,none⟩ p).setCell ⟨b,1,none⟩ q).setCell ⟨b,2,none⟩ r).heap[b]?=some (.cells #[p,q,r] T (0,0)):=by
 have h1:=heap_setCell_same w b 0 #[x,y,z] T p h;have h2:=heap_setCell_same _ b 1 _ T q h1;have h3:=heap_setCell_same _ b 2 _ T r h2;exact h3
structure Om(w0 w:World)(A C:Nat)(cs:List Nat)(fc:List Nat)(ap ow:List Pr)(av ov:Value):Prop where
 cl:Ob w 236 13 C (om cs)
 fo:Ob w 179 7 A (om fc++[av,ov])
 f5:fc.length=5
 ap:w.ownsRow w0.heap.size 182 3 av ap.length (af ap)
 ow:w.ownsRow w0.heap.size 182 3 ov ow.length (af ow)
 bl:Below w0.heap.size w0 w
 nd:(C::A::(av.ownBlock.toList++ov.ownBlock.toList)).Nodup
 lo:w0.heap.size<=C/\w0.heap.size<=A
theorem Om.below{w0 w w':World}{A C:Nat}{cs fc:List Nat}{ap ow:List Pr}{av ov:Value}(h:Om w0 w A C cs fc ap ow av ov)(hb:Below w.heap.size w w'):Om w0 w' A C cs fc ap ow av ov :=
 ⟨h.cl.of_eq (hb.block _ (ownsRow.lt h.cl _ rfl).2),h.fo.of_eq (hb.block _ (ownsRow.lt h.fo _ rfl).2),h.f5,aht h.ap hb,aht h.ow hb,h.bl.trans (hb.mono h.bl.size),h.nd,h.lo⟩
theorem Om.drewN{w0 w:World}{A C:Nat}{cs fc:List Nat}{ap ow:List Pr}{av ov:Value}(h:Om w0 w A C cs fc ap ow av ov)(n:Nat):Om w0 (w.drewN n) A C cs fc ap ow av ov:=h.below ⟨rfl,rfl,rfl,zq4 _,λ_ _=>rfl⟩
theorem Om.alloc{w0 w:World}{A C:Nat}{cs fc:List Nat}{ap ow:List Pr}{av ov:Value}(h:Om w0 w A C cs fc ap ow av ov)(o:Obj):Om w0 (w.alloc o) A C cs fc ap ow av ov:=h.below ((Below.refl _ _).alloc (zq4 _) o)
theorem Om.setF{w0 w:World}{A C:Nat}{cs fc:List Nat}{ap ow:List Pr}{av ov:Value}(h:Om w0 w A C cs fc ap ow av ov){i:Nat}(hi:i<5)(n:Nat):Om w0 (w.setCell ⟨A,i,none⟩ (.int .i64 (n:Int))) A C cs (fc.set i n) ap ow av ov:=by
 have hn:=h.nd;simp only[nodup_cons,mem_cons,mem_append,Option.mem_toList,not_or]at hn;have iI:∀k,k≠A->(w.setCell ⟨A,i,none⟩ (.int .i64 (n:Int))).heap[k]?=w.heap[k]?:=λk hk=>heap_setCell _ _ _ _ hk;refine⟨h.cl.of_eq (iI _ hn.1.1),?_,by simpa using h.f5,ae h.ap (λk hk=>iI k (by rintro rfl;exact hn.2.1.1 hk)),ae h.ow (λk hk=>iI k (by rintro rfl;exact hn.2.1.2 hk)),h.bl.setCell h.lo.2 _,h.nd,h.lo⟩;have:=h.fo.set i (.int .i64 (n:Int));rw[set_append_left _ _ (by rw[cG,h.f5];exact hi),Bu]at this;exact this
theorem Om.nds{w0 w:World}{A C:Nat}{cs fc:List Nat}{ap ow:List Pr}{av ov:Value}(h:Om w0 w A C cs fc ap ow av ov):C≠A/\av.ownBlock≠some C/\ov.ownBlock≠some C/\av.ownBlock≠some A/\ov.ownBlock≠some A/\∀k,av.ownBlock=some k->ov.ownBlock≠some k:=by
 have hn:=h.nd;simp only[nodup_cons,mem_cons,mem_append,Option.mem_toList,not_or,nodup_append]at hn;obtain⟨⟨h1,h2,h3⟩,⟨h4,h5⟩,-,-,h6⟩:=hn;exact⟨h1,h2,h3,h4,h5,λk hk mK=>h6 k hk k mK rfl⟩
theorem wP(p:Pr):∀u∈VJ p,u.oneCell'=true:=by
 have h:=nE [p];simpa[af] using h
theorem XV{A C:Nat}{av ov:Value}(h1:C≠A)(h2:av.ownBlock≠some C)(h3:ov.ownBlock≠some C)(h4:av.ownBlock≠some A)(h5:ov.ownBlock≠some A)(h6:∀k,av.ownBlock=some k->ov.ownBlock≠some k):(C::A::(av.ownBlock.toList++ov.ownBlock.toList)).Nodup:=by
 simp only[nodup_cons,mem_cons,mem_append,Option.mem_toList,not_or,nodup_append];refine⟨⟨h1,h2,h3⟩,⟨h4,h5⟩,?_,?_,?_⟩
 .cases av.ownBlock <;> simp
 .cases ov.ownBlock <;> simp
 .rintro k hk j hj rfl;exact h6 k hk hj
theorem Om.pushA {w0 W w2:World} {A C g cap k:Nat} {o:Obj} {cs fc:List Nat} {ap ow:List Pr} {av ov:Value} (p:Pr) (h0:Om w0 W A C cs fc ap ow av ov) (hg:((W.drewN k).alloc o).grownBy w2 av.ownBlock)
  (aL:w2.ownsRow w0.heap.size 182 3 (.slice (some ⟨g,0,none⟩) (ap.length+1) cap) (ap.length+1) (af ap++VJ p)) (cB:some g=av.ownBlock\/g=((W.drewN k).alloc o).heap.size) :
  Om w0 (w2.setCell ⟨A,5,none⟩ (.slice (some ⟨g,0,none⟩) (ap.length+1) cap)) A C cs fc (ap++[p]) ow (.slice (some ⟨g,0,none⟩) (ap.length+1) cap) ov:=by
 have h:=(h0.drewN k).alloc o;generalize ((W.drewN k).alloc o)=X at h hg cB;obtain⟨n1,n2,n3,n4,n5,n6⟩:=h.nds;have hA:A<X.heap.size:=(ownsRow.lt h.fo _ rfl).2;have hC:C<X.heap.size:=(ownsRow.lt h.cl _ rfl).2;have iI:∀j,j<X.heap.size->av.ownBlock≠some j->w2.heap[j]?=X.heap[j]?:=λj h1 h2=>hg.block j h1 (λe=>h2 e.symm);have cS:∀j v,j≠A->(w2.setCell ⟨A,5,none⟩ v).heap[j]?=w2.heap[j]?:=λj v hj=>heap_setCell _ _ _ _ hj;have hgA:g≠A:=by
  rcases cB with e|e
  .rintro rfl;exact n4 e.symm
  .omega
 have hgC:g≠C:=by
  rcases cB with e|e
  .rintro rfl;exact n2 e.symm
  .omega
 have oU:ov.ownBlock≠some g:=by
  rcases cB with e|e
  .exact n6 g e.symm
  .intro e2;have:=(h.ow.lt g e2).2;omega
 have cK:Below w0.heap.size w0 w2:=h.bl.grown hg h.bl.size (λj hj=>(h.ap.lt j hj).1);refine⟨h.cl.of_eq ((cS _ _ n1).trans (iI _ hC n2)),?_,h.f5,?_,ae h.ow (λj hj=>(cS _ _ (by rintro rfl;exact n5 hj)).trans (iI _ (h.ow.lt j hj).2 (λe=>n6 j e hj))),cK.setCell h.lo.2 _,XV n1 ?_ n3 ?_ n5 ?_,h.lo⟩
 .have:=(h.fo.of_eq (iI _ hA n4)).set 5 (.slice (some ⟨g,0,none⟩) (ap.length+1) cap);rw[set_append_right _ _ (by rw[cG,h.f5];exact zq4 _),cG,h.f5]at this;exact this
 .have:=ae (w':=w2.setCell ⟨A,5,none⟩ (.slice (some ⟨g,0,none⟩) (ap.length+1) cap)) aL (λj hj=>cS _ _ (by cases hj;exact hgA));rw[length_append,eZ];have e:af [p]=VJ p:=by simp[af]
  rw[e];exact this
 .intro e;cases e;exact hgC rfl
 .intro e;cases e;exact hgA rfl
 .intro j e;cases e;exact oU
theorem Om.pushO {w0 W w2:World} {A C g cap k:Nat} {o:Obj} {cs fc:List Nat} {ap ow:List Pr} {av ov:Value} (p:Pr) (h0:Om w0 W A C cs fc ap ow av ov) (hg:((W.drewN k).alloc o).grownBy w2 ov.ownBlock)
  (aL:w2.ownsRow w0.heap.size 182 3 (.slice (some ⟨g,0,none⟩) (ow.length+1) cap) (ow.length+1) (af ow++VJ p)) (cB:some g=ov.ownBlock\/g=((W.drewN k).alloc o).heap.size) :
  Om w0 (w2.setCell ⟨A,6,none⟩ (.slice (some ⟨g,0,none⟩) (ow.length+1) cap)) A C cs fc ap (ow++[p]) av (.slice (some ⟨g,0,none⟩) (ow.length+1) cap):=by
 have h:=(h0.drewN k).alloc o;generalize ((W.drewN k).alloc o)=X at h hg cB;obtain⟨n1,n2,n3,n4,n5,n6⟩:=h.nds;have hA:A<X.heap.size:=(ownsRow.lt h.fo _ rfl).2;have hC:C<X.heap.size:=(ownsRow.lt h.cl _ rfl).2;have iI:∀j,j<X.heap.size->ov.ownBlock≠some j->w2.heap[j]?=X.heap[j]?:=λj h1 h2=>hg.block j h1 (λe=>h2 e.symm);have cS:∀j v,j≠A->(w2.setCell ⟨A,6,none⟩ v).heap[j]?=w2.heap[j]?:=λj v hj=>heap_setCell _ _ _ _ hj;have hgA:g≠A:=by
  rcases cB with e|e
  .rintro rfl;exact n5 e.symm
  .omega
 have hgC:g≠C:=by
  rcases cB with e|e
  .rintro rfl;exact n3 e.symm
  .omega
 have oU:av.ownBlock≠some g:=by
  rcases cB with e|e
  .exact λe2=>n6 g e2 e.symm
  .intro e2;have:=(h.ap.lt g e2).2;omega
 have cK:Below w0.heap.size w0 w2:=h.bl.grown hg h.bl.size (λj hj=>(h.ow.lt j hj).1);refine⟨h.cl.of_eq ((cS _ _ n1).trans (iI _ hC n3)),?_,h.f5,ae h.ap (λj hj=>(cS _ _ (by rintro rfl;exact n4 hj)).trans (iI _ (h.ap.lt j hj).2 (λe=>n6 j hj e))),?_,cK.setCell h.lo.2 _,XV n1 n2 ?_ n4 ?_ ?_,h.lo⟩
 .have:=(h.fo.of_eq (iI _ hA n5)).set 6 (.slice (some ⟨g,0,none⟩) (ow.length+1) cap);rw[set_append_right _ _ (by rw[cG,h.f5];omega),cG,h.f5]at this;exact this
 .have:=ae (w':=w2.setCell ⟨A,6,none⟩ (.slice (some ⟨g,0,none⟩) (ow.length+1) cap)) aL (λj hj=>cS _ _ (by cases hj;exact hgA));rw[length_append,eZ];have e:af [p]=VJ p:=by simp[af]
  rw[e];exact this
 .intro e;cases e;exact hgC rfl
 .intro e;cases e;exact hgA rfl
 .intro j hj e;cases e;exact oU hj
def Zg(M:List Nat)(k:Nat):List Nat:=M.take k++replicate (5-k) 0
theorem TV{M:List Nat}(hm:M.length=13){k:Nat}(h:k<5):(Zg M k).set k (M.getD k 0)=Zg M (k+1):=by
 unfold Zg;have hl:(M.take k).length=k:=by rw[length_take];omega
 have hk:k<M.length:=by omega
 rw[set_append_right _ _ (by omega),hl,Nat.sub_self,show 5-k=(5-(k+1))+1 by omega,replicate_succ,set_cons_zero,take_succ_eq_append_getElem hk,append_assoc];simp[hk]
theorem ahh{w:World}{B:Nat}{av:Value}{al:List ci}(h:w.ownsRow B 239 5 av al.length (bN al))(ht:vm al)(m0:al.length<=1000)(hb:∀a∈al,a.lk<=2/\a.rk<=2/\a.li<=100/\a.ri<=100):
  Calls prog 114 #[av] w λe w'=>∃A fav fov,e=.returned (.pointer (some ⟨A,0,none⟩))/\eP w' A (bW al) fav fov/\(∀k∈aG A fav fov,w.heap.size<=k)/\Below w.heap.size w w'/\(aG A fav fov).Nodup:=by
 obtain⟨ao,cap,ko,oT,kD,ax⟩:=nS h;have HC:=ab ax;have HM:=ab (Lq h ht m0 hb);rw[ko]at HM ⊢;have fI:(nz al).length=13:=Br ht;obtain⟨M,hMM⟩:∃M,M=nz al:=⟨_,rfl⟩;have MM:=ab hMM;rw[<-hMM]at HM fI;clear h ax ko hMM;go_enter func114,ntmps114;go_wp2_with fail
 refine(uh HM).mono ?_;rintro e w1 ⟨rfl,bz⟩;have f8:=ab bz;clear bz;have cd:(prog.info? 236).map (·.size)=some (om M).toArray.size:=by rw[size_toArray,cG,fI];exact info13
 have hO:(om M).toArray.all (·.oneCell')=true:=all_oneCell_toArray (by
  intro v hv;obtain⟨o,_,rfl⟩:=mem_map.1 hv;rfl)
 obtain⟨MC,hMC⟩:∃MC,MC=om M:=⟨_,rfl⟩;rw[<-hMC]at cd hO ⊢;have eo:=ab cd;have HO:=ab hO;have HMC:=ab hMC;clear cd hO hMC;have Cl:∀W:World,∀o,W=(w1.alloc o)->(∃cs:Array Value,o=.cells cs 236/\cs.size=13)->W.there w1.heap.size 0 MC.toArray.size:=by
  rintro W o rfl ⟨cs,rfl,Dc⟩;intro j hj;rw[size_toArray,uh HMC,cG,fI]at hj;rw[Nat.zero_add];have hc:=cell_of_row (w1.alloc (.cells cs 236)) w1.heap.size j cs 236 (0,0) (heap_alloc_new w1 _);have hf:=frozen_of_row (w1.alloc (.cells cs 236)) w1.heap.size j cs 236 (heap_alloc_new w1 _);exact⟨by rw[hc];simp[Dc,hj],hf⟩
 have CB:=ab Cl;clear Cl;go_wp2_with (first|refine wpList_store_mid rfl 236 (.tmp 3) (.tmp 10) rfl w1.heap.size 0 MC.toArray rfl rfl (uh CB _ _ rfl ⟨_,rfl,rfl⟩) (uh eo) (uh HO) ?_)
 obtain⟨w2,tj⟩:∃w2,w2=(w1.alloc (Obj.cells #[Value.int IntKind.i64 0,Value.int IntKind.i64 0,Value.int IntKind.i64 0,Value.int IntKind.i64 0,Value.int IntKind.i64 0,Value.int IntKind.i64 0,Value.int IntKind.i64 0,Value.int IntKind.i64 0,Value.int IntKind.i64 0,Value.int IntKind.i64 0,Value.int IntKind.i64 0,Value.int IntKind.i64 0,Value.int IntKind.i64 0] 236)).setCells w1.heap.size 0 MC:=⟨_,rfl⟩;rw[<-tj];have OG:Ob w2 236 13 w1.heap.size (om M):=by
  have h1:=ownsRow_lit (base:=0) (e:=236) (size:=13) w1 #[Value.int IntKind.i64 0,Value.int IntKind.i64 0,Value.int IntKind.i64 0,Value.int IntKind.i64 0,Value.int IntKind.i64 0,Value.int IntKind.i64 0,Value.int IntKind.i64 0,Value.int IntKind.i64 0,Value.int IntKind.i64 0,Value.int IntKind.i64 0,Value.int IntKind.i64 0,Value.int IntKind.i64 0,Value.int IntKind.i64 0] 1 (zq5 _) (by simp[maxLen]) rfl;have h2:=Ob.setCells MC 0 h1;have h3:=nJ MC [] [Value.int IntKind.i64 0,Value.int IntKind.i64 0,Value.int IntKind.i64 0,Value.int IntKind.i64 0,Value.int IntKind.i64 0,Value.int IntKind.i64 0,Value.int IntKind.i64 0,Value.int IntKind.i64 0,Value.int IntKind.i64 0,Value.int IntKind.i64 0,Value.int IntKind.i64 0,Value.int IntKind.i64 0,Value.int IntKind.i64 0] [] (by rw[uh HMC,cG,fI];rfl);simp only[nil_append,append_nil,length_nil]at h3;have e:(#[Value.int IntKind.i64 0,Value.int IntKind.i64 0,Value.int IntKind.i64 0,Value.int IntKind.i64 0,Value.int IntKind.i64 0,Value.int IntKind.i64 0,Value.int IntKind.i64 0,Value.int IntKind.i64 0,Value.int IntKind.i64 0,Value.int IntKind.i64 0,Value.int IntKind.i64 0,Value.int IntKind.i64 0,Value.int IntKind.i64 0]:Array Value).toList=[Value.int IntKind.i64 0,Value.int IntKind.i64 0,Value.int IntKind.i64 0,Value.int IntKind.i64 0,Value.int IntKind.i64 0,Value.int IntKind.i64 0,Value.int IntKind.i64 0,Value.int IntKind.i64 0,Value.int IntKind.i64 0,Value.int IntKind.i64 0,Value.int IntKind.i64 0,Value.int IntKind.i64 0,Value.int IntKind.i64 0]:=rfl;rw[e,h3]at h2;rw[tj,<-uh HMC];exact h2
 have C1:Below w.heap.size w w2:=by
  rw[tj];have hs:∀(vs:List Value) (o:Nat) (x:World),Below w.heap.size w x->Below w.heap.size w (x.setCells w1.heap.size o vs):=by
   intro vs;induction vs with
   |nil=>intro o x h;exact h
   |cons v r ih=>intro o x h;exact ih (o+1) _ (h.setCell (uh f8).size v)
  exact hs MC 0 _ ((uh f8).alloc (uh f8).size _)
 obtain⟨C,hC⟩:∃C,C=w1.heap.size:=⟨_,rfl⟩;obtain⟨A,hA⟩:∃A,A=w2.heap.size:=⟨_,rfl⟩;rw[<-hC]at OG ⊢;rw[<-hA];have hCA:C<A:=by rw[hA];exact(ownsRow.lt OG _ rfl).2
 have hCw:w.heap.size<=C:=by rw[hC];exact(uh f8).size
 have afg:Om w (w2.alloc (Obj.cells #[Value.int IntKind.i64 0,Value.int IntKind.i64 0,Value.int IntKind.i64 0,Value.int IntKind.i64 0,Value.int IntKind.i64 0,Value.slice none 0 0,Value.slice none 0 0] 179)) A C M (replicate 5 0) [] [] (.slice none 0 0) (.slice none 0 0):=by
  refine⟨OG.alloc _,?_,rfl,ownsRow_nil _ _ _ _,ownsRow_nil _ _ _ _,C1.alloc C1.size _,?_,hCw,by omega⟩
  .have h1:=ownsRow_lit (base:=0) (e:=179) (size:=7) w2 #[Value.int IntKind.i64 0,Value.int IntKind.i64 0,Value.int IntKind.i64 0,Value.int IntKind.i64 0,Value.int IntKind.i64 0,Value.slice none 0 0,Value.slice none 0 0] 1 (zq5 _) (by simp[maxLen]) rfl;rw[<-hA]at h1;exact h1
  .simp[Value.ownBlock];omega
 have ajR:=ab afg;clear OG C1 hC hA tj afg;go_loopw [5] (λi wr=>∃k:Nat,k<=5/\i=.int .i64 k/\Hid (Om w wr A C M (Zg M k) [] [] (.slice none 0 0) (.slice none 0 0))) (λi _=>5-(intOf i).toNat)
 case atStart=>exact⟨0,zq5 _,rfl,ajR⟩
 case round =>
  obtain⟨k,hk,rfl,Mf⟩:=hrel;by_cases au:k<5
  .have hd:decide ((k:Int)<5)=true:=(by simp;omega);have SB:=(ownsRow.cellAt (uh Mf).cl k (by omega)).trans (oq (l:=M) (by omega));obtain⟨⟨u,hu⟩,hz⟩:=(uh Mf).fo.some (j:=k) (by omega);have Ur:=(uh Mf).setF au (M.getD k 0);rw[TV fI au]at Ur;obtain⟨mk,hmk⟩:∃mk,mk=M.getD k 0:=⟨_,rfl⟩;rw[<-hmk]at SB Ur;have ajS:=ab Ur;clear Ur hmk Mf;go_wp2_with fail
   go_region
   go_wp2_with fail
   go_roundw
   case rel=>exact⟨k+1,by omega,by go_num,ab ((uh ajS).drewN 1)⟩
   case measure=>simp[intOf];omega
  .have hd:decide ((k:Int)<5)=false:=(by simp;omega);have FP:k=5:=(by omega);subst FP;go_wp2_with fail
   go_loopg [27] al.length (λgn i wr=>∃(k:Nat) (av ov:Value),k+gn=al.length/\i=.int .i64 k/\Hid (Om w wr A C M (Zg M 5) (((al.take k).filter (λa=>a.k==2)).map (jm M)) (((al.take k).filter (λa=>a.k==3||a.k==4)).map (jm M)) av ov))
   case atStart=>exact⟨0,.slice none 0 0,.slice none 0 0,by omega,rfl,Mf⟩
   case round =>
    obtain⟨k,av,ov,hk,rfl,Mf⟩:=hrel;by_cases b7:k<al.length
    .have kY:decide ((k:Int)<(al.length:Int))=true:=(by simp;omega);obtain⟨g,s8,nY,ax⟩:=uh HC (by intro h;rw[h]at b7;simp at b7);subst s8;obtain⟨x0,x1,x2,x3,x4⟩:=ax k b7;obtain⟨a,ha⟩:∃a,a=al[k]:=⟨_,rfl⟩;have Lc:=ht _ (getElem_mem b7);have Ez:=hb _ (getElem_mem b7);rw[<-ha]at x0 x1 x2 x3 x4 Lc Ez;have qE:=(uh Mf).bl;have c0:=(qE.cell (block_lt_of_cell? w _ x0)).trans x0;have c1:=(qE.cell (block_lt_of_cell? w _ x1)).trans x1;have c2:=(qE.cell (block_lt_of_cell? w _ x2)).trans x2;have c3:=(qE.cell (block_lt_of_cell? w _ x3)).trans x3;have c4:=(qE.cell (block_lt_of_cell? w _ x4)).trans x4;clear ax x0 x1 x2 x3 x4 qE;have yt:(al.take (k+1)).filter (λa=>a.k==2)=(al.take k).filter (λa=>a.k==2)++(if a.k=2 then [a] else []):=by
      rw[take_succ_eq_append_getElem b7,filter_append,<-ha];congr 1;by_cases h:a.k=2 <;> simp[h]
     have agL:(al.take (k+1)).filter (λa=>a.k==3||a.k==4)=(al.take k).filter (λa=>a.k==3||a.k==4)++(if a.k=3\/a.k=4 then [a] else []):=by
      rw[take_succ_eq_append_getElem b7,filter_append,<-ha];congr 1;by_cases h:a.k=3\/a.k=4
      .rw[if_pos h];rcases h with h|h <;> simp[h]
      .rw[if_neg h];have h3:a.k≠3:=λe=>h (zq0 e);have h4:a.k≠4:=λe=>h (zq1 e);simp[h3,h4]
     have dg:=ab yt;have iT:=ab agL;obtain⟨W0,hW0⟩:∃W0,W0=wr.alloc (.cells #[Value.int .i64 a.k,.int .i64 a.lk,.int .i64 a.li,.int .i64 a.rk,.int .i64 a.ri] 239):=⟨_,rfl⟩;have Ix:=(uh Mf).alloc (.cells #[Value.int .i64 a.k,.int .i64 a.lk,.int .i64 a.li,.int .i64 a.rk,.int .i64 a.ri] 239);rw[<-hW0]at Ix;have iF:=λj=>cell_of_row (wr.alloc (.cells #[Value.int .i64 a.k,.int .i64 a.lk,.int .i64 a.li,.int .i64 a.rk,.int .i64 a.ri] 239)) wr.heap.size j #[Value.int .i64 a.k,.int .i64 a.lk,.int .i64 a.li,.int .i64 a.rk,.int .i64 a.ri] 239 (0,0) (heap_alloc_new wr _);rw[<-hW0]at iF;have n0:=iF 0;have n1:=iF 1;have n2:=iF 2;have n3:=iF 3;have n4:=iF 4;simp only[getElem?_toArray,getElem?_cons_zero,getElem?_cons_succ]at n0 n1 n2 n3 n4;have aak:xt a.lk a.li<13:=Lc.1;have alF:xt a.rk a.ri<13:=Lc.2;obtain⟨t1,yu⟩:∃t1,t1=xt a.lk a.li:=⟨_,rfl⟩;obtain⟨t2,Lb⟩:∃t2,t2=xt a.rk a.ri:=⟨_,rfl⟩;rw[<-yu]at aak;rw[<-Lb]at alF;obtain⟨cl,dT⟩:∃cl,cl=M.getD t1 0:=⟨_,rfl⟩;obtain⟨cr,hcr⟩:∃cr,cr=M.getD t2 0:=⟨_,rfl⟩;have hfacts:∀W:World,Below W0.heap.size W0 W->W.cell? ⟨wr.heap.size,0,none⟩=some (.int .i64 a.k)/\W.cell? ⟨wr.heap.size,1,none⟩=some (.int .i64 a.lk)/\W.cell? ⟨wr.heap.size,2,none⟩=some (.int .i64 a.li)/\W.cell? ⟨wr.heap.size,3,none⟩=some (.int .i64 a.rk)/\W.cell? ⟨wr.heap.size,4,none⟩=some (.int .i64 a.ri)/\W.cell? ⟨C,t1,none⟩=some (.int .i64 cl)/\W.cell? ⟨C,t2,none⟩=some (.int .i64 cr):=by
      intro W hW;have Md:=(Ix.below hW).cl;exact⟨(hW.cell (block_lt_of_cell? _ _ n0)).trans n0,(hW.cell (block_lt_of_cell? _ _ n1)).trans n1,(hW.cell (block_lt_of_cell? _ _ n2)).trans n2,(hW.cell (block_lt_of_cell? _ _ n3)).trans n3,(hW.cell (block_lt_of_cell? _ _ n4)).trans n4,
       by rw[dT];exact(ownsRow.cellAt Md t1 (by omega)).trans (oq (l:=M) (by omega)),by rw[hcr];exact(ownsRow.cellAt Md t2 (by omega)).trans (oq (l:=M) (by omega))⟩
     obtain⟨-,-,-,-,-,n5,n6⟩:=hfacts W0 (Below.refl _ _);have R8:=ab hfacts;have HNl:Hid (∀W,Calls prog 152 #[.agg #[.int .i64 a.lk,.int .i64 a.li]] W λe w'=>e=.returned (.int .i64 (t1:Int))/\Below W.heap.size W w'):=ab (λW=>by rw[yu];exact mg a.lk a.li Ez.1 (by omega) W);have HNr:Hid (∀W,Calls prog 152 #[.agg #[.int .i64 a.rk,.int .i64 a.ri]] W λe w'=>e=.returned (.int .i64 (t2:Int))/\Below W.heap.size W w'):=ab (λW=>by rw[Lb];exact mg a.rk a.ri Ez.2.1 (by omega) W);have MO:=ab Ix;have YD:=ab hW0;have HPr:Hid (jm M a=⟨a.k,cl,cr⟩):=ab (by unfold jm;rw[<-yu,<-Lb,<-dT,<-hcr]);clear iF hfacts Ix yu Lb dT hcr yt agL ha Lc Ez;rw[hW0]at n0 n1 n2 n3 n4 n5 n6;clear hW0;go_wp2_with fail
     rw[uh YD]at R8 MO;obtain⟨p0,p1,p2,p3,p4,p5,p6⟩:=uh R8 ((wr.alloc (.cells #[Value.int .i64 a.k,.int .i64 a.lk,.int .i64 a.li,.int .i64 a.rk,.int .i64 a.ri] 239)).alloc (.cells #[Value.int .i64 0,.int .i64 0,.int .i64 0] 182)) (pM (wr.alloc (.cells #[Value.int .i64 a.k,.int .i64 a.lk,.int .i64 a.li,.int .i64 a.rk,.int .i64 a.ri] 239)) (.cells #[Value.int .i64 0,.int .i64 0,.int .i64 0] 182));go_cut [8] (λp wx=>∃b,p=.pointer (some ⟨b,0,none⟩)/\Hid (wx.heap[b]?=some (.cells #[Value.int .i64 a.k,.int .i64 cl,.int .i64 cr] 182 (0,0)))/\Hid (Below (wr.alloc (.cells #[Value.int .i64 a.k,.int .i64 a.lk,.int .i64 a.li,.int .i64 a.rk,.int .i64 a.ri] 239)).heap.size (wr.alloc (.cells #[Value.int .i64 a.k,.int .i64 a.lk,.int .i64 a.li,.int .i64 a.rk,.int .i64 a.ri] 239)) wx))
     case first =>
      have hwC:C<wr.heap.size:=(ownsRow.lt (uh Mf).cl _ rfl).2;have i1:(0:Int)<=(t1:Int):=(by omega);have i2:(t1:Int)<13:=(by omega);have i3:(0:Int)<=(t2:Int):=(by omega);have i4:(t2:Int)<13:=(by omega);have e1:¬ (C=wr.heap.size+1):=(by omega);have e2:¬ (wr.heap.size+1=C):=(by omega);have al5:(wr.alloc (.cells #[Value.int .i64 a.k,.int .i64 a.lk,.int .i64 a.li,.int .i64 a.rk,.int .i64 a.ri] 239)).heap.size=wr.heap.size+1:=(by simp);clear c0 c1 c2 c3 c4 hk kY nY;go_region_held3 (λW=>W.cell? ⟨wr.heap.size,0,none⟩=some (.int .i64 a.k)/\W.cell? ⟨wr.heap.size,1,none⟩=some (.int .i64 a.lk)/\W.cell? ⟨wr.heap.size,2,none⟩=some (.int .i64 a.li)/\W.cell? ⟨wr.heap.size,3,none⟩=some (.int .i64 a.rk)/\W.cell? ⟨wr.heap.size,4,none⟩=some (.int .i64 a.ri)/\W.cell? ⟨C,t1,none⟩=some (.int .i64 cl)/\W.cell? ⟨C,t2,none⟩=some (.int .i64 cr)) (first|(simp only[cell?_drew,n0,n1,n2,n3,n4,n5,n6,and_self];done)|(simp only[cell?_drew,p0,p1,p2,p3,p4,p5,p6,and_self];done)|(simp only[q0,q1,q2,q3,q4,q5,q6,and_self];done)|(simp only[r0,r1,r2,r3,r4,r5,r6,and_self];done)|(simp only[s0,s1,s2,s3,s4,s5,s6,and_self];done)|(simp only[v0,v1,v2,v3,v4,v5,v6,and_self];done)|(simp[cell?_setCell_far,s0,s1,s2,s3,s4,s5,s6,e2];done)|(simp[cell?_setCell_far,s0,s1,s2,s3,s4,s5,s6,f3,f4];done)|(simp[s0,s1,s2,s3,s4,s5,s6,cell?_alloc_some];done))
       (first
        |(go_at_call 152;refine(uh HNr wL).mono ?_;rintro e wR ⟨rfl,hbR⟩;have BR:Below (wr.alloc (.cells #[Value.int .i64 a.k,.int .i64 a.lk,.int .i64 a.li,.int .i64 a.rk,.int .i64 a.ri] 239)).heap.size (wr.alloc (.cells #[Value.int .i64 a.k,.int .i64 a.lk,.int .i64 a.li,.int .i64 a.rk,.int .i64 a.ri] 239)) wR:=(uh GZ).trans (hbR.mono (uh GZ).size);obtain⟨s0,s1,s2,s3,s4,s5,s6⟩:=uh R8 wR BR;obtain⟨v0,v1,v2,v3,v4,v5,v6⟩:=uh R8 (wR.alloc (.cells #[Value.int .i64 0,.int .i64 0,.int .i64 0] 182)) (BR.trans ((pM wR (.cells #[Value.int .i64 0,.int .i64 0,.int .i64 0] 182)).mono BR.size));(try (have WG:=ab ((hbR.block _ (Array.getElem?_eq_some_iff.1 (uh WF)).1).trans (uh WF));obtain⟨x0,x1,x2,xf⟩:=Ae (uh WG)));have yC:=ab BR;clear hbR BR)
        |(go_at_call 152;refine(uh HNr (wL.alloc (.cells #[Value.int .i64 0,.int .i64 0,.int .i64 0] 182))).mono ?_;rintro e wR ⟨rfl,hbR⟩;have BR:Below (wr.alloc (.cells #[Value.int .i64 a.k,.int .i64 a.lk,.int .i64 a.li,.int .i64 a.rk,.int .i64 a.ri] 239)).heap.size (wr.alloc (.cells #[Value.int .i64 a.k,.int .i64 a.lk,.int .i64 a.li,.int .i64 a.rk,.int .i64 a.ri] 239)) wR:=(uh GZ).trans (((pM wL (.cells #[Value.int .i64 0,.int .i64 0,.int .i64 0] 182)).trans (hbR.mono (pM wL (.cells #[Value.int .i64 0,.int .i64 0,.int .i64 0] 182)).size)).mono (uh GZ).size);obtain⟨s0,s1,s2,s3,s4,s5,s6⟩:=uh R8 wR BR;have WG:=ab (CK hbR);obtain⟨x0,x1,x2,xf⟩:=Ae (uh WG);have yC:=ab BR;clear hbR BR)
        |(go_at_call 152;refine(uh HNl (wr.alloc (.cells #[Value.int .i64 a.k,.int .i64 a.lk,.int .i64 a.li,.int .i64 a.rk,.int .i64 a.ri] 239)).drew).mono ?_;rintro e wL ⟨rfl,hbL⟩;have BL:=(⟨hbL.os,hbL.tape,hbL.output,hbL.size,hbL.block⟩:Below (wr.alloc (.cells #[Value.int .i64 a.k,.int .i64 a.lk,.int .i64 a.li,.int .i64 a.rk,.int .i64 a.ri] 239)).heap.size (wr.alloc (.cells #[Value.int .i64 a.k,.int .i64 a.lk,.int .i64 a.li,.int .i64 a.rk,.int .i64 a.ri] 239)) wL);obtain⟨q0,q1,q2,q3,q4,q5,q6⟩:=uh R8 wL BL;obtain⟨r0,r1,r2,r3,r4,r5,r6⟩:=uh R8 (wL.alloc (.cells #[Value.int .i64 0,.int .i64 0,.int .i64 0] 182)) (BL.trans ((pM wL (.cells #[Value.int .i64 0,.int .i64 0,.int .i64 0] 182)).mono BL.size));have f1:¬ (C=wL.heap.size):=(by have:=BL.size;simp at this;omega);have f2:¬ (wr.heap.size=wL.heap.size):=(by have:=BL.size;simp at this;omega);have f3:¬ (wL.heap.size=C):=(λe=>f1 e.symm);have f4:¬ (wL.heap.size=wr.heap.size):=(λe=>f2 e.symm);have GZ:=ab BL;clear hbL BL)
        |(go_at_call 152;refine(uh HNl ((wr.alloc (.cells #[Value.int .i64 a.k,.int .i64 a.lk,.int .i64 a.li,.int .i64 a.rk,.int .i64 a.ri] 239)).alloc (.cells #[Value.int .i64 0,.int .i64 0,.int .i64 0] 182)).drew).mono ?_;rintro e wL ⟨rfl,hbL⟩;have BA:=(⟨hbL.os,hbL.tape,hbL.output,hbL.size,hbL.block⟩:Below ((wr.alloc (.cells #[Value.int .i64 a.k,.int .i64 a.lk,.int .i64 a.li,.int .i64 a.rk,.int .i64 a.ri] 239)).alloc (.cells #[Value.int .i64 0,.int .i64 0,.int .i64 0] 182)).heap.size ((wr.alloc (.cells #[Value.int .i64 a.k,.int .i64 a.lk,.int .i64 a.li,.int .i64 a.rk,.int .i64 a.ri] 239)).alloc (.cells #[Value.int .i64 0,.int .i64 0,.int .i64 0] 182)) wL);have BL:Below (wr.alloc (.cells #[Value.int .i64 a.k,.int .i64 a.lk,.int .i64 a.li,.int .i64 a.rk,.int .i64 a.ri] 239)).heap.size (wr.alloc (.cells #[Value.int .i64 a.k,.int .i64 a.lk,.int .i64 a.li,.int .i64 a.rk,.int .i64 a.ri] 239)) wL:=(pM (wr.alloc (.cells #[Value.int .i64 a.k,.int .i64 a.lk,.int .i64 a.li,.int .i64 a.rk,.int .i64 a.ri] 239)) (.cells #[Value.int .i64 0,.int .i64 0,.int .i64 0] 182)).trans (BA.mono (pM (wr.alloc (.cells #[Value.int .i64 a.k,.int .i64 a.lk,.int .i64 a.li,.int .i64 a.rk,.int .i64 a.ri] 239)) (.cells #[Value.int .i64 0,.int .i64 0,.int .i64 0] 182)).size);obtain⟨q0,q1,q2,q3,q4,q5,q6⟩:=uh R8 wL BL;have f1:¬ (C=wL.heap.size):=(by have:=BL.size;simp at this;omega);have f2:¬ (wr.heap.size=wL.heap.size):=(by have:=BL.size;simp at this;omega);have f3:¬ (wL.heap.size=C):=(λe=>f1 e.symm);have f4:¬ (wL.heap.size=wr.heap.size):=(λe=>f2 e.symm);have WF:=ab (CK BA);rw[al5]at WF;obtain⟨y0,y1,y2,yf⟩:=Ae (uh WF);have GZ:=ab BL;clear hbL BL BA))
      all_goals (try go_wp2_with fail)
      all_goals go_meet
      all_goals first
       |exact⟨_,rfl,ab (heap_alloc_new wR _),ab ((uh yC).alloc (uh yC).size _)⟩
       |exact⟨_,rfl,ab (ahu (uh WG)),ab ((((uh yC).setCell (p:=⟨_,0,none⟩) (uh GZ).size _).setCell (p:=⟨_,1,none⟩) (uh GZ).size _).setCell (p:=⟨_,2,none⟩) (uh GZ).size _)⟩
       |exact⟨_,rfl,ab (ahu (uh WG)),ab ((((uh yC).setCell (p:=⟨_,0,none⟩) (by show _<=_;simp) _).setCell (p:=⟨_,1,none⟩) (by show _<=_;simp) _).setCell (p:=⟨_,2,none⟩) (by show _<=_;simp) _)⟩
     case rest =>
      obtain⟨b,rfl,dx,hbW⟩:=hcut;clear p0 p1 p2 p3 p4 p5 p6 n0 n1 n2 n3 n4 n5 n6;obtain⟨p0,p1,p2,p3,p4,-,-⟩:=uh R8 _ (uh hbW);obtain⟨y0,y1,y2,yf⟩:=Ae (uh dx);have pR:=(uh MO).below (uh hbW);obtain⟨ap,eJ⟩:∃ap,ap=((al.take k).filter (λa=>a.k==2)).map (jm M):=⟨_,rfl⟩;obtain⟨ow,qM⟩:∃ow,ow=((al.take k).filter (λa=>a.k==3||a.k==4)).map (jm M):=⟨_,rfl⟩;rw[<-eJ,<-qM]at pR;have arh:ap.length<=1000:=by
       rw[eJ,length_map];have h1:=length_filter_le (λa:ci=>a.k==2) (al.take k);have h2:=length_take_le k al;rw[length_take]at h1;omega
      have arX:ow.length<=1000:=by
       rw[qM,length_map];have h1:=length_filter_le (λa:ci=>a.k==3||a.k==4) (al.take k);rw[length_take]at h1;omega
      have CA:Hid (((al.take (k+1)).filter (λa=>a.k==2)).map (jm M)=ap++(if a.k=2 then [⟨a.k,cl,cr⟩] else [])):=ab (by rw[uh dg,map_append,<-eJ];congr 1;split <;> simp[uh HPr]);have uY:Hid (((al.take (k+1)).filter (λa=>a.k==3||a.k==4)).map (jm M)=ow++(if a.k=3\/a.k=4 then [⟨a.k,cl,cr⟩] else [])):=ab (by rw[uh iT,map_append,<-qM];congr 1;split <;> simp[uh HPr]);clear eJ qM dg iT HPr MO R8 Mf;obtain⟨ak,hak⟩:∃ak,ak=a.k:=⟨_,rfl⟩;rw[<-hak]at p0 y0 CA uY dx;have HAK:=ab hak;clear hak;have Fz:A<wc.heap.size:=(ownsRow.lt pR.fo _ rfl).2;have cK:b<wc.heap.size:=(Array.getElem?_eq_some_iff.1 (uh dx)).1;have Ug:w.heap.size<=wc.heap.size:=pR.bl.size;obtain⟨i0,lr,gX,gy,gK⟩:=info_parts infoPair;have KL:∀(b j k:Nat) (o:Obj) (v:Value),b<wc.heap.size->wc.cell? ⟨b,j,none⟩=some v->((wc.drewN k).alloc o).cell? ⟨b,j,none⟩=some v:=λb j k o v hb hv=>(cell?_of_block (a:=⟨b,j,none⟩) (heap_alloc (wc.drewN k) o b hb)).trans hv;have y0a:=λk o=>KL b 0 k o _ cK y0;have y1a:=λk o=>KL b 1 k o _ cK y1;have y2a:=λk o=>KL b 2 k o _ cK y2;have f5:=(pR.fo.some (j:=5) (by omega)).2;have f6:=(pR.fo.some (j:=6) (by omega)).2;have c5:wc.cell? ⟨A,5,none⟩=some av:=(ownsRow.cellAt pR.fo 5 (by omega)).trans (by rw[getElem?_append_right (by rw[cG,pR.f5];exact zq4 _),cG,pR.f5];rfl);have c6:wc.cell? ⟨A,6,none⟩=some ov:=(ownsRow.cellAt pR.fo 6 (by omega)).trans (by rw[getElem?_append_right (by rw[cG,pR.f5];omega),cG,pR.f5];rfl);have c5a:=λk o=>KL A 5 k o _ Fz c5;have c6a:=λk o=>KL A 6 k o _ Fz c6;have Pw:=pR.nds.2.2.2.1;have Dj:=pR.nds.2.2.2.2.1;have J7:=ab pR;have c7:Hid (w=w):=ab rfl;clear KL pR p1 p2 p3 p4 c0 c1 c2 c3 c4;by_cases mK:ak=2
      .subst mK;have kh:=ab (uh J7).ap;have Eo:Hid (av.ownBlock≠some A):=ab Pw;clear Pw Dj;have T2:Hid (((al.take (k+1)).filter (λa=>a.k==2)).map (jm M)=ap++[⟨2,cl,cr⟩]):=ab ((uh CA).trans (by simp));have T3:Hid (((al.take (k+1)).filter (λa=>a.k==3||a.k==4)).map (jm M)=ow):=ab ((uh uY).trans (by simp));clear CA uY;go_wp2_with fail
       go_region_law (refine jy _ rfl (.tmp 52) (.tmp 54) 177 rfl w.heap.size 182 i0 _ 3 24 underlying177 lr gX gy gK rfl (by decide) av ap.length (af ap) (by simp[Act.eval]) (sE (uh kh) _ _) ⟨wc.heap.size,0,none⟩ 1 [.int .i64 2,.int .i64 cl,.int .i64 cr] (by simp[Act.eval]) rfl (aN (wc.drewN _) _ rfl _ _) (wP ⟨2,cl,cr⟩) (by omega) (by omega) (zs Ug _ _) ?_;intro g2 cap2 w2 br aM dW;have c5':=iq aM Fz (uh Eo) 5 c5;have f5':=fs aM Fz (uh Eo) 5 f5;have xI:=ab (Om.pushA ⟨2,cl,cr⟩ (uh J7) aM br dW);clear br aM dW)
       all_goals
        go_wp2_with fail
        go_roundg (gk-1)
        case rel=>exact⟨k+1,(.slice (some ⟨g2,0,none⟩) (ap.length+1) cap2),ov,by omega,by go_num,ab (by rw[uh T2,uh T3];exact uh xI)⟩
        case measure=>omega
      .by_cases af6:ak=3\/ak=4
       .have kh:=ab (uh J7).ow;have Eo:Hid (ov.ownBlock≠some A):=ab Dj;clear Pw Dj;rcases af6 with rfl|rfl
        .have T2:Hid (((al.take (k+1)).filter (λa=>a.k==2)).map (jm M)=ap):=ab ((uh CA).trans (by simp));have T3:Hid (((al.take (k+1)).filter (λa=>a.k==3||a.k==4)).map (jm M)=ow++[⟨3,cl,cr⟩]):=ab ((uh uY).trans (by simp));clear CA uY;go_wp2_with fail
         go_region_law (refine jy _ rfl (.tmp 65) (.tmp 67) 177 rfl w.heap.size 182 i0 _ 3 24 underlying177 lr gX gy gK rfl (by decide) ov ow.length (af ow) (by simp[Act.eval]) (sE (uh kh) _ _) ⟨wc.heap.size,0,none⟩ 1 [.int .i64 3,.int .i64 cl,.int .i64 cr] (by simp[Act.eval]) rfl (aN (wc.drewN _) _ rfl _ _) (wP ⟨3,cl,cr⟩) (by omega) (by omega) (zs Ug _ _) ?_;intro g2 cap2 w2 br aM dW;have c5':=iq aM Fz (uh Eo) 6 c6;have f5':=fs aM Fz (uh Eo) 6 f6;have xI:=ab (Om.pushO ⟨3,cl,cr⟩ (uh J7) aM br dW);clear br aM dW)
         all_goals
          go_wp2_with fail
          go_roundg (gk-1)
          case rel=>exact⟨k+1,av,(.slice (some ⟨g2,0,none⟩) (ow.length+1) cap2),by omega,by go_num,ab (by rw[uh T2,uh T3];exact uh xI)⟩
          case measure=>omega
        .have T2:Hid (((al.take (k+1)).filter (λa=>a.k==2)).map (jm M)=ap):=ab ((uh CA).trans (by simp));have T3:Hid (((al.take (k+1)).filter (λa=>a.k==3||a.k==4)).map (jm M)=ow++[⟨4,cl,cr⟩]):=ab ((uh uY).trans (by simp));clear CA uY;go_wp2_with fail
         go_region_law (refine jy _ rfl (.tmp 65) (.tmp 67) 177 rfl w.heap.size 182 i0 _ 3 24 underlying177 lr gX gy gK rfl (by decide) ov ow.length (af ow) (by simp[Act.eval]) (sE (uh kh) _ _) ⟨wc.heap.size,0,none⟩ 1 [.int .i64 4,.int .i64 cl,.int .i64 cr] (by simp[Act.eval]) rfl (aN (wc.drewN _) _ rfl _ _) (wP ⟨4,cl,cr⟩) (by omega) (by omega) (zs Ug _ _) ?_;intro g2 cap2 w2 br aM dW;have c5':=iq aM Fz (uh Eo) 6 c6;have f5':=fs aM Fz (uh Eo) 6 f6;have xI:=ab (Om.pushO ⟨4,cl,cr⟩ (uh J7) aM br dW);clear br aM dW)
         all_goals
          go_wp2_with fail
          go_roundg (gk-1)
          case rel=>exact⟨k+1,av,(.slice (some ⟨g2,0,none⟩) (ow.length+1) cap2),by omega,by go_num,ab (by rw[uh T2,uh T3];exact uh xI)⟩
          case measure=>omega
       .have e2:¬ ((ak:Int)=2):=(by omega);have e3:¬ ((ak:Int)=3):=(by omega);have e4:¬ ((ak:Int)=4):=(by omega);go_wp2_with fail
        go_roundg (gk-1)
        case rel=>exact⟨k+1,av,ov,by omega,by go_num,ab (by rw[uh CA,uh uY,if_neg mK,if_neg af6,append_nil,append_nil];exact uh J7)⟩
        case measure=>omega
    .have kY:decide ((k:Int)<(al.length:Int))=false:=(by simp;omega);have ED:k=al.length:=(by omega);subst ED;go_wp2_with fail
     go_ret;have hO:=uh Mf;obtain⟨n1,n2,n3,n4,n5,n6⟩:=hO.nds;rw[take_length]at hO;have e5:Zg M 5=M.take 5:=(by unfold Zg;simp);rw[e5]at hO;refine⟨A,av,ov,by simp,⟨?_,by have h1:=rq hO.ap (zq5 _);rw[uh MM]at h1;exact h1,by have h1:=rq hO.ow (zq5 _);rw[uh MM]at h1;exact h1⟩,?_,hO.bl,(nodup_cons.1 (uh Mf).nd).2⟩
     .have h1:=hO.fo;have h5:(M.take 5).length=5:=(by rw[length_take];omega);have h6:om (M.take 5)++[av,ov]=ji (bW al) av ov:=by
       have e:(bW al).cl=M.take 5:=(by rw[uh MM];rfl);unfold ji gZ;rw[e];match h:M.take 5,h5 with
       |[q0,q1,q2,q3,q4],_=>rfl
      rw[h6]at h1;exact h1
     .intro j hj;simp only[aG,mem_cons,mem_append,Option.mem_toList]at hj;rcases hj with rfl|hj|hj
      .exact hO.lo.2
      .exact(hO.ap.lt j hj).1
      .exact(hO.ow.lt j hj).1
