import Derived.Test.YtciihepbeacppaaGreatM08
set_option maxRecDepth 100000
set_option maxHeartbeats 0
namespace Go.Proofs.YtciihepbeacppaaGreat
open Tryz Go.RowKit List World Below
set_option linter.unusedVariables false
theorem j6(k i:Nat)(hk:k<=2)(hi:i<=1000)(w:World):Calls prog 152 #[.agg #[.int .i64 k,.int .i64 i]] w λe w'=>e=.returned (.int .i64 (ut k i:Nat))/\Below w.heap.size w w':=by
 have Bj:k=0\/k=1\/k=2:=by omega
 have hb:=(Below.refl w.heap.size w).alloc (zq4 _) (.cells #[Value.int .i64 k,.int .i64 i] 184);have HB:=ab hb;clear hb;rcases Bj with rfl|rfl|rfl
 .go_enter func152,ntmps152;go_wp2_with fail
  go_ret;exact⟨rfl,uh HB⟩
 .go_enter func152,ntmps152;go_wp2_with fail
  go_ret;exact⟨aQ (by unfold ut;rw[if_pos rfl];omega),uh HB⟩
 .go_enter func152,ntmps152;go_wp2_with fail
  go_ret;exact⟨aQ (by unfold ut;rw[if_neg (by decide),if_pos rfl];omega),uh HB⟩
theorem Xp{l:List bt}{k:Nat}(h:k<l.length):(bh l)[k*5]?=some (.int .i64 l[k].k)/\(bh l)[k*5+1]?=some (.int .i64 l[k].lk)/\(bh l)[k*5+2]?=some (.int .i64 l[k].li)/\(bh l)[k*5+3]?=some (.int .i64 l[k].rk)/\(bh l)[k*5+4]?=some (.int .i64 l[k].ri):=by
 induction l generalizing k with
 |nil=>simp at h
 |cons x l ih =>
  have hx:bh (x::l)=[Value.int .i64 x.k,.int .i64 x.lk,.int .i64 x.li,.int .i64 x.rk,.int .i64 x.ri]++bh l:=rfl;cases k with
  |zero=>rw[hx];simp
  |succ k =>
   have:=ih (k:=k) (by simpa using h);rw[hx,show(k+1)*5=k*5+5 by omega];simp only[getElem_cons_succ];refine⟨?_,?_,?_,?_,?_⟩
   .rw[getElem?_append_right (by simp)];simpa using this.1
   .rw[getElem?_append_right (by simp)];simpa[show k*5+5+1-5=k*5+1 by omega] using this.2.1
   .rw[getElem?_append_right (by simp)];simpa[show k*5+5+2-5=k*5+2 by omega] using this.2.2.1
   .rw[getElem?_append_right (by simp)];simpa[show k*5+5+3-5=k*5+3 by omega] using this.2.2.2.1
   .rw[getElem?_append_right (by simp)];simpa[show k*5+5+4-5=k*5+4 by omega] using this.2.2.2.2
theorem lI{w:World}{B:Nat}{v:Value}{l:List bt}(h:w.ownsRow B 239 5 v l.length (bh l)):
  ∃ao cap,v=.slice ao l.length cap/\cap<=9223372036854775807/\l.length<=cap/\(l≠[]->∃g,ao=some ⟨g,0,none⟩/\g<w.heap.size/\∀j,(h:j<l.length)->w.cell? ⟨g,j*5,none⟩=some (.int .i64 l[j].k)/\w.cell? ⟨g,j*5+1,none⟩=some (.int .i64 l[j].lk)/\w.cell? ⟨g,j*5+2,none⟩=some (.int .i64 l[j].li)/\w.cell? ⟨g,j*5+3,none⟩=some (.int .i64 l[j].rk)/\w.cell? ⟨g,j*5+4,none⟩=some (.int .i64 l[j].ri)):=by
 have hw:=h;rcases h.2 with⟨rfl,h0⟩|⟨g,cap,cur,rfl,_,_,hn,hm,_,_⟩
 .have:l=[]:=eq_nil_of_length_eq_zero h0;subst this;exact⟨_,_,rfl,by omega,by simp,λh=>absurd rfl h⟩
 .refine⟨_,_,rfl,by unfold maxLen at hm;omega,hn,λ_=>⟨g,rfl,(hw.lt g rfl).2,λj hj=>?_⟩⟩;have hg:=Xp hj;exact⟨(hw.cellAt _ (by omega)).trans hg.1,(hw.cellAt _ (by omega)).trans hg.2.1,(hw.cellAt _ (by omega)).trans hg.2.2.1,(hw.cellAt _ (by omega)).trans hg.2.2.2.1,(hw.cellAt _ (by omega)).trans hg.2.2.2.2⟩
def lU(l:List Nat):List Value:=l.map (λn:Nat=>Value.int .i64 (n:Int))
theorem cg(l:List Nat):(lU l).length=l.length:=by simp[lU]
theorem lV{l:List Nat}{j:Nat}(h:j<l.length):(lU l)[j]?=some (.int .i64 ((l.getD j 0:Nat):Int)):=by simp[lU,h]
theorem za(l:List Nat)(j n:Nat):(lU l).set j (.int .i64 (n:Int))=lU (l.set j n):=by simp[lU,map_set]
def rgK(k:Nat):List Nat:=range k++replicate (13-k) 0
theorem TW{k:Nat}(h:k<13):(rgK k).set k k=rgK (k+1):=by
 unfold rgK;rw[set_append_right _ _ (by simp),length_range,Nat.sub_self,show 13-k=(13-(k+1))+1 by omega,replicate_succ,set_cons_zero,range_succ,append_assoc];rfl
def Kp(f:Nat->Nat)(c:List Nat)(j:Nat):List Nat:=(c.map f).take j++c.drop j
theorem Tw(f:Nat->Nat)(c:List Nat)(j:Nat):(Kp f c j).length=c.length:=by
 unfold Kp;rw[length_append,length_take,length_map,length_drop];omega
theorem N3(f:Nat->Nat){c:List Nat}{j:Nat}(h:j<c.length):(Kp f c j).getD j 0=c.getD j 0:=by
 unfold Kp;have e:((c.map f).take j).length=j:=by rw[length_take,length_map];omega
 simp only[getD_eq_getElem?_getD];rw[getElem?_append_right (by omega),e,Nat.sub_self,getElem?_drop,Nat.add_zero]
theorem GV(f:Nat->Nat){c:List Nat}{j:Nat}(h:j<c.length):(Kp f c j).set j (f (c.getD j 0))=Kp f c (j+1):=by
 unfold Kp;have e:((c.map f).take j).length=j:=by rw[length_take,length_map];omega
 have hm:j<(c.map f).length:=by simpa using h
 rw[set_append_right _ _ (by omega),e,Nat.sub_self,drop_eq_getElem_cons h,set_cons_zero,take_succ_eq_append_getElem hm,append_assoc];simp[h]
theorem N4(f:Nat->Nat){c:List Nat}{j:Nat}(h:j<c.length)(hf:f (c.getD j 0)=c.getD j 0):Kp f c (j+1)=Kp f c j:=by
 rw[<-GV f h,hf,<-N3 f h,iK]
theorem info13:(prog.info? 236).map (·.size)=some 13:=by kernel_rfl
theorem JE{w:World}{B:Nat}{av:Value}{al:List bt}(h:w.ownsRow B 239 5 av al.length (bh al))(ht:ij al)(mG:al.length<=1000)(hb:∀a∈al,a.lk<=2/\a.rk<=2/\a.li<=100/\a.ri<=100):
  Calls prog 151 #[av] w λe w'=>e=.returned (.agg (lU (iY al)).toArray)/\Below w.heap.size w w':=by
 obtain⟨ao,cap,eS,iw,fs,aq⟩:=lI h;have HC:=ab aq;rw[eS];clear h aq eS;go_enter func151,ntmps151;go_wp2_with fail
 obtain⟨w0,fS⟩:∃w0,w0=((w.alloc (Obj.cells #[Value.int IntKind.i64 0,Value.int IntKind.i64 0,Value.int IntKind.i64 0,Value.int IntKind.i64 0,Value.int IntKind.i64 0,Value.int IntKind.i64 0,Value.int IntKind.i64 0,Value.int IntKind.i64 0,Value.int IntKind.i64 0,Value.int IntKind.i64 0,Value.int IntKind.i64 0,Value.int IntKind.i64 0,Value.int IntKind.i64 0] 236)).alloc (Obj.cells #[Value.int IntKind.i64 0,Value.int IntKind.i64 0,Value.int IntKind.i64 0,Value.int IntKind.i64 0,Value.int IntKind.i64 0,Value.int IntKind.i64 0,Value.int IntKind.i64 0,Value.int IntKind.i64 0,Value.int IntKind.i64 0,Value.int IntKind.i64 0,Value.int IntKind.i64 0,Value.int IntKind.i64 0,Value.int IntKind.i64 0] 236)):=⟨_,rfl⟩;rw[<-fS];have zU:Ob w0 236 13 w.heap.size (lU (replicate 13 0)):=by
  rw[fS];exact Ob.alloc (ownsRow_lit (base:=0) (e:=236) (size:=13) w #[Value.int IntKind.i64 0,Value.int IntKind.i64 0,Value.int IntKind.i64 0,Value.int IntKind.i64 0,Value.int IntKind.i64 0,Value.int IntKind.i64 0,Value.int IntKind.i64 0,Value.int IntKind.i64 0,Value.int IntKind.i64 0,Value.int IntKind.i64 0,Value.int IntKind.i64 0,Value.int IntKind.i64 0,Value.int IntKind.i64 0] 1 (zq5 _) (by simp[maxLen]) rfl) _
 have Vs:Ob w0 236 13 (w.heap.size+1) (lU (rgK 0)):=by
  have h1:=ownsRow_lit (base:=0) (e:=236) (size:=13) (w.alloc (Obj.cells #[Value.int IntKind.i64 0,Value.int IntKind.i64 0,Value.int IntKind.i64 0,Value.int IntKind.i64 0,Value.int IntKind.i64 0,Value.int IntKind.i64 0,Value.int IntKind.i64 0,Value.int IntKind.i64 0,Value.int IntKind.i64 0,Value.int IntKind.i64 0,Value.int IntKind.i64 0,Value.int IntKind.i64 0,Value.int IntKind.i64 0] 236)) #[Value.int IntKind.i64 0,Value.int IntKind.i64 0,Value.int IntKind.i64 0,Value.int IntKind.i64 0,Value.int IntKind.i64 0,Value.int IntKind.i64 0,Value.int IntKind.i64 0,Value.int IntKind.i64 0,Value.int IntKind.i64 0,Value.int IntKind.i64 0,Value.int IntKind.i64 0,Value.int IntKind.i64 0,Value.int IntKind.i64 0] 1 (zq5 _) (by simp[maxLen]) rfl;have e:(w.alloc (Obj.cells #[Value.int IntKind.i64 0,Value.int IntKind.i64 0,Value.int IntKind.i64 0,Value.int IntKind.i64 0,Value.int IntKind.i64 0,Value.int IntKind.i64 0,Value.int IntKind.i64 0,Value.int IntKind.i64 0,Value.int IntKind.i64 0,Value.int IntKind.i64 0,Value.int IntKind.i64 0,Value.int IntKind.i64 0,Value.int IntKind.i64 0] 236)).heap.size=w.heap.size+1:=by simp
  rw[e]at h1;rw[fS];exact h1
 have hB0:Below w.heap.size w w0:=by rw[fS];exact((Below.refl _ _).alloc (zq4 _) _).alloc (by simp) _
 obtain⟨R,hR⟩:∃R,R=w.heap.size:=⟨_,rfl⟩;obtain⟨C,hC⟩:∃C,C=w.heap.size+1:=⟨_,rfl⟩;rw[<-hR]at zU;rw[<-hC]at Vs ⊢;rw[<-hR];have hRC:R≠C:=by omega
 have Yf:w.heap.size<=R:=by omega
 have hCB:w.heap.size<=C:=by omega
 clear fS hR hC;go_loopw [4] (λi wr=>∃k:Nat,k<=13/\i=.int .i64 k/\Hid (Ob wr 236 13 C (lU (rgK k)))/\Hid (Ob wr 236 13 R (lU (replicate 13 0)))/\Hid (Below w.heap.size w wr)) (λi _=>13-(intOf i).toNat)
 case atStart=>exact⟨0,zq5 _,rfl,ab Vs,ab zU,ab hB0⟩
 case round =>
  obtain⟨k,hk,rfl,CM,wO,nV⟩:=hrel;by_cases ar:k<13
  .have hd:decide ((k:Int)<13)=true:=(by simp;omega);obtain⟨⟨u,hu⟩,hz⟩:=(uh CM).some (j:=k) ar;have Mu:=(uh CM).set k (.int .i64 (k:Int));rw[za,TW ar]at Mu;have HC2:=ab Mu;have vZ:=ab ((uh wO).of_eq (w':=wr.setCell ⟨C,k,none⟩ (.int .i64 (k:Int))) (heap_setCell _ _ _ _ hRC));have bu:=ab ((uh nV).setCell (p:=⟨C,k,none⟩) hCB (.int .i64 (k:Int)));clear Mu;go_wp2_with fail
   go_roundw
   case rel=>exact⟨k+1,by omega,by go_num,HC2,vZ,bu⟩
   case measure=>simp[intOf];omega
  .have hd:decide ((k:Int)<13)=false:=(by simp;omega);have ajI:k=13:=(by omega);subst ajI;clear Vs zU hB0;go_wp2_with fail
   go_loopg [19] al.length (λgn i wr=>∃k:Nat,k+gn=al.length/\i=.int .i64 k/\Hid (Ob wr 236 13 C (lU ((al.take k).foldl iG (range 13))))/\Hid (Ob wr 236 13 R (lU (replicate 13 0)))/\Hid (Below w.heap.size w wr))
   case atStart=>exact⟨0,by omega,rfl,CM,wO,nV⟩
   case round =>
    obtain⟨k,hk,rfl,CM,wO,nV⟩:=hrel;by_cases ar:k<al.length
    .have gx:decide ((k:Int)<(al.length:Int))=true:=(by simp;omega);obtain⟨g,jm,gE,aq⟩:=uh HC (by intro h;rw[h]at ar;simp at ar);subst jm;obtain⟨x0,x1,x2,x3,x4⟩:=aq k ar;obtain⟨a,ha⟩:∃a,a=al[k]:=⟨_,rfl⟩;have pq:=ht _ (getElem_mem ar);have CR:=hb _ (getElem_mem ar);rw[<-ha]at x0 x1 x2 x3 x4 pq CR;have c0:=((uh nV).cell (block_lt_of_cell? w _ x0)).trans x0;have c1:=((uh nV).cell (block_lt_of_cell? w _ x1)).trans x1;have c2:=((uh nV).cell (block_lt_of_cell? w _ x2)).trans x2;have c3:=((uh nV).cell (block_lt_of_cell? w _ x3)).trans x3;have c4:=((uh nV).cell (block_lt_of_cell? w _ x4)).trans x4;clear aq x0 x1 x2 x3 x4;obtain⟨c,hc⟩:∃c,c=(al.take k).foldl iG (range 13):=⟨_,rfl⟩;rw[<-hc]at CM;have de:c.length=13:=by
      rw[hc];exact(y7 (al.take k) _ (λb hb=>ht b (mem_of_mem_take hb)) (by simp) (λi hi=>by rw[rW i hi];exact hi)).1
     have fh:(al.take (k+1)).foldl iG (range 13)=iG c a:=by
      rw[take_succ_eq_append_getElem ar,foldl_append,<-hc,ha];rfl
     have bA:=ab fh;have HCc:=ab hc;have HA:=ab ha
     -- behind the copy of the atom
     have DM:=(uh nV).alloc (uh nV).size (.cells #[Value.int .i64 a.k,.int .i64 a.lk,.int .i64 a.li,.int .i64 a.rk,.int .i64 a.ri] 239);have Mu:=(uh CM).alloc (.cells #[Value.int .i64 a.k,.int .i64 a.lk,.int .i64 a.li,.int .i64 a.rk,.int .i64 a.ri] 239);have hR2:=(uh wO).alloc (.cells #[Value.int .i64 a.k,.int .i64 a.lk,.int .i64 a.li,.int .i64 a.rk,.int .i64 a.ri] 239);have gQ:=λj=>cell_of_row (wr.alloc (.cells #[Value.int .i64 a.k,.int .i64 a.lk,.int .i64 a.li,.int .i64 a.rk,.int .i64 a.ri] 239)) wr.heap.size j #[Value.int .i64 a.k,.int .i64 a.lk,.int .i64 a.li,.int .i64 a.rk,.int .i64 a.ri] 239 (0,0) (heap_alloc_new wr _);have n0:=gQ 0;have n1:=gQ 1;have n2:=gQ 2;have n3:=gQ 3;have n4:=gQ 4;simp only[getElem?_toArray,getElem?_cons_zero,getElem?_cons_succ]at n0 n1 n2 n3 n4;have bu:=ab DM;have HC2:=ab Mu;have vZ:=ab hR2;clear DM Mu hR2 gQ fh hc ha CM wO nV;by_cases I8:a.k=1
     .have aM:((a.k:Int) != 1)=false:=(by simp;omega);have Fk:=ab (j6 a.lk a.li CR.1 (by omega) (wr.alloc (.cells #[Value.int .i64 a.k,.int .i64 a.lk,.int .i64 a.li,.int .i64 a.rk,.int .i64 a.ri] 239)));have HK1:=ab I8;clear I8;go_wp2_with fail
      refine(uh Fk).mono ?_;rintro e w1 ⟨rfl,aO⟩;have YP:ut a.lk a.li<13:=pq.1;have bf:ut a.rk a.ri<13:=pq.2;obtain⟨t1,vH⟩:∃t1,t1=ut a.lk a.li:=⟨_,rfl⟩;obtain⟨t2,Jo⟩:∃t2,t2=ut a.rk a.ri:=⟨_,rfl⟩;rw[<-vH]at YP ⊢;rw[<-Jo]at bf;have hC3:=(uh HC2).of_eq (aO.block C (ownsRow.lt (uh HC2) _ rfl).2);have hR3:=(uh vZ).of_eq (aO.block R (ownsRow.lt (uh vZ) _ rfl).2);have DN:Below w.heap.size w w1:=(uh bu).trans (aO.mono (uh bu).size);have d1:=(ownsRow.cellAt hC3 t1 (by omega)).trans (lV (l:=c) (by omega));have m3:=(aO.cell (block_lt_of_cell? _ _ n3)).trans n3;have m4:=(aO.cell (block_lt_of_cell? _ _ n4)).trans n4;obtain⟨kept,Ne⟩:∃kept,kept=c.getD t1 0:=⟨_,rfl⟩;rw[<-Ne]at d1;have vX:=ab (j6 a.rk a.ri CR.2.1 (by omega) w1);have HC3:=ab hC3;have CD:=ab hR3;have mN:=ab DN;have v7:=ab vH;have mz:=ab Jo;have HKe:=ab Ne;clear hC3 hR3 DN aO vH Ne n0 n1 n2 n3 n4;go_wp2_with fail
      refine(uh vX).mono ?_;rintro e w2 ⟨rfl,ax⟩;rw[<-Jo];have hC4:=(uh HC3).of_eq (ax.block C (ownsRow.lt (uh HC3) _ rfl).2);have hR4:=(uh CD).of_eq (ax.block R (ownsRow.lt (uh CD) _ rfl).2);have hB4:Below w.heap.size w w2:=(uh mN).trans (ax.mono (uh mN).size);have d2:=(ownsRow.cellAt hC4 t2 (by omega)).trans (lV (l:=c) (by omega));obtain⟨gone,Gk⟩:∃gone,gone=c.getD t2 0:=⟨_,rfl⟩;rw[<-Gk]at d2;have HC4:=ab hC4;have PU:=ab hR4;have uY:=ab hB4;have HGo:=ab Gk;have HMr:Hid (iG c a=c.map (λx=>if x=gone then kept else x)):=ab (by
       unfold iG;rw[if_pos (uh HK1),<-uh v7,<-Jo,<-Gk,<-uh HKe])
      clear hC4 hR4 hB4 ax Gk Jo d1;go_wp2_with fail
      go_loopw [9] (λi wr=>∃j:Nat,j<=13/\i=.int .i64 j/\Hid (Ob wr 236 13 C (lU (Kp (λx=>if x=gone then kept else x) c j)))/\Hid (Ob wr 236 13 R (lU (replicate 13 0)))/\Hid (Below w.heap.size w wr)) (λi _=>13-(intOf i).toNat)
      case atStart=>exact⟨0,zq5 _,rfl,HC4,PU,uY⟩
      case round =>
       obtain⟨j,hj,rfl,hC5,hR5,vp⟩:=hrel;by_cases eh:j<13
       .have DX:decide ((j:Int)<13)=true:=(by simp;omega);have hjc:j<c.length:=(by omega);have hcj:=(ownsRow.cellAt (uh hC5) j (by omega)).trans (lV (by rw[Tw];omega));rw[N3 _ hjc]at hcj;have hzj:=ownsRow.frozenAt (uh hC5) j;obtain⟨x,hx⟩:∃x,x=c.getD j 0:=⟨_,rfl⟩;rw[<-hx]at hcj;have WS:=ab (GV (λx=>if x=gone then kept else x) hjc);have HKp:=ab (N4 (λx=>if x=gone then kept else x) hjc);rw[<-hx]at WS HKp;by_cases hxg:x=gone
        .have he:((x:Int)==(gone:Int))=true:=(by rw[aU];simpa using hxg);have hC6:=(uh hC5).set j (.int .i64 (kept:Int));have qu:=uh WS;rw[if_pos hxg]at qu;rw[za,qu]at hC6;clear qu;have HC6:=ab hC6;have QL:=ab ((uh hR5).of_eq (w':=wr.setCell ⟨C,j,none⟩ (.int .i64 (kept:Int))) (heap_setCell _ _ _ _ hRC));have mO:=ab ((uh vp).setCell (p:=⟨C,j,none⟩) hCB (.int .i64 (kept:Int)));clear hC6 hxg hx;go_wp2_with fail
         go_roundw
         case rel=>exact⟨j+1,by omega,by go_num,HC6,QL,mO⟩
         case measure=>simp[intOf];omega
        .have he:((x:Int)==(gone:Int))=false:=(by rw[aU];simpa using hxg);have Bu:=uh HKp (if_neg hxg);have HC6:=hC5;rw[<-Bu]at HC6;clear Bu hxg hx;go_wp2_with fail
         go_roundw
         case rel=>exact⟨j+1,by omega,by go_num,HC6,hR5,vp⟩
         case measure=>simp[intOf];omega
       .have DX:decide ((j:Int)<13)=false:=(by simp;omega);have ajB:j=13:=(by omega);subst ajB;have Bg:Kp (λx=>if x=gone then kept else x) c 13=iG c a:=by
         unfold Kp;rw[uh HMr,drop_of_length_le (by omega),append_nil,take_of_length_le (by simp;omega)]
        rw[Bg]at hC5;clear Bg;go_wp2_with fail
        go_roundg (gk-1)
        case rel=>exact⟨k+1,by omega,by go_num,ab (by rw[uh bA];exact uh hC5),hR5,vp⟩
        case measure=>omega
     .have aM:((a.k:Int) != 1)=true:=(by rw[bne_iff_ne];omega);have HMr:Hid (iG c a=c):=ab (by unfold iG;rw[if_neg I8]);clear I8;go_wp2_with fail
      go_roundg (gk-1)
      case rel=>exact⟨k+1,by omega,by go_num,ab (by rw[uh bA,uh HMr];exact uh HC2),vZ,bu⟩
      case measure=>omega
    .have gx:decide ((k:Int)<(al.length:Int))=false:=(by simp;omega);have gy:k=al.length:=(by omega);subst gy;rw[take_length]at CM;have dl:(iY al).length=13:=y9 ht;have Mt:Ob wr 236 13 C (lU (iY al)):=uh CM;have Si:wr.rangeAt C 0 (lU (iY al)):=by
      intro j v hj;have eh:=(List.getElem?_eq_some_iff.1 hj).1;rw[cg,dl]at eh;rw[Nat.zero_add,ownsRow.cellAt Mt j (by omega)];exact hj
     have qO:wr.there R 0 (lU (iY al)).toArray.size:=by
      intro j hj;rw[size_toArray,cg,dl]at hj;obtain⟨⟨u,hu⟩,hz⟩:=(uh wO).some (j:=j) hj;rw[Nat.zero_add];exact⟨by rw[hu];rfl,hz⟩
     have cV:(prog.info? 236).map (·.size)=some (lU (iY al)).length:=(by rw[cg,dl];exact info13);have bT:(prog.info? 236).map (·.size)=some (lU (iY al)).toArray.size:=(by rw[size_toArray,cg,dl];exact info13);have hO:(lU (iY al)).toArray.all (·.oneCell')=true:=all_oneCell_toArray (by
      intro v hv;obtain⟨o,_,rfl⟩:=mem_map.1 hv;rfl)
     have sZ:=Ob.setCells (lU (iY al)) 0 (uh wO);have Bv:=lC (lU (iY al)) [] (lU (replicate 13 0)) [] (by rw[cg,cg,dl];rfl);simp only[nil_append,append_nil,length_nil]at Bv;rw[Bv]at sZ;have vp:∀(vs:List Value) (o:Nat) (x:World),Below w.heap.size w x->Below w.heap.size w (x.setCells R o vs):=by
      intro vs;induction vs with
      |nil=>intro o x h;exact h
      |cons v r ih=>intro o x h;exact ih (o+1) _ (h.setCell Yf v)
     have gH:=ab (vp (lU (iY al)) 0 wr (uh nV));obtain⟨M,hM⟩:∃M,M=lU (iY al):=⟨_,rfl⟩;rw[<-hM]at Si qO cV bT hO sZ gH;have HM:=ab hM;have HRg:=ab Si;have rl:=ab qO;have dy:=ab cV;have db:=ab bT;have HO:=ab hO;have Ih:=ab sZ;clear Si qO cV bT hO sZ Bv vp hM Mt CM wO nV;go_wp2_with (first|refine wpList_load_mid rfl 236 (.tmp 3) rfl C 0 rfl M _ (uh HRg) underlying236 rfl (uh dy) ?_|refine wpList_store_mid rfl 236 (.tmp 2) (.tmp 49) rfl R 0 M.toArray rfl rfl (uh rl) (uh db) (uh HO) ?_)
     have Nx:(wr.setCells R 0 M).rangeAt R 0 M:=by
      intro j v hj;have eh:=(List.getElem?_eq_some_iff.1 hj).1;rw[uh HM,cg,dl]at eh;rw[Nat.zero_add,ownsRow.cellAt (uh Ih) j (by omega)];exact hj
     have hld:=run_loadVar_mid (P:=prog) (wr.setCells R 0 M) R 0 236 M _ Nx underlying236 rfl (uh dy);refine bodyPost_ret (v:=.agg M.toArray) ?_ rfl ⟨by rw[uh HM],uh gH⟩;simp[results,Tryz.results151,Act.put,asAddr,hld]
def cK(l:List Bool):List Value:=l.map Value.bool
theorem eC{l:List Bool}{j:Nat}(h:j<l.length):(cK l)[j]?=some (.bool (l.getD j false)):=by simp[cK,h]
theorem jT(l:List Bool)(j:Nat)(b:Bool):(cK l).set j (.bool b)=cK (l.set j b):=by simp[cK,map_set]
def eu(bl:List Bool)(seen:List Nat):Prop:=bl.length=24/\∀c,c<24->(bl.getD c false=true↔c∈seen)
theorem eu.add{bl:List Bool}{seen:List Nat}(h:eu bl seen){c:Nat}(hc:c<24):eu (bl.set c true) (c::seen):=by
 refine⟨by simpa using h.1,λd hd=>?_⟩;rw[bS _ _ _ _ _ (by rw[h.1];exact hc),mem_cons];by_cases e:c=d
 .rw[if_pos e];simp[e]
 .rw[if_neg e,h.2 d hd];exact⟨zq1,λh=>h.resolve_left (λh=>e h.symm)⟩
theorem L4{f:CF}{k:Nat}(hk:k<f.ap.length)(h:f.ap[k].l=f.ap[k].r):je f=true:=by
 unfold je;have:f.ap.any (λp=>p.l==p.r)=true:=any_eq_true.2 ⟨_,getElem_mem hk,by simpa using h⟩;rw[this];rfl
theorem DD{f:CF}(h:∀j,(hj:j<f.ap.length)->f.ap[j].l≠f.ap[j].r):je f=qL [f.cl.getD 0 0] f.ow:=by
 unfold je;have:f.ap.any (λp=>p.l==p.r)=false:=by
  rw[any_eq_false];intro p hp;obtain⟨j,hj,rfl⟩:=mem_iff_getElem.1 hp;simpa using h j hj
 rw[this];rfl
theorem IC{w:World}{A:Nat}{f:CF}{av ov:Value}(h:dm w A f av ov)(hR:Rm f)(h0:f.cl.getD 0 0<24):
  Calls prog 115 #[.pointer (some ⟨A,0,none⟩)] w λe w'=>e=.returned (.bool (je f))/\Below w.heap.size w w':=by
 obtain⟨ao,cap,eS,hm',wV,hc⟩:=bn h.ap;have hm:cap<=9223372036854775807:=by unfold maxLen at hm';omega
 have h5:=h.c5;rw[eS]at h5;have HC:=ab hc;have HF:=ab h;clear hc eS h hm';go_enter func115,ntmps115;go_wp2_with fail
 go_loopw [13] (λi wr=>∃k:Nat,k<=f.ap.length/\i=.int .i64 k/\Hid (∀j,(hj:j<f.ap.length)->j<k->f.ap[j].l≠f.ap[j].r)/\Hid (Below w.heap.size w wr)) (λi _=>f.ap.length-(intOf i).toNat)
 case atStart=>exact⟨0,zq5 _,rfl,λ_ _ h=>absurd h (by omega),ab (Below.refl _ _)⟩
 case round =>
  obtain⟨k,hk,rfl,cP,bP⟩:=hrel;by_cases ar:k<f.ap.length
  .obtain⟨g,jm,aq⟩:=uh HC (by intro h;rw[h]at ar;simp at ar);subst jm;obtain⟨Aa,rK,vI⟩:=aq k ar;have c0:=((uh bP).cell (block_lt_of_cell? w _ Aa)).trans Aa;have c1:=((uh bP).cell (block_lt_of_cell? w _ rK)).trans rK;have c2:=((uh bP).cell (block_lt_of_cell? w _ vI)).trans vI;clear aq Aa rK vI;obtain⟨p,hp⟩:∃p,p=f.ap[k]:=⟨_,rfl⟩;rw[<-hp]at c0 c1 c2;have HP:=ab hp;have PM:=ab ((uh bP).alloc (uh bP).size (.cells #[Value.int .i64 p.k,.int .i64 p.l,.int .i64 p.r] 182));obtain⟨-,n1,n2⟩:=EE wr (Value.int .i64 p.k) (.int .i64 p.l) (.int .i64 p.r) 182;clear hp;by_cases mH:p.l=p.r
   .have he:((p.l:Int)==(p.r:Int))=true:=(by rw[aU];simpa using mH);have HE:Hid (je f=true):=ab (L4 ar (by rw[<-uh HP];exact mH));clear mH;go_wp2_with fail
    go_ret;exact⟨by rw[uh HE];rfl,uh PM⟩
   .have he:((p.l:Int)==(p.r:Int))=false:=(by rw[aU];simpa using mH);have HLR:=ab mH;clear mH;go_wp2_with fail
    go_roundw
    case rel =>
     refine⟨k+1,by omega,by go_num,ab (λj hj CU=>?_),PM⟩;by_cases e:j=k
     .subst e;rw[<-uh HP];exact uh HLR
     .exact cP.out j hj (by omega)
    case measure=>simp[intOf];omega
  .have hd:decide ((k:Int)<(f.ap.length:Int))=false:=(by simp;omega);have HE:Hid (je f=qL [f.cl.getD 0 0] f.ow):=ab (DD (λj hj=>cP.out j hj (by omega)));have R8:=(uh HF).of_eq (λk hk=>(uh bP).block k ((uh HF).lt k hk));have h0r:=(R8.alloc (Obj.cells #[Value.bool false,Value.bool false,Value.bool false,Value.bool false,Value.bool false,Value.bool false,Value.bool false,Value.bool false,Value.bool false,Value.bool false,Value.bool false,Value.bool false,Value.bool false,Value.bool false,Value.bool false,Value.bool false,Value.bool false,Value.bool false,Value.bool false,Value.bool false,Value.bool false,Value.bool false,Value.bool false,Value.bool false] 240)).cls (i:=0) (by omega);unfold eR at h0r;obtain⟨c0,rI⟩:∃c0,c0=f.cl.getD 0 0:=⟨_,rfl⟩;rw[<-rI]at h0r h0 HE;have RY:Ob (wr.alloc (Obj.cells #[Value.bool false,Value.bool false,Value.bool false,Value.bool false,Value.bool false,Value.bool false,Value.bool false,Value.bool false,Value.bool false,Value.bool false,Value.bool false,Value.bool false,Value.bool false,Value.bool false,Value.bool false,Value.bool false,Value.bool false,Value.bool false,Value.bool false,Value.bool false,Value.bool false,Value.bool false,Value.bool false,Value.bool false] 240)) 240 24 wr.heap.size (cK (replicate 24 false)):=by
    exact ownsRow_lit (base:=0) (e:=240) (size:=24) wr (cK (replicate 24 false)).toArray 1 (zq5 _) (by simp[maxLen]) rfl
   obtain⟨⟨u0,El⟩,dG⟩:=RY.some (j:=c0) h0;have Mv:Ob (wr.alloc (Obj.cells ([Value.bool false,Value.bool false,Value.bool false,Value.bool false,Value.bool false,Value.bool false,Value.bool false,Value.bool false,Value.bool false,Value.bool false,Value.bool false,Value.bool false,Value.bool false,Value.bool false,Value.bool false,Value.bool false,Value.bool false,Value.bool false,Value.bool false,Value.bool false,Value.bool false,Value.bool false,Value.bool false,Value.bool false].set c0 (Value.bool true)).toArray 240)) 240 24 wr.heap.size (cK ((replicate 24 false).set c0 true)):=by
    have h1:=ownsRow_lit (base:=0) (e:=240) (size:=24) wr ([Value.bool false,Value.bool false,Value.bool false,Value.bool false,Value.bool false,Value.bool false,Value.bool false,Value.bool false,Value.bool false,Value.bool false,Value.bool false,Value.bool false,Value.bool false,Value.bool false,Value.bool false,Value.bool false,Value.bool false,Value.bool false,Value.bool false,Value.bool false,Value.bool false,Value.bool false,Value.bool false,Value.bool false].set c0 (Value.bool true)).toArray 1 (zq5 _) (by simp[maxLen]) (by simp);rw[<-jT];exact h1
   have SZ:eu ((replicate 24 false).set c0 true) [c0]:=by
    refine eu.add (seen:=[]) ⟨by simp,λc hc=>?_⟩ h0;rw[getD_eq_getElem?_getD,getElem?_replicate,if_pos hc];simp
   have nV:Below w.heap.size w (wr.alloc (Obj.cells ([Value.bool false,Value.bool false,Value.bool false,Value.bool false,Value.bool false,Value.bool false,Value.bool false,Value.bool false,Value.bool false,Value.bool false,Value.bool false,Value.bool false,Value.bool false,Value.bool false,Value.bool false,Value.bool false,Value.bool false,Value.bool false,Value.bool false,Value.bool false,Value.bool false,Value.bool false,Value.bool false,Value.bool false].set c0 (Value.bool true)).toArray 240)):=(uh bP).alloc (uh bP).size _;have iT:=(uh HF).of_eq (λk hk=>nV.block k ((uh HF).lt k hk));have h6:=iT.c6;obtain⟨oo,ocap,dB,aet,hon,hoc⟩:=bn (uh HF).ow;have hom:ocap<=9223372036854775807:=(by unfold maxLen at aet;omega);rw[dB]at h6;have HOC:=ab hoc;have Qz:=ab Mv;have HSn:=ab SZ;have cY:=ab nV;obtain⟨D,hD⟩:∃D,D=wr.heap.size:=⟨_,rfl⟩;have hDB:w.heap.size<=D:=(by rw[hD];exact(uh bP).size);have Cy:=ab hD;have HC0:=ab rI;clear R8 RY Mv SZ nV iT dB hoc aet hD rI;go_wp2_with fail
   obtain⟨w1,qx⟩:∃w1,w1=wr.alloc (Obj.cells ([Value.bool false,Value.bool false,Value.bool false,Value.bool false,Value.bool false,Value.bool false,Value.bool false,Value.bool false,Value.bool false,Value.bool false,Value.bool false,Value.bool false,Value.bool false,Value.bool false,Value.bool false,Value.bool false,Value.bool false,Value.bool false,Value.bool false,Value.bool false,Value.bool false,Value.bool false,Value.bool false,Value.bool false].set c0 (Value.bool true)).toArray 240):=⟨_,rfl⟩;rw[<-qx]at h6 Qz cY ⊢;rw[<-uh Cy]at Qz ⊢;clear qx h0r El dG;go_loopw [34] (λi wr=>∃(k:Nat) (bl:List Bool) (seen:List Nat),k<=f.ow.length/\i=.int .i64 k/\Hid (Ob wr 240 24 D (cK bl))/\Hid (eu bl seen)/\Hid (qL seen (f.ow.drop k)=je f)/\Hid (Below w.heap.size w wr)) (λi _=>f.ow.length-(intOf i).toNat)
   case atStart=>exact⟨0,_,[c0],zq5 _,rfl,Qz,HSn,ab (uh HE).symm,cY⟩
   case round =>
    obtain⟨k,bl,seen,hk,rfl,hD2,SZ,hdu,IZ⟩:=hrel;by_cases bf:k<f.ow.length
    .obtain⟨g,qW,aq⟩:=uh HOC (by intro h;rw[h]at bf;simp at bf);subst qW;obtain⟨Aa,rK,vI⟩:=aq k bf;have c0':=((uh IZ).cell (block_lt_of_cell? w _ Aa)).trans Aa;have c1:=((uh IZ).cell (block_lt_of_cell? w _ rK)).trans rK;have c2:=((uh IZ).cell (block_lt_of_cell? w _ vI)).trans vI;clear aq Aa rK vI;obtain⟨er,-⟩:=hR _ (getElem_mem bf);obtain⟨p,hp⟩:∃p,p=f.ow[k]:=⟨_,rfl⟩;rw[<-hp]at c0' c1 c2 er;have fh:qL seen (f.ow.drop k)=if p.l∈seen then true else qL (p.l::seen) (f.ow.drop (k+1)):=by
      rw[drop_eq_getElem_cons bf,<-hp];rfl
     rw[uh hdu]at fh;obtain⟨-,n1,n2⟩:=EE wr (Value.int .i64 p.k) (.int .i64 p.l) (.int .i64 p.r) 182;have IK:=(uh hD2).alloc (.cells #[Value.int .i64 p.k,.int .i64 p.l,.int .i64 p.r] 182);have hdl:bl.length=24:=(uh SZ).1;have d1:=(ownsRow.cellAt IK p.l (by omega)).trans (eC (l:=bl) (by omega));have z1:=ownsRow.frozenAt IK p.l;obtain⟨sb,zZ⟩:∃sb,sb=bl.getD p.l false:=⟨_,rfl⟩;rw[<-zZ]at d1;have D6:=(uh SZ).2 p.l er;rw[<-zZ]at D6;have mN:=ab ((uh IZ).alloc (uh IZ).size (.cells #[Value.int .i64 p.k,.int .i64 p.l,.int .i64 p.r] 182));have UP:=ab (IK.set p.l (.bool true));rw[jT]at UP;have ahZ:=ab ((uh SZ).add er);have HSt:=ab fh;have HIf:=ab D6;clear hp fh IK zZ D6 hD2 SZ hdu;cases sb with
     |true =>
      have si:Hid (je f=true):=ab (by rw[uh HSt,if_pos ((uh HIf).1 rfl)]);go_wp2_with fail
      go_ret;exact⟨by rw[uh si];rfl,uh mN⟩
     |false =>
      have WS:Hid (qL (p.l::seen) (f.ow.drop (k+1))=je f):=ab (by
       rw[uh HSt,if_neg (λh=>by have:=(uh HIf).2 h;cases this)])
      have uY:=ab ((uh mN).setCell (p:=⟨D,p.l,none⟩) hDB (.bool true));go_wp2_with fail
      go_roundw
      case rel=>exact⟨k+1,_,p.l::seen,by omega,by go_num,UP,ahZ,WS,uY⟩
      case measure=>simp[intOf];omega
    .have gx:decide ((k:Int)<(f.ow.length:Int))=false:=(by simp;omega);have si:Hid (je f=false):=ab (by rw[<-uh hdu,drop_of_length_le (by omega)];rfl);go_wp2_with fail
     go_ret;exact⟨by rw[uh si];rfl,uh IZ⟩
def Bk(w:World)(A:Nat)(T:TypeId)(xs:List Value):Prop:=w.heap[A]?=some (.cells xs.toArray T (0,0))
section
variable {w w':World} {A T:Nat} {xs:List Value}
theorem Bk.lt(h:Bk w A T xs):A<w.heap.size:=(Array.getElem?_eq_some_iff.1 h).1
theorem Bk.of_eq(h:Bk w A T xs)(he:w'.heap[A]?=w.heap[A]?):Bk w' A T xs:=he.trans h
theorem Bk.cell(h:Bk w A T xs)(j:Nat){u:Value}(hj:xs[j]?=some u):w.cell? ⟨A,j,none⟩=some u:=by
 rw[cell_of_row w A j xs.toArray T (0,0) h];simpa using hj
theorem Bk.frz(h:Bk w A T xs)(j:Nat):w.frozen? ⟨A,j,none⟩=false:=frozen_of_row w A j xs.toArray T h
theorem Bk.set(h:Bk w A T xs)(j:Nat)(u:Value):Bk (w.setCell ⟨A,j,none⟩ u) A T (xs.set j u):=by
 have:=heap_setCell_same w A j xs.toArray T u h;unfold Bk;rw[this];simp
theorem Bk.new(w:World)(T:TypeId)(xs:List Value):Bk (w.alloc (.cells xs.toArray T)) w.heap.size T xs:=heap_alloc_new w _
theorem Bk.alloc(h:Bk w A T xs)(o:Obj):Bk (w.alloc o) A T xs:=h.of_eq (heap_alloc _ _ _ h.lt)
theorem Bk.below(h:Bk w A T xs)(hb:Below w.heap.size w w'):Bk w' A T xs:=h.of_eq (hb.block _ h.lt)
theorem Bk.stp{F F':List Nat}(h:Bk w A T xs)(hs:am F w F' w')(hA:A ∉ F):Bk w' A T xs:=h.of_eq (hs.block _ h.lt hA)
theorem Bk.setO(h:Bk w A T xs){p:Addr}(hp:p.block≠A)(u:Value):Bk (w.setCell p u) A T xs:=h.of_eq (heap_setCell _ _ _ _ (λe=>hp e.symm))
end
section
variable {w w':World} {B e sz n:Nat} {v:Value} {xs:List Value}
theorem iZ{F F':List Nat}(h:w.ownsRow B e sz v n xs)(hs:am F w F' w')(hA:∀k,v.ownBlock=some k->k ∉ F):w'.ownsRow B e sz v n xs:=oP h hs hA
theorem a8(h:w.ownsRow B e sz v n xs){p:Addr}(hp:v.ownBlock≠some p.block)(u:Value):(w.setCell p u).ownsRow B e sz v n xs :=
 ae h (λk hk=>heap_setCell _ _ _ _ (by rintro rfl;exact hp hk))
theorem bW{B':Nat}(h:w.ownsRow B e sz v n xs)(hb:B'<=B):w.ownsRow B' e sz v n xs:=by
 refine⟨h.1,?_⟩;rcases h.2 with hn|⟨g,cap,cur,rfl,hB,hg,rest⟩
 .exact .inl hn
 .exact .inr ⟨g,cap,cur,rfl,zq3 hb hB,hg,rest⟩
theorem b8(h:w.ownsRow B e sz v n xs)(hb:Below w.heap.size w w'):w'.ownsRow B e sz v n xs:=ae h (λk hk=>hb.block k (h.lt k hk).2)
theorem ah(h:w.ownsRow B e sz v n xs):∃ao cap,v=.slice ao n cap/\n<=cap/\cap<=9223372036854775807:=by
 rcases h.2 with⟨rfl,rfl⟩|⟨g,cap,cur,rfl,_,_,h1,h2,_⟩
 .exact⟨_,_,rfl,by omega,by omega⟩
 .exact⟨_,_,rfl,h1,by unfold maxLen at h2;omega⟩
theorem aS(h:w.ownsRow B e sz v n xs)(hn:0<n):∃g cap,v=.slice (some ⟨g,0,none⟩) n cap/\n<=cap/\cap<=9223372036854775807/\g<w.heap.size:=by
 have hh:=h;rcases h.2 with⟨rfl,rfl⟩|⟨g,cap,cur,rfl,_,_,h1,h2,_⟩
 .omega
 .exact⟨_,_,rfl,h1,by unfold maxLen at h2;omega,(hh.lt g rfl).2⟩
end
theorem am.foots{F F' F'':List Nat}{w w':World}(h:am F w F' w')(hf:∀k∈F'',k∈F\/w.heap.size<=k):am F w F'' w':=⟨h.os,h.tape,h.output,h.size,h.block,hf⟩
theorem am.wide{F F' G:List Nat}{w w':World}(h:am F w F' w')(hf:∀k∈F,k∈G):am G w G w':=⟨h.os,h.tape,h.output,h.size,λk hk hG=>h.block k hk (λhF=>hG (hf k hF)),λ_ hk=>zq0 hk⟩
theorem am.ofBw{F:List Nat}{w w':World}(h:Below w.heap.size w w'):am F w F w':=⟨h.os,h.tape,h.output,h.size,λk hk _=>h.block k hk,λ_ hk=>zq0 hk⟩
theorem sD(b o j:Nat):(⟨b,o,none⟩:Addr).add j=⟨b,o+j,none⟩:=by unfold Addr.add;split <;> simp_all
section
variable {P:Program}
theorem vQ (w:World) (dT sT ty elem:TypeId) (g o dLen dCap:Nat) (a:Addr) (sLen sCap sz:Nat) (cur:Array Value) (t:TypeId) (cs:List Value)
  (hu:P.underlying dT=some (.slice elem)) (hs:(P.info? elem).map (·.size)=some sz)
  (hg:w.heap[g]?=some (.cells cur t (0,0))) (hn:cs.length=Nat.min sLen dLen*sz)
  (Jm:∀j v,cs[j]?=some v->w.cell? (a.add j)=some v) (vz:o+cs.length<=cur.size) (h1:∀v∈cs,v.oneCell'=true) :
  (Builtin.copy_ #[dT,sT] ty #[.slice (some ⟨g,o,none⟩) dLen dCap,.slice (some a) sLen sCap]).run P w =
   .ok (goInt (Nat.min sLen dLen)) (w.setRow g (cur.toList.take o++cs++cur.toList.drop (o+cs.length)).toArray):=by
 have hl:=run_loadCells_list (P:=P) w a cs Jm;have aE:=run_storeCells_at P g o t cs 0 cur w hg (by simpa using vz) h1;cases hq:P.info? elem with
 |none=>simp[hq]at hs
 |some i =>
  have hi:i.size=sz:=by simpa[hq] using hs
  simp[Builtin.copy_,run_underlying hu,Builtin.lenOf,Builtin.firstCells,sizeOf,typeInfo,hq,hi,<-hn,hl,aE]
theorem ue (w:World) (dT sT ty elem:TypeId) (dp sp:Option Addr) (dLen dCap sLen sCap sz:Nat)
  (hu:P.underlying dT=some (.slice elem)) (hs:(P.info? elem).map (·.size)=some sz) (hn:Nat.min sLen dLen=0) :
  (Builtin.copy_ #[dT,sT] ty #[.slice dp dLen dCap,.slice sp sLen sCap]).run P w=.ok (goInt 0) w:=by
 cases hq:P.info? elem with
 |none=>simp[hq]at hs
 |some i =>
  have hn':min sLen dLen=0:=hn;cases dp <;> cases sp <;> simp[Builtin.copy_,run_underlying hu,Builtin.lenOf,Builtin.firstCells,sizeOf,typeInfo,hq,hn',storeCells,loadCells,loadCellsFrom]
theorem E2{α:Type}(L:List α)(off:Nat):splice L off []=L:=by simp[splice]
theorem ul {ops:Array Oper} {o:Oper} {a:Act} {w:World} {K:Act->World->Prop} {Q:Exit->Act->World->Prop} {E:Prop} (hgd:o.guard=none) (d s:Operand) (dT sT:TypeId)
  (ho:o.op=.call { callee:=.builtin .copy,args:=#[d,s],argTypes:=#[dT,sT] }) (elem:TypeId) (sz:Nat) (Y5:0<sz) (hu:P.underlying dT=some (.slice elem)) (jO:(P.info? elem).map (·.size)=some sz)
  (dp sp:Option Addr) (dLen dCap sLen sCap:Nat) (hd:a.eval d=.slice dp dLen dCap) (hs:a.eval s=.slice sp sLen sCap)
  (B e g n cap:Nat) (xs:List Value) (aF:w.ownsRow B e sz (.slice (some ⟨g,0,none⟩) n cap) n xs) (off:Nat) (cs:List Value) (hn:cs.length=Nat.min sLen dLen*sz)
  (tt:0<cs.length->dp=some ⟨g,off,none⟩/\∃ad,sp=some ad/\∀j v,cs[j]?=some v->w.cell? (ad.add j)=some v)
  (vz:off+cs.length<=n*sz) (h1:∀v∈cs,v.oneCell'=true)
  (h:∀w',w'.ownsRow B e sz (.slice (some ⟨g,0,none⟩) n cap) n (splice xs off cs)->am [g] w [g] w'->K (a.put o.dst (goInt (Nat.min sLen dLen))) w') :
  if Region.wanted o (yielded ops a.tmps)=true then Oper.wp P o a w K Q else E:=by
 have hw:Region.wanted o (yielded ops a.tmps)=true:=by simp[Region.wanted,hgd]
 rw[if_pos hw];by_cases h0:cs.length=0
 .obtain rfl:cs=[]:=eq_nil_of_length_eq_zero h0;have hm:Nat.min sLen dLen=0:=by
   rcases Nat.eq_zero_or_pos (Nat.min sLen dLen) with h|h
   .exact h
   .have:=Nat.mul_pos h Y5;rw[<-hn]at this;simp at this
  have qY:=ue (P:=P) w dT sT o.type elem dp sp dLen dCap sLen sCap sz hu jO hm;have hk:=h w (by rw[E2];exact aF) (am.refl _ _);rw[hm]at hk;unfold Oper.wp;simp[execOp,ho,resolve,invoke,builtin,hd,hs,qY,Result.andThen];exact hk
 .obtain⟨rfl,ad,rfl,Jm⟩:=tt (by omega);have Zd:=aF.1;rcases aF.2 with⟨h',_⟩|⟨g',cap',cur,h',hb,hg,wV,iw,ix,tD⟩
  .simp at h'
  .simp only[Value.slice.injEq,Option.some.injEq,Addr.mk.injEq,and_true,true_and]at h';obtain⟨rfl,rfl⟩:=h';have iA:n*sz<=cur.size:=(by rw[ix];exact Nat.mul_le_mul_right _ wV);have qY:=vQ (P:=P) w dT sT o.type elem g off dLen dCap ad sLen sCap sz cur e cs hu jO hg hn Jm (by omega) h1;have hk:=h (w.setRow g (cur.toList.take off++cs++cur.toList.drop (off+cs.length)).toArray)
    ⟨by rw[length_splice _ _ _ (by omega)];exact Zd,.inr ⟨g,cap,_,rfl,hb,setRow_heap w g cur _ e _ hg,wV,iw,by simp;omega,by
     rw[<-tD];unfold splice;rw[take_take,Nat.min_eq_left (by omega),drop_take];have e1:(cur.toList.take off).length=off:=(by simp;omega);rw[append_assoc,take_append,take_append,e1];congr 1
     .rw[take_of_length_le (by omega)]
     .rw[take_of_length_le (by omega)];congr 2;omega⟩⟩
    ⟨rfl,rfl,rfl,by simp,λk _ hk=>setRow_other w g k _ (by simpa using λe=>hk (by simp[e])),λ_ hk=>zq0 hk⟩
   unfold Oper.wp;simp only[append_assoc]at hk qY;simp[execOp,ho,resolve,invoke,builtin,hd,hs,qY,Result.andThen];exact hk
end
structure Fm(w:World)(A:Nat)(f:CF)(av ov:Value):Prop where
 is:dm w A f av ov
 nd:(aG A av ov).Nodup
 c5:f.cl.length=5
section
variable {w w1 w':World} {A:Nat} {f:CF} {av ov v':Value}
theorem Fm.nds(h:Fm w A f av ov):av.ownBlock≠some A/\ov.ownBlock≠some A/\∀k,av.ownBlock=some k->ov.ownBlock≠some k:=by
 have:=h.nd;unfold aG at this;rw[nodup_cons,nodup_append]at this;obtain⟨h1,-,-,h4⟩:=this;simp only[mem_append,Option.mem_toList,not_or]at h1;exact⟨h1.1,h1.2,λk hk hc=>h4 k (by simpa using hk) k (by simpa using hc) rfl⟩
theorem Fm.of_eq(h:Fm w A f av ov)(he:∀k∈aG A av ov,w'.heap[k]?=w.heap[k]?):Fm w' A f av ov:=⟨h.is.of_eq he,h.nd,h.c5⟩
theorem Fm.lt(h:Fm w A f av ov):∀k∈aG A av ov,k<w.heap.size:=h.is.lt
theorem Fm.below(h:Fm w A f av ov)(hb:Below w.heap.size w w'):Fm w' A f av ov:=h.of_eq (λk hk=>hb.block k (h.lt k hk))
theorem nd3{a:Nat}{u v:Value}(h1:u.ownBlock≠some a)(h2:v.ownBlock≠some a)(h3:∀k,u.ownBlock=some k->v.ownBlock≠some k):(aG a u v).Nodup:=by
 unfold aG;rw[nodup_cons,nodup_append];refine⟨by simp only[mem_append,Option.mem_toList,not_or];exact⟨h1,h2⟩,by cases u.ownBlock <;> simp,by cases v.ownBlock <;> simp,?_⟩;intro x hx y hy e;subst e;rw[Option.mem_toList]at hx hy;exact h3 x hx hy
theorem jI{g:Nat}{o:Obj}{row:Option Nat}(hg:(w.alloc o).grownBy w1 row)(b7:some g=row\/g=(w.alloc o).heap.size):am row.toList w [g] w1 :=
 ⟨hg.os,hg.tape,hg.output,zq3 (by simp) hg.size,λk hk hn=>(hg.block k (by simp;omega) (λe=>hn (by rw[<-e];simp))).trans (heap_alloc _ _ _ hk),λk hk=>by
  rw[mem_singleton]at hk;subst hk;rcases b7 with e|e
  .left;rw[<-e];simp
  .right;rw[e];simp⟩
theorem Ob.stored{T n:Nat}{xs:List Value}(h:Ob w T n A xs)(j:Nat)(u:Value):Ob (w.setCell ⟨A,j,none⟩ u) T n A (xs.set j u):=(ownsRow.stored h j u).1
theorem Fm.newOv{ow':List Pr}{F':List Nat}(h:Fm w A f av ov)(hs:am ov.ownBlock.toList w F' w1)(hF:∀k,v'.ownBlock=some k->k∈F')(hr:w1.ownsRow 0 182 3 v' ow'.length (aj ow')):
  Fm (w1.setCell ⟨A,6,none⟩ v') A { f with ow:=ow' } av v'/\am (aG A av ov) w (aG A av v') (w1.setCell ⟨A,6,none⟩ v'):=by
 obtain⟨n1,n2,n3⟩:=h.nds;have hA:A ∉ ov.ownBlock.toList:=by simpa using n2
 have hv:∀k,v'.ownBlock=some k->ov.ownBlock=some k\/w.heap.size<=k:=λk hk=>by
  rcases hs.foot k (hF k hk) with g|g
  .exact zq0 (by simpa using g)
  .exact zq1 g
 have zR:=h.lt A (by simp[aG]);have hvA:v'.ownBlock≠some A:=λe=>by
  rcases hv A e with g|g
  .exact n2 g
  .omega
 have hva:∀k,av.ownBlock=some k->v'.ownBlock≠some k:=λk hk e=>by
  rcases hv k e with g|g
  .exact n3 k hk g
  .have:=h.lt k (by simp[aG,hk]);omega
 have ob1:Ob w1 179 7 A (gP f av ov):=h.is.ob.of_eq (hs.block A zR hA);have o2:=ob1.stored 6 v';refine⟨⟨⟨o2,?_,?_⟩,nd3 n1 hvA hva,h.c5⟩,?_⟩
 .refine ae (w:=w) h.is.ap (λk hk=>?_);rw[heap_setCell _ _ _ _ (by show k≠A;rintro rfl;exact n1 hk)];exact hs.block k (h.lt k (by simp[aG,hk])) (by simpa using n3 k hk)
 .exact a8 hr (p:=⟨A,6,none⟩) hvA v'
 .refine((hs.wide (G:=aG A av ov) (λk hk=>by simp only[aG,mem_cons,mem_append];exact zq1 (zq1 hk))).setCell (p:=⟨A,6,none⟩) (zq0 (by simp[aG])) v').foots (λk hk=>?_);simp only[aG,mem_cons,mem_append,Option.mem_toList]at hk ⊢;rcases hk with rfl|hk|hk
  .exact zq0 (zq0 rfl)
  .exact zq0 (zq1 (zq0 hk))
  .rcases hv k hk with g|g
   .exact zq0 (zq1 (zq1 g))
   .exact zq1 g
theorem Fm.newAv{ap':List Pr}{F':List Nat}(h:Fm w A f av ov)(hs:am av.ownBlock.toList w F' w1)(hF:∀k,v'.ownBlock=some k->k∈F')(hr:w1.ownsRow 0 182 3 v' ap'.length (aj ap')):
  Fm (w1.setCell ⟨A,5,none⟩ v') A { f with ap:=ap' } v' ov/\am (aG A av ov) w (aG A v' ov) (w1.setCell ⟨A,5,none⟩ v'):=by
 obtain⟨n1,n2,n3⟩:=h.nds;have hA:A ∉ av.ownBlock.toList:=by simpa using n1
 have hv:∀k,v'.ownBlock=some k->av.ownBlock=some k\/w.heap.size<=k:=λk hk=>by
  rcases hs.foot k (hF k hk) with g|g
  .exact zq0 (by simpa using g)
  .exact zq1 g
 have zR:=h.lt A (by simp[aG]);have hvA:v'.ownBlock≠some A:=λe=>by
  rcases hv A e with g|g
  .exact n1 g
  .omega
 have hva:∀k,v'.ownBlock=some k->ov.ownBlock≠some k:=λk hk e=>by
  rcases hv k hk with g|g
  .exact n3 k g e
  .have:=h.lt k (by simp[aG,e]);omega
 have ob1:Ob w1 179 7 A (gP f av ov):=h.is.ob.of_eq (hs.block A zR hA);have o2:=ob1.stored 5 v';refine⟨⟨⟨o2,?_,?_⟩,nd3 hvA n2 hva,h.c5⟩,?_⟩
 .exact a8 hr (p:=⟨A,5,none⟩) hvA v'
 .refine ae (w:=w) h.is.ow (λk hk=>?_);rw[heap_setCell _ _ _ _ (by show k≠A;rintro rfl;exact n2 hk)];exact hs.block k (h.lt k (by simp[aG,hk])) (by simpa using λe=>n3 k e hk)
 .refine((hs.wide (G:=aG A av ov) (λk hk=>by simp only[aG,mem_cons,mem_append];exact zq1 (zq0 hk))).setCell (p:=⟨A,5,none⟩) (zq0 (by simp[aG])) v').foots (λk hk=>?_);simp only[aG,mem_cons,mem_append,Option.mem_toList]at hk ⊢;rcases hk with rfl|hk|hk
  .exact zq0 (zq0 rfl)
  .rcases hv k hk with g|g
   .exact zq0 (zq1 (zq0 g))
   .exact zq1 g
  .exact zq0 (zq1 (zq1 hk))
theorem Fm.setCl(h:Fm w A f av ov)(i c:Nat)(hi:i<5):Fm (w.setCell ⟨A,i,none⟩ (.int .i64 (c:Int))) A { f with cl:=f.cl.set i c } av ov:=by
 obtain⟨n1,n2,n3⟩:=h.nds;have h5:=h.c5;refine⟨⟨?_,a8 h.is.ap (p:=⟨A,i,none⟩) n1 _,a8 h.is.ow (p:=⟨A,i,none⟩) n2 _⟩,h.nd,by simpa using h5⟩;have o:=h.is.ob.stored i (.int .i64 (c:Int));have e:(gP f av ov).set i (.int .i64 (c:Int))=gP { f with cl:=f.cl.set i c } av ov:=by
  obtain⟨a0,a1,a2,a3,a4,ha⟩:∃a0 a1 a2 a3 a4,f.cl=[a0,a1,a2,a3,a4]:=by
   match hc:f.cl,h5 with
   |[a0,a1,a2,a3,a4],_=>exact⟨a0,a1,a2,a3,a4,rfl⟩
  have hk:i=0\/i=1\/i=2\/i=3\/i=4:=by omega
  rcases hk with rfl|rfl|rfl|rfl|rfl <;> simp[gP,eR,ha]
 rw[e]at o;exact o
end
theorem oJ(p:Pr):∀u∈TN p,u.oneCell'=true:=by
 intro u hu;simp only[TN,mem_cons,not_mem_nil,or_false]at hu;rcases hu with rfl|rfl|rfl <;> rfl
section
variable {w:World} {A:Nat} {f:CF} {av ov:Value}
theorem oB(h:Fm w A f av ov)(k l r:Nat)(hn:f.ow.length<=100000):Calls prog 254 #[.pointer (some ⟨A,0,none⟩),.int .i64 k,.int .i64 l,.int .i64 r] w λe w'=>e=.returned (.tuple #[])/\∃ov',Fm w' A { f with ow:=f.ow++[⟨k,l,r⟩] } av ov'/\am (aG A av ov) w (aG A av ov') w':=by
 obtain⟨i0,hi,dG,du,ef⟩:=info_parts infoPair;have H:=ab h;have c6:=h.is.c6;have HS:=ab h.is.ow;obtain⟨sa,sc,hs,-,-⟩:=ah h.is.ow;subst hs;clear h;go_enter func254,ntmps254;go_wp2_with (at_builtin;refine aK _ rfl (.tmp 12) (.tmp 17) 177 rfl 0 182 i0 _ 3 24 underlying177 hi dG du ef rfl (by decide) _ f.ow.length (aj f.ow) rfl ((uh HS).alloc _) ⟨_,0,none⟩ 1 [.int .i64 (k:Int),.int .i64 (l:Int),.int .i64 (r:Int)] rfl rfl (aJ _ _ (by simp) [.int .i64 (k:Int),.int .i64 (l:Int),.int .i64 (r:Int)] _) (oJ ⟨k,l,r⟩) (by omega) (by omega) (zq5 _) ?_)
 intro g1 cap1 w1 cF bH iU;have cN:=jI bH (by simpa using iU);have hf:=(uh H).newOv (ow':=f.ow++[⟨k,l,r⟩]) cN (v':=.slice (some ⟨g1,0,none⟩) (f.ow.length+1) cap1) (λk hk=>by simpa[Value.ownBlock] using hk.symm) (by
  rw[length_append,length_singleton,ec];exact cF)
 have ob1:=(uh H).is.ob.of_eq (cN.block A ((uh H).lt A (by simp[aG])) (by simpa using (uh H).nds.2.1));have d6:=ownsRow.cellAt ob1 6 (by omega);have f6:=ownsRow.frozenAt ob1 6;have HF:=ab hf;clear cF bH iU cN hf ob1 c6;go_wp2_with fail
 go_end0
 exact⟨rfl,_,(uh HF).1,(uh HF).2⟩
theorem oI(h:Fm w A f av ov)(l r:Nat)(hn:f.ap.length<=100000):Calls prog 259 #[.pointer (some ⟨A,0,none⟩),.int .i64 l,.int .i64 r] w λe w'=>e=.returned (.tuple #[])/\∃av',Fm w' A { f with ap:=f.ap++[⟨2,l,r⟩] } av' ov/\am (aG A av ov) w (aG A av' ov) w':=by
 obtain⟨i0,hi,dG,du,ef⟩:=info_parts infoPair;have H:=ab h;have c5:=h.is.c5;have HS:=ab h.is.ap;obtain⟨sa,sc,hs,-,-⟩:=ah h.is.ap;subst hs;clear h;go_enter func259,ntmps259;go_wp2_with (at_builtin;refine aK _ rfl (.tmp 10) (.tmp 14) 177 rfl 0 182 i0 _ 3 24 underlying177 hi dG du ef rfl (by decide) _ f.ap.length (aj f.ap) rfl ((uh HS).alloc _) ⟨_,0,none⟩ 1 [.int .i64 2,.int .i64 (l:Int),.int .i64 (r:Int)] rfl rfl (aJ _ _ (by simp) [.int .i64 2,.int .i64 (l:Int),.int .i64 (r:Int)] _) (oJ ⟨2,l,r⟩) (by omega) (by omega) (zq5 _) ?_)
 intro g1 cap1 w1 cF bH iU;have cN:=jI bH (by simpa using iU);have hf:=(uh H).newAv (ap':=f.ap++[⟨2,l,r⟩]) cN (v':=.slice (some ⟨g1,0,none⟩) (f.ap.length+1) cap1) (λk hk=>by simpa[Value.ownBlock] using hk.symm) (by
  rw[length_append,length_singleton,ec];exact cF)
 have ob1:=(uh H).is.ob.of_eq (cN.block A ((uh H).lt A (by simp[aG])) (by simpa using (uh H).nds.1));have d6:=ownsRow.cellAt ob1 5 (by omega);have f6:=ownsRow.frozenAt ob1 5;have HF:=ab hf;clear cF bH iU cN hf ob1 c5;go_wp2_with fail
 go_end0
 exact⟨rfl,_,(uh HF).1,(uh HF).2⟩
end
def ky(l:List (Int × Int)):Prop:=l.Pairwise (λa b=>a.1<b.1)
def cQ(l:List (Int × Int))(a:Int):Nat:=(l.filter (λc=>decide (c.1<a))).length
theorem yV(l:List (Int × Int))(a:Int):cQ l a<=l.length:=length_filter_le _ _
theorem Jz(c:Int × Int)(l:List (Int × Int))(a:Int):cQ (c::l) a=if c.1<a then cQ l a+1 else cQ l a:=by
 unfold cQ;rw[filter_cons];by_cases h:c.1<a <;> simp[h]
theorem JA{l:List (Int × Int)}{a:Int}(h:∀c∈l,¬ c.1<a):cQ l a=0:=by
 unfold cQ;rw[filter_eq_nil_iff.2 (λc hc=>by simpa using h c hc)];rfl
theorem lm{l:List (Int × Int)}(h:ky l)(a:Int):∀i,(hi:i<l.length)->(i<cQ l a↔l[i].1<a):=by
 induction l with
 |nil=>intro i hi;simp at hi
 |cons c l ih =>
  have h1:=pairwise_cons.1 h;intro i hi;rw[Jz];by_cases hc:c.1<a
  .rw[if_pos hc];cases i with
   |zero=>simp[hc]
   |succ i =>
    have kZ:i<l.length:=(by simpa using hi);have:=ih h1.2 i kZ;simp only[getElem_cons_succ];omega
  .rw[if_neg hc,JA (λd hd=>by have:=h1.1 d hd;omega)];cases i with
   |zero=>simp[hc]
   |succ i =>
    have kZ:i<l.length:=(by simpa using hi);have:=h1.1 l[i] (getElem_mem kZ);simp only[getElem_cons_succ];omega
def cq(l:List (Int × Int))(a:Int):Option Nat:=if h:cQ l a<l.length then (if l[cQ l a].1=a then some (cQ l a) else none) else none
theorem ey{l:List (Int × Int)}{a:Int}{i:Nat}(h:cq l a=some i):∃hi:i<l.length,l[i].1=a:=by
 unfold cq at h;split at h
 .rename_i hl;split at h
  .rename_i he;cases h
   exact⟨hl,he⟩
  .cases h
 .cases h
theorem yj{l:List (Int × Int)}(hs:ky l){a:Int}{i:Nat}(hi:i<l.length)(h:l[i].1=a):cq l a=some i:=by
 have h1:=lm hs a i hi;have e:cQ l a=i:=by
  rcases Nat.lt_trichotomy (cQ l a) i with h2|h2|h2
  .exfalso;have h3:=lm hs a (cQ l a) (by omega);have h4:=pairwise_iff_getElem.1 hs (cQ l a) i (by omega) hi h2;omega
  .exact h2
  .exfalso;omega
 unfold cq;subst e;rw[dif_pos hi,if_pos h]
def CH(l:List (Int × Int))(a n:Int):List (Int × Int):=l.take (cQ l a)++(a,n)::l.drop (cQ l a)
theorem xQ{l:List (Int × Int)}(hs:ky l){a n:Int}(hn:cq l a=none):ky (CH l a n):=by
 unfold CH ky;rw[pairwise_append];refine⟨hs.sublist (take_sublist _ _),?_,?_⟩
 .rw[pairwise_cons];refine⟨λc hc=>?_,hs.sublist (drop_sublist _ _)⟩;obtain⟨k,hk,rfl⟩:=mem_iff_getElem.1 hc;rw[length_drop]at hk;rw[getElem_drop];have h1:=lm hs a (cQ l a+k) (by omega);have h2:l[cQ l a+k].1≠a:=λe=>by rw[yj hs (by omega) e]at hn;cases hn
  omega
 .intro c hc d hd;obtain⟨k,hk,rfl⟩:=mem_iff_getElem.1 hc;rw[length_take]at hk;rw[getElem_take];have h1:=(lm hs a k (by omega)).1 (by omega);rcases mem_cons.1 hd with rfl|hd
  .exact h1
  .obtain⟨j,hj,rfl⟩:=mem_iff_getElem.1 hd;rw[length_drop]at hj;rw[getElem_drop];exact pairwise_iff_getElem.1 hs k (cQ l a+j) (by omega) (by omega) (by omega)
