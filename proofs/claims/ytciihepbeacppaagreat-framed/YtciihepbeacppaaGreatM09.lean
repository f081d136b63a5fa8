import Derived.Test.YtciihepbeacppaaGreatM08
set_option maxRecDepth 100000
set_option maxHeartbeats 0
namespace Go.Proofs.YtciihepbeacppaaGreat
open Tryz Go.RowKit List World Below
set_option linter.unusedVariables false
theorem mc(k i:Nat)(hk:k<=2)(hi:i<=1000)(w:World):Calls prog 152 #[.agg #[.int .i64 k,.int .i64 i]] w λe w'=>e=.returned (.int .i64 (nK k i:Nat))/\Below w.heap.size w w':=by
 have CR:k=0\/k=1\/k=2:=by omega
 have hb:=(Below.refl w.heap.size w).alloc (zq4 _) (.cells #[Value.int .i64 k,.int .i64 i] 184);have HB:=ab hb;clear hb;rcases CR with rfl|rfl|rfl
 .go_enter func152,ntmps152;go_wp2_with fail
  go_ret;exact⟨rfl,uh HB⟩
 .go_enter func152,ntmps152;go_wp2_with fail
  go_ret;exact⟨br (by unfold nK;rw[if_pos rfl];omega),uh HB⟩
 .go_enter func152,ntmps152;go_wp2_with fail
  go_ret;exact⟨br (by unfold nK;rw[if_neg (by decide),if_pos rfl];omega),uh HB⟩
theorem YL{l:List cn}{k:Nat}(h:k<l.length):(bT l)[k*5]?=some (.int .i64 l[k].k)/\(bT l)[k*5+1]?=some (.int .i64 l[k].lk)/\(bT l)[k*5+2]?=some (.int .i64 l[k].li)/\(bT l)[k*5+3]?=some (.int .i64 l[k].rk)/\(bT l)[k*5+4]?=some (.int .i64 l[k].ri):=by
 induction l generalizing k with
 |nil=>simp at h
 |cons x l ih =>
  have hx:bT (x::l)=[Value.int .i64 x.k,.int .i64 x.lk,.int .i64 x.li,.int .i64 x.rk,.int .i64 x.ri]++bT l:=rfl;cases k with
  |zero=>rw[hx];simp
  |succ k =>
   have:=ih (k:=k) (by simpa using h);rw[hx,show(k+1)*5=k*5+5 by omega];simp only[getElem_cons_succ];refine⟨?_,?_,?_,?_,?_⟩
   .rw[getElem?_append_right (by simp)];simpa using this.1
   .rw[getElem?_append_right (by simp)];simpa[show k*5+5+1-5=k*5+1 by omega] using this.2.1
   .rw[getElem?_append_right (by simp)];simpa[show k*5+5+2-5=k*5+2 by omega] using this.2.2.1
   .rw[getElem?_append_right (by simp)];simpa[show k*5+5+3-5=k*5+3 by omega] using this.2.2.2.1
   .rw[getElem?_append_right (by simp)];simpa[show k*5+5+4-5=k*5+4 by omega] using this.2.2.2.2
theorem nO{w:World}{B:Nat}{v:Value}{l:List cn}(h:w.ownsRow B 239 5 v l.length (bT l)):
  ∃ao cap,v=.slice ao l.length cap/\cap<=9223372036854775807/\l.length<=cap/\(l≠[]->∃g,ao=some ⟨g,0,none⟩/\g<w.heap.size/\∀j,(h:j<l.length)->w.cell? ⟨g,j*5,none⟩=some (.int .i64 l[j].k)/\w.cell? ⟨g,j*5+1,none⟩=some (.int .i64 l[j].lk)/\w.cell? ⟨g,j*5+2,none⟩=some (.int .i64 l[j].li)/\w.cell? ⟨g,j*5+3,none⟩=some (.int .i64 l[j].rk)/\w.cell? ⟨g,j*5+4,none⟩=some (.int .i64 l[j].ri)):=by
 have hw:=h;rcases h.2 with⟨rfl,h0⟩|⟨g,cap,cur,rfl,_,_,hn,hm,_,_⟩
 .have:l=[]:=eq_nil_of_length_eq_zero h0;subst this;exact⟨_,_,rfl,by omega,by simp,λh=>absurd rfl h⟩
 .refine⟨_,_,rfl,by unfold maxLen at hm;omega,hn,λ_=>⟨g,rfl,(hw.lt g rfl).2,λj hj=>?_⟩⟩;have hg:=YL hj;exact⟨(hw.cellAt _ (by omega)).trans hg.1,(hw.cellAt _ (by omega)).trans hg.2.1,(hw.cellAt _ (by omega)).trans hg.2.2.1,(hw.cellAt _ (by omega)).trans hg.2.2.2.1,(hw.cellAt _ (by omega)).trans hg.2.2.2.2⟩
def n9(l:List Nat):List Value:=l.map (λn:Nat=>Value.int .i64 (n:Int))
theorem cC(l:List Nat):(n9 l).length=l.length:=by simp[n9]
theorem od{l:List Nat}{j:Nat}(h:j<l.length):(n9 l)[j]?=some (.int .i64 ((l.getD j 0:Nat):Int)):=by simp[n9,h]
theorem AM(l:List Nat)(j n:Nat):(n9 l).set j (.int .i64 (n:Int))=n9 (l.set j n):=by simp[n9,map_set]
def rgK(k:Nat):List Nat:=range k++replicate (13-k) 0
theorem Vs{k:Nat}(h:k<13):(rgK k).set k k=rgK (k+1):=by
 unfold rgK;rw[set_append_right _ _ (by simp),length_range,Nat.sub_self,show 13-k=(13-(k+1))+1 by omega,replicate_succ,set_cons_zero,range_succ,append_assoc];rfl
def Mg(f:Nat->Nat)(c:List Nat)(j:Nat):List Nat:=(c.map f).take j++c.drop j
theorem U1(f:Nat->Nat)(c:List Nat)(j:Nat):(Mg f c j).length=c.length:=by
 unfold Mg;rw[length_append,length_take,length_map,length_drop];omega
theorem PW(f:Nat->Nat){c:List Nat}{j:Nat}(h:j<c.length):(Mg f c j).getD j 0=c.getD j 0:=by
 unfold Mg;have e:((c.map f).take j).length=j:=by rw[length_take,length_map];omega
 simp only[getD_eq_getElem?_getD];rw[getElem?_append_right (by omega),e,Nat.sub_self,getElem?_drop,Nat.add_zero]
theorem IW(f:Nat->Nat){c:List Nat}{j:Nat}(h:j<c.length):(Mg f c j).set j (f (c.getD j 0))=Mg f c (j+1):=by
 unfold Mg;have e:((c.map f).take j).length=j:=by rw[length_take,length_map];omega
 have hm:j<(c.map f).length:=by simpa using h
 rw[set_append_right _ _ (by omega),e,Nat.sub_self,drop_eq_getElem_cons h,set_cons_zero,take_succ_eq_append_getElem hm,append_assoc];simp[h]
theorem PX(f:Nat->Nat){c:List Nat}{j:Nat}(h:j<c.length)(hf:f (c.getD j 0)=c.getD j 0):Mg f c (j+1)=Mg f c j:=by
 rw[<-IW f h,hf,<-PW f h,jT]
theorem info13:(prog.info? 236).map (·.size)=some 13:=by kernel_rfl
theorem K8{w:World}{B:Nat}{av:Value}{al:List cn}(h:w.ownsRow B 239 5 av al.length (bT al))(ht:rF al)(qc:al.length<=1000)(hb:∀a∈al,a.lk<=2/\a.rk<=2/\a.li<=100/\a.ri<=100):
  Calls prog 151 #[av] w λe w'=>e=.returned (.agg (n9 (gS al)).toArray)/\Below w.heap.size w w':=by
 obtain⟨ao,cap,l5,mC,fZ,ay⟩:=nO h;have HC:=ab ay;rw[l5];clear h ay l5;go_enter func151,ntmps151;go_wp2_with fail
 obtain⟨w0,mt⟩:∃w0,w0=((w.alloc (Obj.cells #[Value.int IntKind.i64 0,Value.int IntKind.i64 0,Value.int IntKind.i64 0,Value.int IntKind.i64 0,Value.int IntKind.i64 0,Value.int IntKind.i64 0,Value.int IntKind.i64 0,Value.int IntKind.i64 0,Value.int IntKind.i64 0,Value.int IntKind.i64 0,Value.int IntKind.i64 0,Value.int IntKind.i64 0,Value.int IntKind.i64 0] 236)).alloc (Obj.cells #[Value.int IntKind.i64 0,Value.int IntKind.i64 0,Value.int IntKind.i64 0,Value.int IntKind.i64 0,Value.int IntKind.i64 0,Value.int IntKind.i64 0,Value.int IntKind.i64 0,Value.int IntKind.i64 0,Value.int IntKind.i64 0,Value.int IntKind.i64 0,Value.int IntKind.i64 0,Value.int IntKind.i64 0,Value.int IntKind.i64 0] 236)):=⟨_,rfl⟩;rw[<-mt];have RL:Ob w0 236 13 w.heap.size (n9 (replicate 13 0)):=by
  rw[mt];exact Ob.alloc (ownsRow_lit (base:=0) (e:=236) (size:=13) w #[Value.int IntKind.i64 0,Value.int IntKind.i64 0,Value.int IntKind.i64 0,Value.int IntKind.i64 0,Value.int IntKind.i64 0,Value.int IntKind.i64 0,Value.int IntKind.i64 0,Value.int IntKind.i64 0,Value.int IntKind.i64 0,Value.int IntKind.i64 0,Value.int IntKind.i64 0,Value.int IntKind.i64 0,Value.int IntKind.i64 0] 1 (zq5 _) (by simp[maxLen]) rfl) _
 have hC0:Ob w0 236 13 (w.heap.size+1) (n9 (rgK 0)):=by
  have h1:=ownsRow_lit (base:=0) (e:=236) (size:=13) (w.alloc (Obj.cells #[Value.int IntKind.i64 0,Value.int IntKind.i64 0,Value.int IntKind.i64 0,Value.int IntKind.i64 0,Value.int IntKind.i64 0,Value.int IntKind.i64 0,Value.int IntKind.i64 0,Value.int IntKind.i64 0,Value.int IntKind.i64 0,Value.int IntKind.i64 0,Value.int IntKind.i64 0,Value.int IntKind.i64 0,Value.int IntKind.i64 0] 236)) #[Value.int IntKind.i64 0,Value.int IntKind.i64 0,Value.int IntKind.i64 0,Value.int IntKind.i64 0,Value.int IntKind.i64 0,Value.int IntKind.i64 0,Value.int IntKind.i64 0,Value.int IntKind.i64 0,Value.int IntKind.i64 0,Value.int IntKind.i64 0,Value.int IntKind.i64 0,Value.int IntKind.i64 0,Value.int IntKind.i64 0] 1 (zq5 _) (by simp[maxLen]) rfl;have e:(w.alloc (Obj.cells #[Value.int IntKind.i64 0,Value.int IntKind.i64 0,Value.int IntKind.i64 0,Value.int IntKind.i64 0,Value.int IntKind.i64 0,Value.int IntKind.i64 0,Value.int IntKind.i64 0,Value.int IntKind.i64 0,Value.int IntKind.i64 0,Value.int IntKind.i64 0,Value.int IntKind.i64 0,Value.int IntKind.i64 0,Value.int IntKind.i64 0] 236)).heap.size=w.heap.size+1:=by simp
  rw[e]at h1;rw[mt];exact h1
 have hB0:Below w.heap.size w w0:=by rw[mt];exact((Below.refl _ _).alloc (zq4 _) _).alloc (by simp) _
 obtain⟨R,hR⟩:∃R,R=w.heap.size:=⟨_,rfl⟩;obtain⟨C,hC⟩:∃C,C=w.heap.size+1:=⟨_,rfl⟩;rw[<-hR]at RL;rw[<-hC]at hC0 ⊢;rw[<-hR];have hRC:R≠C:=by omega
 have ZH:w.heap.size<=R:=by omega
 have hCB:w.heap.size<=C:=by omega
 clear mt hR hC;go_loopw [4] (λi wr=>∃k:Nat,k<=13/\i=.int .i64 k/\Hid (Ob wr 236 13 C (n9 (rgK k)))/\Hid (Ob wr 236 13 R (n9 (replicate 13 0)))/\Hid (Below w.heap.size w wr)) (λi _=>13-(intOf i).toNat)
 case atStart=>exact⟨0,zq5 _,rfl,ab hC0,ab RL,ab hB0⟩
 case round =>
  obtain⟨k,hk,rfl,Ec,sL,nQ⟩:=hrel;by_cases ar:k<13
  .have hd:decide ((k:Int)<13)=true:=(by simp;omega);obtain⟨⟨u,hu⟩,hz⟩:=(uh Ec).some (j:=k) ar;have Oe:=(uh Ec).set k (.int .i64 (k:Int));rw[AM,Vs ar]at Oe;have HC2:=ab Oe;have Su:=ab ((uh sL).of_eq (w':=wr.setCell ⟨C,k,none⟩ (.int .i64 (k:Int))) (heap_setCell _ _ _ _ hRC));have eu:=ab ((uh nQ).setCell (p:=⟨C,k,none⟩) hCB (.int .i64 (k:Int)));clear Oe;go_wp2_with fail
   go_roundw
   case rel=>exact⟨k+1,by omega,by go_num,HC2,Su,eu⟩
   case measure=>simp[intOf];omega
  .have hd:decide ((k:Int)<13)=false:=(by simp;omega);have alw:k=13:=(by omega);subst alw;clear hC0 RL hB0;go_wp2_with fail
   go_loopg [19] al.length (λgn i wr=>∃k:Nat,k+gn=al.length/\i=.int .i64 k/\Hid (Ob wr 236 13 C (n9 ((al.take k).foldl j9 (range 13))))/\Hid (Ob wr 236 13 R (n9 (replicate 13 0)))/\Hid (Below w.heap.size w wr))
   case atStart=>exact⟨0,by omega,rfl,Ec,sL,nQ⟩
   case round =>
    obtain⟨k,hk,rfl,Ec,sL,nQ⟩:=hrel;by_cases ar:k<al.length
    .have kj:decide ((k:Int)<(al.length:Int))=true:=(by simp;omega);obtain⟨g,sN,nS,ay⟩:=uh HC (by intro h;rw[h]at ar;simp at ar);subst sN;obtain⟨x0,x1,x2,x3,x4⟩:=ay k ar;obtain⟨a,ha⟩:∃a,a=al[k]:=⟨_,rfl⟩;have KT:=ht _ (getElem_mem ar);have Eh:=hb _ (getElem_mem ar);rw[<-ha]at x0 x1 x2 x3 x4 KT Eh;have c0:=((uh nQ).cell (block_lt_of_cell? w _ x0)).trans x0;have c1:=((uh nQ).cell (block_lt_of_cell? w _ x1)).trans x1;have c2:=((uh nQ).cell (block_lt_of_cell? w _ x2)).trans x2;have c3:=((uh nQ).cell (block_lt_of_cell? w _ x3)).trans x3;have c4:=((uh nQ).cell (block_lt_of_cell? w _ x4)).trans x4;clear ay x0 x1 x2 x3 x4;obtain⟨c,hc⟩:∃c,c=(al.take k).foldl j9 (range 13):=⟨_,rfl⟩;rw[<-hc]at Ec;have dp:c.length=13:=by
      rw[hc];exact(AH (al.take k) _ (λb hb=>ht b (mem_of_mem_take hb)) (by simp) (λi hi=>by rw[AW i hi];exact hi)).1
     have gI:(al.take (k+1)).foldl j9 (range 13)=j9 c a:=by
      rw[take_succ_eq_append_getElem ar,foldl_append,<-hc,ha];rfl
     have db:=ab gI;have HCc:=ab hc;have HA:=ab ha
     -- behind the copy of the atom
     have Fh:=(uh nQ).alloc (uh nQ).size (.cells #[Value.int .i64 a.k,.int .i64 a.lk,.int .i64 a.li,.int .i64 a.rk,.int .i64 a.ri] 239);have Oe:=(uh Ec).alloc (.cells #[Value.int .i64 a.k,.int .i64 a.lk,.int .i64 a.li,.int .i64 a.rk,.int .i64 a.ri] 239);have ZG:=(uh sL).alloc (.cells #[Value.int .i64 a.k,.int .i64 a.lk,.int .i64 a.li,.int .i64 a.rk,.int .i64 a.ri] 239);have iC:=λj=>cell_of_row (wr.alloc (.cells #[Value.int .i64 a.k,.int .i64 a.lk,.int .i64 a.li,.int .i64 a.rk,.int .i64 a.ri] 239)) wr.heap.size j #[Value.int .i64 a.k,.int .i64 a.lk,.int .i64 a.li,.int .i64 a.rk,.int .i64 a.ri] 239 (0,0) (heap_alloc_new wr _);have n0:=iC 0;have n1:=iC 1;have n2:=iC 2;have n3:=iC 3;have n4:=iC 4;simp only[getElem?_toArray,getElem?_cons_zero,getElem?_cons_succ]at n0 n1 n2 n3 n4;have eu:=ab Fh;have HC2:=ab Oe;have Su:=ab ZG;clear Fh Oe ZG iC gI hc ha Ec sL nQ;by_cases KH:a.k=1
     .have aL:((a.k:Int) != 1)=false:=(by simp;omega);have LL:=ab (mc a.lk a.li Eh.1 (by omega) (wr.alloc (.cells #[Value.int .i64 a.k,.int .i64 a.lk,.int .i64 a.li,.int .i64 a.rk,.int .i64 a.ri] 239)));have HK1:=ab KH;clear KH;go_wp2_with fail
      refine(uh LL).mono ?_;rintro e w1 ⟨rfl,bH⟩;have aad:nK a.lk a.li<13:=KT.1;have cd:nK a.rk a.ri<13:=KT.2;obtain⟨t1,x9⟩:∃t1,t1=nK a.lk a.li:=⟨_,rfl⟩;obtain⟨t2,KS⟩:∃t2,t2=nK a.rk a.ri:=⟨_,rfl⟩;rw[<-x9]at aad ⊢;rw[<-KS]at cd;have hC3:=(uh HC2).of_eq (bH.block C (ownsRow.lt (uh HC2) _ rfl).2);have hR3:=(uh Su).of_eq (bH.block R (ownsRow.lt (uh Su) _ rfl).2);have TG:Below w.heap.size w w1:=(uh eu).trans (bH.mono (uh eu).size);have d1:=(ownsRow.cellAt hC3 t1 (by omega)).trans (od (l:=c) (by omega));have m3:=(bH.cell (block_lt_of_cell? _ _ n3)).trans n3;have m4:=(bH.cell (block_lt_of_cell? _ _ n4)).trans n4;obtain⟨kept,O0⟩:∃kept,kept=c.getD t1 0:=⟨_,rfl⟩;rw[<-O0]at d1;have D0:=ab (mc a.rk a.ri Eh.2.1 (by omega) w1);have HC3:=ab hC3;have LN:=ab hR3;have s8:=ab TG;have By:=ab x9;have GQ:=ab KS;have HKe:=ab O0;clear hC3 hR3 TG bH x9 O0 n0 n1 n2 n3 n4;go_wp2_with fail
      refine(uh D0).mono ?_;rintro e w2 ⟨rfl,aU⟩;rw[<-KS];have hC4:=(uh HC3).of_eq (aU.block C (ownsRow.lt (uh HC3) _ rfl).2);have hR4:=(uh LN).of_eq (aU.block R (ownsRow.lt (uh LN) _ rfl).2);have hB4:Below w.heap.size w w2:=(uh s8).trans (aU.mono (uh s8).size);have d2:=(ownsRow.cellAt hC4 t2 (by omega)).trans (od (l:=c) (by omega));obtain⟨gone,Ij⟩:∃gone,gone=c.getD t2 0:=⟨_,rfl⟩;rw[<-Ij]at d2;have HC4:=ab hC4;have Wk:=ab hR4;have zq:=ab hB4;have HGo:=ab Ij;have HMr:Hid (j9 c a=c.map (λx=>if x=gone then kept else x)):=ab (by
       unfold j9;rw[if_pos (uh HK1),<-uh By,<-KS,<-Ij,<-uh HKe])
      clear hC4 hR4 hB4 aU Ij KS d1;go_wp2_with fail
      go_loopw [9] (λi wr=>∃j:Nat,j<=13/\i=.int .i64 j/\Hid (Ob wr 236 13 C (n9 (Mg (λx=>if x=gone then kept else x) c j)))/\Hid (Ob wr 236 13 R (n9 (replicate 13 0)))/\Hid (Below w.heap.size w wr)) (λi _=>13-(intOf i).toNat)
      case atStart=>exact⟨0,zq5 _,rfl,HC4,Wk,zq⟩
      case round =>
       obtain⟨j,hj,rfl,hC5,hR5,Oc⟩:=hrel;by_cases f7:j<13
       .have hd3:decide ((j:Int)<13)=true:=(by simp;omega);have hjc:j<c.length:=(by omega);have hcj:=(ownsRow.cellAt (uh hC5) j (by omega)).trans (od (by rw[U1];omega));rw[PW _ hjc]at hcj;have hzj:=ownsRow.frozenAt (uh hC5) j;obtain⟨x,hx⟩:∃x,x=c.getD j 0:=⟨_,rfl⟩;rw[<-hx]at hcj;have Yi:=ab (IW (λx=>if x=gone then kept else x) hjc);have HKp:=ab (PX (λx=>if x=gone then kept else x) hjc);rw[<-hx]at Yi HKp;by_cases hxg:x=gone
        .have he:((x:Int)==(gone:Int))=true:=(by rw[bp];simpa using hxg);have hC6:=(uh hC5).set j (.int .i64 (kept:Int));have vA:=uh Yi;rw[if_pos hxg]at vA;rw[AM,vA]at hC6;clear vA;have HC6:=ab hC6;have Sv:=ab ((uh hR5).of_eq (w':=wr.setCell ⟨C,j,none⟩ (.int .i64 (kept:Int))) (heap_setCell _ _ _ _ hRC));have xH:=ab ((uh Oc).setCell (p:=⟨C,j,none⟩) hCB (.int .i64 (kept:Int)));clear hC6 hxg hx;go_wp2_with fail
         go_roundw
         case rel=>exact⟨j+1,by omega,by go_num,HC6,Sv,xH⟩
         case measure=>simp[intOf];omega
        .have he:((x:Int)==(gone:Int))=false:=(by rw[bp];simpa using hxg);have qD:=uh HKp (if_neg hxg);have HC6:=hC5;rw[<-qD]at HC6;clear qD hxg hx;go_wp2_with fail
         go_roundw
         case rel=>exact⟨j+1,by omega,by go_num,HC6,hR5,Oc⟩
         case measure=>simp[intOf];omega
       .have hd3:decide ((j:Int)<13)=false:=(by simp;omega);have alr:j=13:=(by omega);subst alr;have rW:Mg (λx=>if x=gone then kept else x) c 13=j9 c a:=by
         unfold Mg;rw[uh HMr,drop_of_length_le (by omega),append_nil,take_of_length_le (by simp;omega)]
        rw[rW]at hC5;clear rW;go_wp2_with fail
        go_roundg (gk-1)
        case rel=>exact⟨k+1,by omega,by go_num,ab (by rw[uh db];exact uh hC5),hR5,Oc⟩
        case measure=>omega
     .have aL:((a.k:Int) != 1)=true:=(by rw[bne_iff_ne];omega);have HMr:Hid (j9 c a=c):=ab (by unfold j9;rw[if_neg KH]);clear KH;go_wp2_with fail
      go_roundg (gk-1)
      case rel=>exact⟨k+1,by omega,by go_num,ab (by rw[uh db,uh HMr];exact uh HC2),Su,eu⟩
      case measure=>omega
    .have kj:decide ((k:Int)<(al.length:Int))=false:=(by simp;omega);have j5:k=al.length:=(by omega);subst j5;rw[take_length]at Ec;have fy:(gS al).length=13:=AI ht;have Od:Ob wr 236 13 C (n9 (gS al)):=uh Ec;have hRg:wr.rangeAt C 0 (n9 (gS al)):=by
      intro j v hj;have f7:=(List.getElem?_eq_some_iff.1 hj).1;rw[cC,fy]at f7;rw[Nat.zero_add,ownsRow.cellAt Od j (by omega)];exact hj
     have BM:wr.there R 0 (n9 (gS al)).toArray.size:=by
      intro j hj;rw[size_toArray,cC,fy]at hj;obtain⟨⟨u,hu⟩,hz⟩:=(uh sL).some (j:=j) hj;rw[Nat.zero_add];exact⟨by rw[hu];rfl,hz⟩
     have dN:(prog.info? 236).map (·.size)=some (n9 (gS al)).length:=(by rw[cC,fy];exact info13);have cg:(prog.info? 236).map (·.size)=some (n9 (gS al)).toArray.size:=(by rw[size_toArray,cC,fy];exact info13);have hO:(n9 (gS al)).toArray.all (·.oneCell')=true:=all_oneCell_toArray (by
      intro v hv;obtain⟨o,_,rfl⟩:=mem_map.1 hv;rfl)
     have vi:=Ob.setCells (n9 (gS al)) 0 (uh sL);have KR:=nI (n9 (gS al)) [] (n9 (replicate 13 0)) [] (by rw[cC,cC,fy];rfl);simp only[nil_append,append_nil,length_nil]at KR;rw[KR]at vi;have Oc:∀(vs:List Value) (o:Nat) (x:World),Below w.heap.size w x->Below w.heap.size w (x.setCells R o vs):=by
      intro vs;induction vs with
      |nil=>intro o x h;exact h
      |cons v r ih=>intro o x h;exact ih (o+1) _ (h.setCell ZH v)
     have lH:=ab (Oc (n9 (gS al)) 0 wr (uh nQ));obtain⟨M,hM⟩:∃M,M=n9 (gS al):=⟨_,rfl⟩;rw[<-hM]at hRg BM dN cg hO vi lH;have HM:=ab hM;have HRg:=ab hRg;have B7:=ab BM;have fs:=ab dN;have d7:=ab cg;have HO:=ab hO;have JL:=ab vi;clear hRg BM dN cg hO vi KR Oc hM Od Ec sL nQ;go_wp2_with (first|refine wpList_load_mid rfl 236 (.tmp 3) rfl C 0 rfl M _ (uh HRg) underlying236 rfl (uh fs) ?_|refine wpList_store_mid rfl 236 (.tmp 2) (.tmp 49) rfl R 0 M.toArray rfl rfl (uh B7) (uh d7) (uh HO) ?_)
     have aaz:(wr.setCells R 0 M).rangeAt R 0 M:=by
      intro j v hj;have f7:=(List.getElem?_eq_some_iff.1 hj).1;rw[uh HM,cC,fy]at f7;rw[Nat.zero_add,ownsRow.cellAt (uh JL) j (by omega)];exact hj
     have hld:=run_loadVar_mid (P:=prog) (wr.setCells R 0 M) R 0 236 M _ aaz underlying236 rfl (uh fs);refine bodyPost_ret (v:=.agg M.toArray) ?_ rfl ⟨by rw[uh HM],uh lH⟩;simp[results,Tryz.results151,Act.put,asAddr,hld]
def dd(l:List Bool):List Value:=l.map Value.bool
theorem fG{l:List Bool}{j:Nat}(h:j<l.length):(dd l)[j]?=some (.bool (l.getD j false)):=by simp[dd,h]
theorem lT(l:List Bool)(j:Nat)(b:Bool):(dd l).set j (.bool b)=dd (l.set j b):=by simp[dd,map_set]
def fB(bl:List Bool)(seen:List Nat):Prop:=bl.length=24/\∀c,c<24->(bl.getD c false=true↔c∈seen)
theorem fB.add{bl:List Bool}{seen:List Nat}(h:fB bl seen){c:Nat}(hc:c<24):fB (bl.set c true) (c::seen):=by
 refine⟨by simpa using h.1,λd hd=>?_⟩;rw[cM _ _ _ _ _ (by rw[h.1];exact hc),mem_cons];by_cases e:c=d
 .rw[if_pos e];simp[e]
 .rw[if_neg e,h.2 d hd];exact⟨zq1,λh=>h.resolve_left (λh=>e h.symm)⟩
theorem NR{f:CF}{k:Nat}(hk:k<f.ap.length)(h:f.ap[k].l=f.ap[k].r):eE f=true:=by
 unfold eE;have:f.ap.any (λp=>p.l==p.r)=true:=any_eq_true.2 ⟨_,getElem_mem hk,by simpa using h⟩;rw[this];rfl
theorem E5{f:CF}(h:∀j,(hj:j<f.ap.length)->f.ap[j].l≠f.ap[j].r):eE f=mP [f.cl.getD 0 0] f.ow:=by
 unfold eE;have:f.ap.any (λp=>p.l==p.r)=false:=by
  rw[any_eq_false];intro p hp;obtain⟨j,hj,rfl⟩:=mem_iff_getElem.1 hp;simpa using h j hj
 rw[this];rfl
theorem J6{w:World}{A:Nat}{f:CF}{av ov:Value}(h:ew w A f av ov)(hR:Rm f)(h0:f.cl.getD 0 0<24):
  Calls prog 115 #[.pointer (some ⟨A,0,none⟩)] w λe w'=>e=.returned (.bool (eE f))/\Below w.heap.size w w':=by
 obtain⟨ao,cap,l5,hm',Md,hc⟩:=dH h.ap;have hm:cap<=9223372036854775807:=by unfold maxLen at hm';omega
 have h5:=h.c5;rw[l5]at h5;have HC:=ab hc;have HF:=ab h;clear hc l5 h hm';go_enter func115,ntmps115;go_wp2_with fail
 go_loopw [13] (λi wr=>∃k:Nat,k<=f.ap.length/\i=.int .i64 k/\Hid (∀j,(hj:j<f.ap.length)->j<k->f.ap[j].l≠f.ap[j].r)/\Hid (Below w.heap.size w wr)) (λi _=>f.ap.length-(intOf i).toNat)
 case atStart=>exact⟨0,zq5 _,rfl,λ_ _ h=>absurd h (by omega),ab (Below.refl _ _)⟩
 case round =>
  obtain⟨k,hk,rfl,fP,cH⟩:=hrel;by_cases ar:k<f.ap.length
  .obtain⟨g,sN,ay⟩:=uh HC (by intro h;rw[h]at ar;simp at ar);subst sN;obtain⟨Eo,vF,r9⟩:=ay k ar;have c0:=((uh cH).cell (block_lt_of_cell? w _ Eo)).trans Eo;have c1:=((uh cH).cell (block_lt_of_cell? w _ vF)).trans vF;have c2:=((uh cH).cell (block_lt_of_cell? w _ r9)).trans r9;clear ay Eo vF r9;obtain⟨p,hp⟩:∃p,p=f.ap[k]:=⟨_,rfl⟩;rw[<-hp]at c0 c1 c2;have HP:=ab hp;have Rv:=ab ((uh cH).alloc (uh cH).size (.cells #[Value.int .i64 p.k,.int .i64 p.l,.int .i64 p.r] 182));obtain⟨-,n1,n2⟩:=Ga wr (Value.int .i64 p.k) (.int .i64 p.l) (.int .i64 p.r) 182;clear hp;by_cases tu:p.l=p.r
   .have he:((p.l:Int)==(p.r:Int))=true:=(by rw[bp];simpa using tu);have HE:Hid (eE f=true):=ab (NR ar (by rw[<-uh HP];exact tu));clear tu;go_wp2_with fail
    go_ret;exact⟨by rw[uh HE];rfl,uh Rv⟩
   .have he:((p.l:Int)==(p.r:Int))=false:=(by rw[bp];simpa using tu);have HLR:=ab tu;clear tu;go_wp2_with fail
    go_roundw
    case rel =>
     refine⟨k+1,by omega,by go_num,ab (λj hj Ik=>?_),Rv⟩;by_cases e:j=k
     .subst e;rw[<-uh HP];exact uh HLR
     .exact fP.out j hj (by omega)
    case measure=>simp[intOf];omega
  .have hd:decide ((k:Int)<(f.ap.length:Int))=false:=(by simp;omega);have HE:Hid (eE f=mP [f.cl.getD 0 0] f.ow):=ab (E5 (λj hj=>fP.out j hj (by omega)));have TO:=(uh HF).of_eq (λk hk=>(uh cH).block k ((uh HF).lt k hk));have h0r:=(TO.alloc (Obj.cells #[Value.bool false,Value.bool false,Value.bool false,Value.bool false,Value.bool false,Value.bool false,Value.bool false,Value.bool false,Value.bool false,Value.bool false,Value.bool false,Value.bool false,Value.bool false,Value.bool false,Value.bool false,Value.bool false,Value.bool false,Value.bool false,Value.bool false,Value.bool false,Value.bool false,Value.bool false,Value.bool false,Value.bool false] 240)).cls (i:=0) (by omega);unfold gZ at h0r;obtain⟨c0,Ek⟩:∃c0,c0=f.cl.getD 0 0:=⟨_,rfl⟩;rw[<-Ek]at h0r h0 HE;have TJ:Ob (wr.alloc (Obj.cells #[Value.bool false,Value.bool false,Value.bool false,Value.bool false,Value.bool false,Value.bool false,Value.bool false,Value.bool false,Value.bool false,Value.bool false,Value.bool false,Value.bool false,Value.bool false,Value.bool false,Value.bool false,Value.bool false,Value.bool false,Value.bool false,Value.bool false,Value.bool false,Value.bool false,Value.bool false,Value.bool false,Value.bool false] 240)) 240 24 wr.heap.size (dd (replicate 24 false)):=by
    exact ownsRow_lit (base:=0) (e:=240) (size:=24) wr (dd (replicate 24 false)).toArray 1 (zq5 _) (by simp[maxLen]) rfl
   obtain⟨⟨u0,FN⟩,gX⟩:=TJ.some (j:=c0) h0;have Of:Ob (wr.alloc (Obj.cells ([Value.bool false,Value.bool false,Value.bool false,Value.bool false,Value.bool false,Value.bool false,Value.bool false,Value.bool false,Value.bool false,Value.bool false,Value.bool false,Value.bool false,Value.bool false,Value.bool false,Value.bool false,Value.bool false,Value.bool false,Value.bool false,Value.bool false,Value.bool false,Value.bool false,Value.bool false,Value.bool false,Value.bool false].set c0 (Value.bool true)).toArray 240)) 240 24 wr.heap.size (dd ((replicate 24 false).set c0 true)):=by
    have h1:=ownsRow_lit (base:=0) (e:=240) (size:=24) wr ([Value.bool false,Value.bool false,Value.bool false,Value.bool false,Value.bool false,Value.bool false,Value.bool false,Value.bool false,Value.bool false,Value.bool false,Value.bool false,Value.bool false,Value.bool false,Value.bool false,Value.bool false,Value.bool false,Value.bool false,Value.bool false,Value.bool false,Value.bool false,Value.bool false,Value.bool false,Value.bool false,Value.bool false].set c0 (Value.bool true)).toArray 1 (zq5 _) (by simp[maxLen]) (by simp);rw[<-lT];exact h1
   have hsn:fB ((replicate 24 false).set c0 true) [c0]:=by
    refine fB.add (seen:=[]) ⟨by simp,λc hc=>?_⟩ h0;rw[getD_eq_getElem?_getD,getElem?_replicate,if_pos hc];simp
   have nQ:Below w.heap.size w (wr.alloc (Obj.cells ([Value.bool false,Value.bool false,Value.bool false,Value.bool false,Value.bool false,Value.bool false,Value.bool false,Value.bool false,Value.bool false,Value.bool false,Value.bool false,Value.bool false,Value.bool false,Value.bool false,Value.bool false,Value.bool false,Value.bool false,Value.bool false,Value.bool false,Value.bool false,Value.bool false,Value.bool false,Value.bool false,Value.bool false].set c0 (Value.bool true)).toArray 240)):=(uh cH).alloc (uh cH).size _;have kE:=(uh HF).of_eq (λk hk=>nQ.block k ((uh HF).lt k hk));have h6:=kE.c6;obtain⟨oo,ocap,gj,agt,hon,hoc⟩:=dH (uh HF).ow;have hom:ocap<=9223372036854775807:=(by unfold maxLen at agt;omega);rw[gj]at h6;have HOC:=ab hoc;have Sc:=ab Of;have HSn:=ab hsn;have fU:=ab nQ;obtain⟨D,hD⟩:∃D,D=wr.heap.size:=⟨_,rfl⟩;have hDB:w.heap.size<=D:=(by rw[hD];exact(uh cH).size);have DX:=ab hD;have HC0:=ab Ek;clear TO TJ Of hsn nQ kE gj hoc agt hD Ek;go_wp2_with fail
   obtain⟨w1,tZ⟩:∃w1,w1=wr.alloc (Obj.cells ([Value.bool false,Value.bool false,Value.bool false,Value.bool false,Value.bool false,Value.bool false,Value.bool false,Value.bool false,Value.bool false,Value.bool false,Value.bool false,Value.bool false,Value.bool false,Value.bool false,Value.bool false,Value.bool false,Value.bool false,Value.bool false,Value.bool false,Value.bool false,Value.bool false,Value.bool false,Value.bool false,Value.bool false].set c0 (Value.bool true)).toArray 240):=⟨_,rfl⟩;rw[<-tZ]at h6 Sc fU ⊢;rw[<-uh DX]at Sc ⊢;clear tZ h0r FN gX;go_loopw [34] (λi wr=>∃(k:Nat) (bl:List Bool) (seen:List Nat),k<=f.ow.length/\i=.int .i64 k/\Hid (Ob wr 240 24 D (dd bl))/\Hid (fB bl seen)/\Hid (mP seen (f.ow.drop k)=eE f)/\Hid (Below w.heap.size w wr)) (λi _=>f.ow.length-(intOf i).toNat)
   case atStart=>exact⟨0,_,[c0],zq5 _,rfl,Sc,HSn,ab (uh HE).symm,fU⟩
   case round =>
    obtain⟨k,bl,seen,hk,rfl,hD2,hsn,hdu,Ky⟩:=hrel;by_cases cd:k<f.ow.length
    .obtain⟨g,tB,ay⟩:=uh HOC (by intro h;rw[h]at cd;simp at cd);subst tB;obtain⟨Eo,vF,r9⟩:=ay k cd;have c0':=((uh Ky).cell (block_lt_of_cell? w _ Eo)).trans Eo;have c1:=((uh Ky).cell (block_lt_of_cell? w _ vF)).trans vF;have c2:=((uh Ky).cell (block_lt_of_cell? w _ r9)).trans r9;clear ay Eo vF r9;obtain⟨mK,-⟩:=hR _ (getElem_mem cd);obtain⟨p,hp⟩:∃p,p=f.ow[k]:=⟨_,rfl⟩;rw[<-hp]at c0' c1 c2 mK;have gI:mP seen (f.ow.drop k)=if p.l∈seen then true else mP (p.l::seen) (f.ow.drop (k+1)):=by
      rw[drop_eq_getElem_cons cd,<-hp];rfl
     rw[uh hdu]at gI;obtain⟨-,n1,n2⟩:=Ga wr (Value.int .i64 p.k) (.int .i64 p.l) (.int .i64 p.r) 182;have Kk:=(uh hD2).alloc (.cells #[Value.int .i64 p.k,.int .i64 p.l,.int .i64 p.r] 182);have L7:bl.length=24:=(uh hsn).1;have d1:=(ownsRow.cellAt Kk p.l (by omega)).trans (fG (l:=bl) (by omega));have z1:=ownsRow.frozenAt Kk p.l;obtain⟨sb,BV⟩:∃sb,sb=bl.getD p.l false:=⟨_,rfl⟩;rw[<-BV]at d1;have Z7:=(uh hsn).2 p.l mK;rw[<-BV]at Z7;have s8:=ab ((uh Ky).alloc (uh Ky).size (.cells #[Value.int .i64 p.k,.int .i64 p.l,.int .i64 p.r] 182));have V6:=ab (Kk.set p.l (.bool true));rw[lT]at V6;have ajR:=ab ((uh hsn).add mK);have HSt:=ab gI;have HIf:=ab Z7;clear hp gI Kk BV Z7 hD2 hsn hdu;cases sb with
     |true =>
      have zs:Hid (eE f=true):=ab (by rw[uh HSt,if_pos ((uh HIf).1 rfl)]);go_wp2_with fail
      go_ret;exact⟨by rw[uh zs];rfl,uh s8⟩
     |false =>
      have Yi:Hid (mP (p.l::seen) (f.ow.drop (k+1))=eE f):=ab (by
       rw[uh HSt,if_neg (λh=>by have:=(uh HIf).2 h;cases this)])
      have zq:=ab ((uh s8).setCell (p:=⟨D,p.l,none⟩) hDB (.bool true));go_wp2_with fail
      go_roundw
      case rel=>exact⟨k+1,_,p.l::seen,by omega,by go_num,V6,ajR,Yi,zq⟩
      case measure=>simp[intOf];omega
    .have kj:decide ((k:Int)<(f.ow.length:Int))=false:=(by simp;omega);have zs:Hid (eE f=false):=ab (by rw[<-uh hdu,drop_of_length_le (by omega)];rfl);go_wp2_with fail
     go_ret;exact⟨by rw[uh zs];rfl,uh Ky⟩
def Bk(w:World)(A:Nat)(T:TypeId)(xs:List Value):Prop:=w.heap[A]?=some (.cells xs.toArray T (0,0))
section
variable {w w':World} {A T:Nat} {xs:List Value}
theorem Bk.lt(h:Bk w A T xs):A<w.heap.size:=(Array.getElem?_eq_some_iff.1 h).1
theorem Bk.of_eq(h:Bk w A T xs)(he:w'.heap[A]?=w.heap[A]?):Bk w' A T xs:=he.trans h
theorem Bk.cell(h:Bk w A T xs)(j:Nat){u:Value}(hj:xs[j]?=some u):w.cell? ⟨A,j,none⟩=some u:=by
 rw[cell_of_row w A j xs.toArray T (0,0) h];simpa using hj
theorem Bk.frz(h:Bk w A T xs)(j:Nat):w.frozen? ⟨A,j,none⟩=false:=frozen_of_row w A j xs.toArray T h
theorem Bk.set(h:Bk w A T xs)(j:Nat)(u:Value):Bk (w.setCell ⟨A,j,none⟩ u) A T (xs.set j u):=by
 have:=heap_setCell_same w A j xs.toArray T u h;unfold Bk;rw[this];simp
theorem Bk.new(w:World)(T:TypeId)(xs:List Value):Bk (w.alloc (.cells xs.toArray T)) w.heap.size T xs:=heap_alloc_new w _
theorem Bk.alloc(h:Bk w A T xs)(o:Obj):Bk (w.alloc o) A T xs:=h.of_eq (heap_alloc _ _ _ h.lt)
theorem Bk.below(h:Bk w A T xs)(hb:Below w.heap.size w w'):Bk w' A T xs:=h.of_eq (hb.block _ h.lt)
theorem Bk.stp{F F':List Nat}(h:Bk w A T xs)(hs:au F w F' w')(hA:A ∉ F):Bk w' A T xs:=h.of_eq (hs.block _ h.lt hA)
theorem Bk.setO(h:Bk w A T xs){p:Addr}(hp:p.block≠A)(u:Value):Bk (w.setCell p u) A T xs:=h.of_eq (heap_setCell _ _ _ _ (λe=>hp e.symm))
end
section
variable {w w':World} {B e sz n:Nat} {v:Value} {xs:List Value}
theorem cy(h:w.ownsRow B e sz v n xs){p:Addr}(hp:v.ownBlock≠some p.block)(u:Value):(w.setCell p u).ownsRow B e sz v n xs :=
 ae h (λk hk=>heap_setCell _ _ _ _ (by rintro rfl;exact hp hk))
theorem ej{B':Nat}(h:w.ownsRow B e sz v n xs)(hb:B'<=B):w.ownsRow B' e sz v n xs:=by
 refine⟨h.1,?_⟩;rcases h.2 with hn|⟨g,cap,cur,rfl,hB,hg,rest⟩
 .exact .inl hn
 .exact .inr ⟨g,cap,cur,rfl,zq3 hb hB,hg,rest⟩
theorem ja(h:w.ownsRow B e sz v n xs)(hb:Below w.heap.size w w'):w'.ownsRow B e sz v n xs:=ae h (λk hk=>hb.block k (h.lt k hk).2)
theorem aj(h:w.ownsRow B e sz v n xs):∃ao cap,v=.slice ao n cap/\n<=cap/\cap<=9223372036854775807:=by
 rcases h.2 with⟨rfl,rfl⟩|⟨g,cap,cur,rfl,_,_,h1,h2,_⟩
 .exact⟨_,_,rfl,by omega,by omega⟩
 .exact⟨_,_,rfl,h1,by unfold maxLen at h2;omega⟩
theorem cR(h:w.ownsRow B e sz v n xs)(hn:0<n):∃g cap,v=.slice (some ⟨g,0,none⟩) n cap/\n<=cap/\cap<=9223372036854775807/\g<w.heap.size:=by
 have hh:=h;rcases h.2 with⟨rfl,rfl⟩|⟨g,cap,cur,rfl,_,_,h1,h2,_⟩
 .omega
 .exact⟨_,_,rfl,h1,by unfold maxLen at h2;omega,(hh.lt g rfl).2⟩
end
theorem au.foots{F F' F'':List Nat}{w w':World}(h:au F w F' w')(hf:∀k∈F'',k∈F\/w.heap.size<=k):au F w F'' w':=⟨h.os,h.tape,h.output,h.size,h.block,hf⟩
theorem au.wide{F F' G:List Nat}{w w':World}(h:au F w F' w')(hf:∀k∈F,k∈G):au G w G w':=⟨h.os,h.tape,h.output,h.size,λk hk hG=>h.block k hk (λhF=>hG (hf k hF)),λ_ hk=>zq0 hk⟩
theorem au.ofBw{F:List Nat}{w w':World}(h:Below w.heap.size w w'):au F w F w':=⟨h.os,h.tape,h.output,h.size,λk hk _=>h.block k hk,λ_ hk=>zq0 hk⟩
structure Fm(w:World)(A:Nat)(f:CF)(av ov:Value):Prop where
 is:ew w A f av ov
 nd:(aH A av ov).Nodup
 c5:f.cl.length=5
section
variable {w w1 w':World} {A:Nat} {f:CF} {av ov v':Value}
theorem Fm.nds(h:Fm w A f av ov):av.ownBlock≠some A/\ov.ownBlock≠some A/\∀k,av.ownBlock=some k->ov.ownBlock≠some k:=by
 have:=h.nd;unfold aH at this;rw[nodup_cons,nodup_append]at this;obtain⟨h1,-,-,h4⟩:=this;simp only[mem_append,Option.mem_toList,not_or]at h1;exact⟨h1.1,h1.2,λk hk hc=>h4 k (by simpa using hk) k (by simpa using hc) rfl⟩
theorem Fm.of_eq(h:Fm w A f av ov)(he:∀k∈aH A av ov,w'.heap[k]?=w.heap[k]?):Fm w' A f av ov:=⟨h.is.of_eq he,h.nd,h.c5⟩
theorem Fm.lt(h:Fm w A f av ov):∀k∈aH A av ov,k<w.heap.size:=h.is.lt
theorem Fm.below(h:Fm w A f av ov)(hb:Below w.heap.size w w'):Fm w' A f av ov:=h.of_eq (λk hk=>hb.block k (h.lt k hk))
theorem nd3{a:Nat}{u v:Value}(h1:u.ownBlock≠some a)(h2:v.ownBlock≠some a)(h3:∀k,u.ownBlock=some k->v.ownBlock≠some k):(aH a u v).Nodup:=by
 unfold aH;rw[nodup_cons,nodup_append];refine⟨by simp only[mem_append,Option.mem_toList,not_or];exact⟨h1,h2⟩,by cases u.ownBlock <;> simp,by cases v.ownBlock <;> simp,?_⟩;intro x hx y hy e;subst e;rw[Option.mem_toList]at hx hy;exact h3 x hx hy
theorem lB{g:Nat}{o:Obj}{row:Option Nat}(hg:(w.alloc o).grownBy w1 row)(cj:some g=row\/g=(w.alloc o).heap.size):au row.toList w [g] w1 :=
 ⟨hg.os,hg.tape,hg.output,zq3 (by simp) hg.size,λk hk hn=>(hg.block k (by simp;omega) (λe=>hn (by rw[<-e];simp))).trans (heap_alloc _ _ _ hk),λk hk=>by
  rw[mem_singleton]at hk;subst hk;rcases cj with e|e
  .left;rw[<-e];simp
  .right;rw[e];simp⟩
theorem Ob.stored{T n:Nat}{xs:List Value}(h:Ob w T n A xs)(j:Nat)(u:Value):Ob (w.setCell ⟨A,j,none⟩ u) T n A (xs.set j u):=(ownsRow.stored h j u).1
theorem Fm.newOv{ow':List Pr}{F':List Nat}(h:Fm w A f av ov)(hs:au ov.ownBlock.toList w F' w1)(hF:∀k,v'.ownBlock=some k->k∈F')(hr:w1.ownsRow 0 182 3 v' ow'.length (af ow')):
  Fm (w1.setCell ⟨A,6,none⟩ v') A { f with ow:=ow' } av v'/\au (aH A av ov) w (aH A av v') (w1.setCell ⟨A,6,none⟩ v'):=by
 obtain⟨n1,n2,n3⟩:=h.nds;have hA:A ∉ ov.ownBlock.toList:=by simpa using n2
 have hv:∀k,v'.ownBlock=some k->ov.ownBlock=some k\/w.heap.size<=k:=λk hk=>by
  rcases hs.foot k (hF k hk) with g|g
  .exact zq0 (by simpa using g)
  .exact zq1 g
 have Ff:=h.lt A (by simp[aH]);have hvA:v'.ownBlock≠some A:=λe=>by
  rcases hv A e with g|g
  .exact n2 g
  .omega
 have hva:∀k,av.ownBlock=some k->v'.ownBlock≠some k:=λk hk e=>by
  rcases hv k e with g|g
  .exact n3 k hk g
  .have:=h.lt k (by simp[aH,hk]);omega
 have ob1:Ob w1 179 7 A (jl f av ov):=h.is.ob.of_eq (hs.block A Ff hA);have o2:=ob1.stored 6 v';refine⟨⟨⟨o2,?_,?_⟩,nd3 n1 hvA hva,h.c5⟩,?_⟩
 .refine ae (w:=w) h.is.ap (λk hk=>?_);rw[heap_setCell _ _ _ _ (by show k≠A;rintro rfl;exact n1 hk)];exact hs.block k (h.lt k (by simp[aH,hk])) (by simpa using n3 k hk)
 .exact cy hr (p:=⟨A,6,none⟩) hvA v'
 .refine((hs.wide (G:=aH A av ov) (λk hk=>by simp only[aH,mem_cons,mem_append];exact zq1 (zq1 hk))).setCell (p:=⟨A,6,none⟩) (zq0 (by simp[aH])) v').foots (λk hk=>?_);simp only[aH,mem_cons,mem_append,Option.mem_toList]at hk ⊢;rcases hk with rfl|hk|hk
  .exact zq0 (zq0 rfl)
  .exact zq0 (zq1 (zq0 hk))
  .rcases hv k hk with g|g
   .exact zq0 (zq1 (zq1 g))
   .exact zq1 g
theorem Fm.newAv{ap':List Pr}{F':List Nat}(h:Fm w A f av ov)(hs:au av.ownBlock.toList w F' w1)(hF:∀k,v'.ownBlock=some k->k∈F')(hr:w1.ownsRow 0 182 3 v' ap'.length (af ap')):
  Fm (w1.setCell ⟨A,5,none⟩ v') A { f with ap:=ap' } v' ov/\au (aH A av ov) w (aH A v' ov) (w1.setCell ⟨A,5,none⟩ v'):=by
 obtain⟨n1,n2,n3⟩:=h.nds;have hA:A ∉ av.ownBlock.toList:=by simpa using n1
 have hv:∀k,v'.ownBlock=some k->av.ownBlock=some k\/w.heap.size<=k:=λk hk=>by
  rcases hs.foot k (hF k hk) with g|g
  .exact zq0 (by simpa using g)
  .exact zq1 g
 have Ff:=h.lt A (by simp[aH]);have hvA:v'.ownBlock≠some A:=λe=>by
  rcases hv A e with g|g
  .exact n1 g
  .omega
 have hva:∀k,v'.ownBlock=some k->ov.ownBlock≠some k:=λk hk e=>by
  rcases hv k hk with g|g
  .exact n3 k g e
  .have:=h.lt k (by simp[aH,e]);omega
 have ob1:Ob w1 179 7 A (jl f av ov):=h.is.ob.of_eq (hs.block A Ff hA);have o2:=ob1.stored 5 v';refine⟨⟨⟨o2,?_,?_⟩,nd3 hvA n2 hva,h.c5⟩,?_⟩
 .exact cy hr (p:=⟨A,5,none⟩) hvA v'
 .refine ae (w:=w) h.is.ow (λk hk=>?_);rw[heap_setCell _ _ _ _ (by show k≠A;rintro rfl;exact n2 hk)];exact hs.block k (h.lt k (by simp[aH,hk])) (by simpa using λe=>n3 k e hk)
 .refine((hs.wide (G:=aH A av ov) (λk hk=>by simp only[aH,mem_cons,mem_append];exact zq1 (zq0 hk))).setCell (p:=⟨A,5,none⟩) (zq0 (by simp[aH])) v').foots (λk hk=>?_);simp only[aH,mem_cons,mem_append,Option.mem_toList]at hk ⊢;rcases hk with rfl|hk|hk
  .exact zq0 (zq0 rfl)
  .rcases hv k hk with g|g
   .exact zq0 (zq1 (zq0 g))
   .exact zq1 g
  .exact zq0 (zq1 (zq1 hk))
theorem Fm.setCl(h:Fm w A f av ov)(i c:Nat)(hi:i<5):Fm (w.setCell ⟨A,i,none⟩ (.int .i64 (c:Int))) A { f with cl:=f.cl.set i c } av ov:=by
 obtain⟨n1,n2,n3⟩:=h.nds;have h5:=h.c5;refine⟨⟨?_,cy h.is.ap (p:=⟨A,i,none⟩) n1 _,cy h.is.ow (p:=⟨A,i,none⟩) n2 _⟩,h.nd,by simpa using h5⟩;have o:=h.is.ob.stored i (.int .i64 (c:Int));have e:(jl f av ov).set i (.int .i64 (c:Int))=jl { f with cl:=f.cl.set i c } av ov:=by
  obtain⟨a0,a1,a2,a3,a4,ha⟩:∃a0 a1 a2 a3 a4,f.cl=[a0,a1,a2,a3,a4]:=by
   match hc:f.cl,h5 with
   |[a0,a1,a2,a3,a4],_=>exact⟨a0,a1,a2,a3,a4,rfl⟩
  have hk:i=0\/i=1\/i=2\/i=3\/i=4:=by omega
  rcases hk with rfl|rfl|rfl|rfl|rfl <;> simp[jl,gZ,ha]
 rw[e]at o;exact o
end
theorem qY(p:Pr):∀u∈Vn p,u.oneCell'=true:=by
 intro u hu;simp only[Vn,mem_cons,not_mem_nil,or_false]at hu;rcases hu with rfl|rfl|rfl <;> rfl
section
variable {w:World} {A:Nat} {f:CF} {av ov:Value}
theorem qN(h:Fm w A f av ov)(k l r:Nat)(hn:f.ow.length<=100000):Calls prog 254 #[.pointer (some ⟨A,0,none⟩),.int .i64 k,.int .i64 l,.int .i64 r] w λe w'=>e=.returned (.tuple #[])/\∃ov',Fm w' A { f with ow:=f.ow++[⟨k,l,r⟩] } av ov'/\au (aH A av ov) w (aH A av ov') w':=by
 obtain⟨i0,hi,gX,fK,f9⟩:=info_parts infoPair;have H:=ab h;have c6:=h.is.c6;have HS:=ab h.is.ow;obtain⟨sa,sc,hs,-,-⟩:=aj h.is.ow;subst hs;clear h;go_enter func254,ntmps254;go_wp2_with (at_builtin;refine aS _ rfl (.tmp 12) (.tmp 17) 177 rfl 0 182 i0 _ 3 24 underlying177 hi gX fK f9 rfl (by decide) _ f.ow.length (af f.ow) rfl ((uh HS).alloc _) ⟨_,0,none⟩ 1 [.int .i64 (k:Int),.int .i64 (l:Int),.int .i64 (r:Int)] rfl rfl (aN _ _ (by simp) [.int .i64 (k:Int),.int .i64 (l:Int),.int .i64 (r:Int)] _) (qY ⟨k,l,r⟩) (by omega) (by omega) (zq5 _) ?_)
 intro g1 cap1 w1 fD dE ki;have dy:=lB dE (by simpa using ki);have hf:=(uh H).newOv (ow':=f.ow++[⟨k,l,r⟩]) dy (v':=.slice (some ⟨g1,0,none⟩) (f.ow.length+1) cap1) (λk hk=>by simpa[Value.ownBlock] using hk.symm) (by
  rw[length_append,length_singleton,eK];exact fD)
 have ob1:=(uh H).is.ob.of_eq (dy.block A ((uh H).lt A (by simp[aH])) (by simpa using (uh H).nds.2.1));have d6:=ownsRow.cellAt ob1 6 (by omega);have f6:=ownsRow.frozenAt ob1 6;have HF:=ab hf;clear fD dE ki dy hf ob1 c6;go_wp2_with fail
 go_end0
 exact⟨rfl,_,(uh HF).1,(uh HF).2⟩
theorem qX(h:Fm w A f av ov)(l r:Nat)(hn:f.ap.length<=100000):Calls prog 259 #[.pointer (some ⟨A,0,none⟩),.int .i64 l,.int .i64 r] w λe w'=>e=.returned (.tuple #[])/\∃av',Fm w' A { f with ap:=f.ap++[⟨2,l,r⟩] } av' ov/\au (aH A av ov) w (aH A av' ov) w':=by
 obtain⟨i0,hi,gX,fK,f9⟩:=info_parts infoPair;have H:=ab h;have c5:=h.is.c5;have HS:=ab h.is.ap;obtain⟨sa,sc,hs,-,-⟩:=aj h.is.ap;subst hs;clear h;go_enter func259,ntmps259;go_wp2_with (at_builtin;refine aS _ rfl (.tmp 10) (.tmp 14) 177 rfl 0 182 i0 _ 3 24 underlying177 hi gX fK f9 rfl (by decide) _ f.ap.length (af f.ap) rfl ((uh HS).alloc _) ⟨_,0,none⟩ 1 [.int .i64 2,.int .i64 (l:Int),.int .i64 (r:Int)] rfl rfl (aN _ _ (by simp) [.int .i64 2,.int .i64 (l:Int),.int .i64 (r:Int)] _) (qY ⟨2,l,r⟩) (by omega) (by omega) (zq5 _) ?_)
 intro g1 cap1 w1 fD dE ki;have dy:=lB dE (by simpa using ki);have hf:=(uh H).newAv (ap':=f.ap++[⟨2,l,r⟩]) dy (v':=.slice (some ⟨g1,0,none⟩) (f.ap.length+1) cap1) (λk hk=>by simpa[Value.ownBlock] using hk.symm) (by
  rw[length_append,length_singleton,eK];exact fD)
 have ob1:=(uh H).is.ob.of_eq (dy.block A ((uh H).lt A (by simp[aH])) (by simpa using (uh H).nds.1));have d6:=ownsRow.cellAt ob1 5 (by omega);have f6:=ownsRow.frozenAt ob1 5;have HF:=ab hf;clear fD dE ki dy hf ob1 c5;go_wp2_with fail
 go_end0
 exact⟨rfl,_,(uh HF).1,(uh HF).2⟩
end
theorem ah(w:World)(o:Obj):Below w.heap.size w (w.alloc o):=(Below.refl _ _).alloc (zq4 _) o
section
variable {w:World} {A:Nat} {f:CF} {av ov:Value}
def JO(w:World)(f:CF)(A':Nat)(w':World):Prop:=∃av' ov',Fm w' A' f av' ov'/\(∀k∈aH A' av' ov',w.heap.size<=k)/\Below w.heap.size w w'
theorem I3{w0:World}{e sz n:Nat}{v:Value}{xs:List Value}(h:w.ownsRow w0.heap.size e sz v n xs):∀k,v.ownBlock=some k->w0.heap.size<=k/\k<w.heap.size:=λk hk=>h.lt k hk
theorem cK(h:ew w A f av ov)(h5:f.cl.length=5)(ha:f.ap.length<=40000)(ho:f.ow.length<=40000):Calls prog 241 #[.pointer (some ⟨A,0,none⟩)] w λe w'=>∃A',e=.returned (.pointer (some ⟨A',0,none⟩))/\JO w f A' w':=by
 obtain⟨i0,k9,gX,fK,f9⟩:=info_parts infoPair;have H:=ab h;have cf:=ah w (.cells #[] 182);have c5:=(h.alloc (.cells #[] 182)).c5;have HLa:=ab ((Ws.of_own h.ap ha).below cf);have uC:=ab (ownsRow_lit (base:=w.heap.size) (e:=182) (size:=3) w #[] 0 (zq4 _) (by simp[maxLen]) rfl);obtain⟨aa,ac,l5,-,-⟩:=aj h.ap;obtain⟨oa,oc,gj,-,-⟩:=aj h.ow;have HAV:=ab l5;have LM:=ab gj;rw[l5]at c5 HLa;clear h cf l5 gj;go_enter func241,ntmps241;go_wp2_with (at_builtin;refine nL rfl (.tmp 5) (.tmp 9) 177 rfl w.heap.size 182 i0 _ 3 24 underlying177 k9 gX fK f9 rfl (by decide) _ 0 [] rfl (uh uC) _ f.ap.length (af f.ap) rfl (uh HLa) (nD f.ap) (by omega) (by decide) (by simp) ?_)
 intro v1 w1 fD dE;have bH:Below w.heap.size w w1:=((Below.refl w.heap.size w).alloc (zq4 _) _).grown dE (by simp) (λk e=>by cases e;exact zq4 _);have h1:=(uh H).of_eq (w':=w1) (λk hk=>bH.block k ((uh H).lt k hk));have hb1x:=ah w1 (.cells #[] 182);have c6:=(h1.alloc (.cells #[] 182)).c6;have HLo:=ab ((Ws.of_own h1.ow ho).below hb1x);have Yk:=ab (ownsRow_lit (base:=w1.heap.size) (e:=182) (size:=3) w1 #[] 0 (zq4 _) (by simp[maxLen]) rfl);rw[uh LM]at c6 HLo;obtain⟨a1,k1,rfl⟩:=bJ fD;have Sm:=ab fD;have fU:=ab bH;have H1:=ab h1;clear fD dE bH h1 hb1x c5 HLa uC;go_wp2_with (at_builtin;refine nL rfl (.tmp 11) (.tmp 15) 177 rfl w1.heap.size 182 i0 _ 3 24 underlying177 k9 gX fK f9 rfl (by decide) _ 0 [] rfl (uh Yk) _ f.ow.length (af f.ow) rfl (uh HLo) (nD f.ow) (by omega) (by decide) (by simp) ?_)
 intro v2 w2 bC aM;have aU:Below w1.heap.size w1 w2:=((Below.refl w1.heap.size w1).alloc (zq4 _) _).grown aM (by simp) (λk e=>by cases e;exact zq4 _);have h2:=(uh H1).of_eq (w':=w2) (λk hk=>aU.block k ((uh H1).lt k hk));obtain⟨a2,k2,rfl⟩:=bJ bC;have x0:=h2.cls (i:=0) (by omega);have x1:=h2.cls (i:=1) (by omega);have x2:=h2.cls (i:=2) (by omega);have x3:=h2.cls (i:=3) (by omega);have x4:=h2.cls (i:=4) (by omega);have hN:JO w f w2.heap.size (w2.alloc (.cells #[gZ f 0,gZ f 1,gZ f 2,gZ f 3,gZ f 4,.slice a1 f.ap.length k1,.slice a2 f.ow.length k2] 179)):=by
  have ZV:=(uh fU).trans (aU.mono (uh fU).size);have r1:=ja (uh Sm) aU;have l1:=I3 (w0:=w) r1;have l1':=(uh Sm).lt;have l2:=I3 (w0:=w1) bC;have dy:=(uh fU).size;refine⟨.slice a1 f.ap.length k1,.slice a2 f.ow.length k2,⟨⟨?_,ej (r1.alloc _) (zq5 _),ej (bC.alloc _) (zq5 _)⟩,nd3 (λe=>?_) (λe=>?_) (λk e1 e2=>?_),h5⟩,λk hk=>?_,ZV.alloc ZV.size _⟩
  .exact ownsRow_lit (base:=0) (e:=179) (size:=7) w2 #[gZ f 0,gZ f 1,gZ f 2,gZ f 3,gZ f 4,.slice a1 f.ap.length k1,.slice a2 f.ow.length k2] 1 (zq5 _) (by simp[maxLen]) rfl
  .have:=(l1 _ (by simpa[Value.ownBlock] using e)).2;omega
  .have:=(l2 _ (by simpa[Value.ownBlock] using e)).2;omega
  .have h1:=(l1' k (by simpa[Value.ownBlock] using e1)).2;have h2:=(l2 k (by simpa[Value.ownBlock] using e2)).1;omega
  .simp only[aH,mem_cons,mem_append,Option.mem_toList]at hk;rcases hk with rfl|hk|hk
   .exact ZV.size
   .exact(l1 k (by simpa[Value.ownBlock] using hk)).1
   .have:=(l2 k (by simpa[Value.ownBlock] using hk)).1;omega
 have HN:=ab hN;unfold gZ at x0 x1 x2 x3 x4 HN;obtain⟨y0,e0⟩:∃y,y=f.cl.getD 0 0:=⟨_,rfl⟩;obtain⟨y1,e1⟩:∃y,y=f.cl.getD 1 0:=⟨_,rfl⟩;obtain⟨y2,e2⟩:∃y,y=f.cl.getD 2 0:=⟨_,rfl⟩;obtain⟨y3,e3⟩:∃y,y=f.cl.getD 3 0:=⟨_,rfl⟩;obtain⟨y4,e4⟩:∃y,y=f.cl.getD 4 0:=⟨_,rfl⟩;rw[<-e0]at x0;rw[<-e1]at x1;rw[<-e2]at x2;rw[<-e3]at x3;rw[<-e4]at x4;rw[<-e0,<-e1,<-e2,<-e3,<-e4]at HN;clear e0 e1 e2 e3 e4 h5;clear bC aM aU h2 hN c6;go_wp2_with fail
 go_ret;exact⟨_,rfl,uh HN⟩
end
def ek(kept gone c:Nat):Nat:=if c=gone then kept else c
def qh(kept gone:Nat)(p:Pr):Pr:=⟨p.k,ek kept gone p.l,ek kept gone p.r⟩
def qe(f:CF)(kept gone:Nat):CF:=⟨f.cl.map (ek kept gone),f.ap.map (qh kept gone),f.ow.map (qh kept gone)⟩
theorem jq{l:List Pr}{i:Nat}(hi:i<l.length)(c:Nat):(af l).set (i*3+1) (.int .i64 (c:Int))=af (l.set i ⟨(l.getD i ax).k,c,(l.getD i ax).r⟩):=by
 induction l generalizing i with
 |nil=>simp at hi
 |cons x l ih =>
  have hx:∀y:Pr,af (y::l)=[Value.int .i64 y.k,.int .i64 y.l,.int .i64 y.r]++af l:=λy=>rfl;cases i with
  |zero=>rw[hx,set_cons_zero,hx];rfl
  |succ i =>
   have h1:=ih (i:=i) (by simpa using hi);rw[hx,set_append_right _ _ (by simp;omega),set_cons_succ];show _=[Value.int .i64 x.k,.int .i64 x.l,.int .i64 x.r]++af _;rw[show(i+1)*3+1 - [Value.int .i64 (x.k:Int),.int .i64 (x.l:Int),.int .i64 (x.r:Int)].length=i*3+1 by simp;omega,h1];rfl
def tF(kept gone:Nat)(l:List Pr)(k:Nat):List Pr:=(l.take k).map (qh kept gone)++l.drop k
theorem Vu(kept gone:Nat)(l:List Pr)(k:Nat):(tF kept gone l k).length=l.length:=by simp[tF];omega
theorem Vt{kept gone:Nat}{l:List Pr}{k:Nat}(hk:k<l.length):(tF kept gone l k).getD k ax=l[k]:=by
 unfold tF;rw[getD_eq_getElem?_getD,getElem?_append_right (by simp;omega)];simp[hk,Nat.min_eq_left (Nat.le_of_lt hk)]
theorem QH{kept gone:Nat}{l:List Pr}{k:Nat}(hk:k<l.length):tF kept gone l (k+1)=(tF kept gone l k).set k (qh kept gone l[k]):=by
 unfold tF;have e:l.drop k=l[k]::l.drop (k+1):=drop_eq_getElem_cons hk;have e2:(l.take (k+1)).map (qh kept gone)=(l.take k).map (qh kept gone)++[qh kept gone l[k]]:=by
  rw[take_add_one,getElem?_eq_getElem hk,map_append];rfl
 have e3:((l.take k).map (qh kept gone)).length=k:=by simp;omega
 rw[e2,e,set_append_right _ _ (by omega),e3,Nat.sub_self,set_cons_zero,append_assoc];rfl
section
variable {w:World} {v:Value} {l:List Pr}
theorem wn(h:w.ownsRow 0 182 3 v l.length (af l))(hl:l.length<=100000)(kept gone:Nat):
  Calls prog 266 #[v,.int .i64 kept,.int .i64 gone] w λe w'=>e=.returned (.tuple #[])/\w'.ownsRow 0 182 3 v l.length (af (l.map (qh kept gone)))/\au v.ownBlock.toList w v.ownBlock.toList w':=by
 obtain⟨va,vc,hv,Ps,Uo⟩:=aj h;subst hv;have uC:Hid (w.ownsRow 0 182 3 (.slice va l.length vc) l.length (af (tF kept gone l 0))/\au (Value.slice va l.length vc).ownBlock.toList w (Value.slice va l.length vc).ownBlock.toList w):=ab ⟨by simpa[tF] using h,au.refl _ _⟩;clear h;go_enter func266,ntmps266;go_wp2_with fail
 go_loopw [6] (λi wx=>∃(k:Nat),k<=l.length/\i=.int .i64 k/\Hid (wx.ownsRow 0 182 3 (.slice va l.length vc) l.length (af (tF kept gone l k))/\au (Value.slice va l.length vc).ownBlock.toList w (Value.slice va l.length vc).ownBlock.toList wx)) (λi _=>l.length-(intOf i).toNat)
 case atStart=>exact⟨0,zq5 _,rfl,uC⟩
 case round =>
  clear uC;obtain⟨k,hk,rfl,hI⟩:=hrel;by_cases ar:k<l.length
  .have hd:decide ((k:Int)<(l.length:Int))=true:=(by simp;omega);obtain⟨g,cap,dQ,-,-,-⟩:=cR (uh hI).1 (by omega);simp only[Value.slice.injEq,true_and]at dQ;obtain⟨rfl,rfl⟩:=dQ;obtain⟨p,hp⟩:∃p,p=l[k]:=⟨_,rfl⟩;have hK:=Vt (kept:=kept) (gone:=gone) ar;have hr:=(uh hI).1;have dL:=Vu kept gone l k;have FI:wr.ownsRow 0 182 3 (.slice (some ⟨g,0,none⟩) (tF kept gone l k).length vc) (tF kept gone l k).length (af (tF kept gone l k)):=(by rw[dL];exact hr);obtain⟨-,x1,x2⟩:=aD FI (i:=k) (by omega);rw[hK,<-hp]at x1 x2;have f1:=hr.frozenAt (k*3+1);have f2:=hr.frozenAt (k*3+2);have i1:(0:Int)<=(k:Int):=(by omega);have i2:(k:Int)<(l.length:Int):=by omega
   -- what the two stores leave
   have dy:∀c:Nat,(wr.setCell ⟨g,k*3+1,none⟩ (.int .i64 (c:Int))).ownsRow 0 182 3 (.slice (some ⟨g,0,none⟩) l.length vc) l.length (af ((tF kept gone l k).set k ⟨p.k,c,p.r⟩)):=λc=>by
    have:=(hr.stored (k*3+1) (.int .i64 (c:Int))).1;rw[jq (by omega),hK,<-hp]at this;exact this
   have gQ:∀(w2:World) (c d:Nat),w2.ownsRow 0 182 3 (.slice (some ⟨g,0,none⟩) l.length vc) l.length (af ((tF kept gone l k).set k ⟨p.k,c,p.r⟩))->(w2.setCell ⟨g,k*3+2,none⟩ (.int .i64 (d:Int))).ownsRow 0 182 3 (.slice (some ⟨g,0,none⟩) l.length vc) l.length (af ((tF kept gone l k).set k ⟨p.k,c,d⟩)):=λw2 c d hw=>by
    have:=(hw.stored (k*3+2) (.int .i64 (d:Int))).1;rw[eX (by simp;omega)]at this;simpa[dL,ar] using this
   have r8:wr.ownsRow 0 182 3 (.slice (some ⟨g,0,none⟩) l.length vc) l.length (af ((tF kept gone l k).set k ⟨p.k,p.l,p.r⟩)):=by
    have e:(tF kept gone l k).set k ⟨p.k,p.l,p.r⟩=tF kept gone l k:=by
     have:(⟨p.k,p.l,p.r⟩:Pr)=(tF kept gone l k)[k]'(by omega):=by
      have h2:=jQ (l:=tF kept gone l k) (k:=k) (by omega);rw[<-h2,hK,<-hp]
     rw[this,set_getElem_self]
    rw[e];exact hr
   have sF:=ab r8;have cD:=ab dy;have cS:=ab gQ;have db:=ab (uh hI).2;have pX:Hid (tF kept gone l (k+1)=(tF kept gone l k).set k ⟨p.k,ek kept gone p.l,ek kept gone p.r⟩):=ab (by rw[QH ar,<-hp];rfl);clear hr FI hK dL hp r8 dy gQ hI;have y2:∀c:Nat,(wr.setCell ⟨g,k*3+1,none⟩ (.int .i64 (c:Int))).cell? ⟨g,k*3+2,none⟩=some (.int .i64 (p.r:Int)):=λc=>by
    rw[cell?_setCell_other _ _ _ _ (by simp)];exact x2
   have z2:∀c:Nat,(wr.setCell ⟨g,k*3+1,none⟩ (.int .i64 (c:Int))).frozen? ⟨g,k*3+2,none⟩=false:=λc=>(uh cD c).frozenAt (k*3+2);by_cases e1:p.l=gone
   .by_cases e2:p.r=gone
    .have b1:((p.l:Int)==(gone:Int))=true:=(by simp[e1]);have b2:((p.r:Int)==(gone:Int))=true:=(by simp[e2]);have HE:Hid (ek kept gone p.l=kept/\ek kept gone p.r=kept):=ab ⟨if_pos e1,if_pos e2⟩;clear e1 e2;go_wp2_with fail
     go_roundw
     case rel=>exact⟨k+1,by omega,by go_num,ab ⟨by rw[uh pX,(uh HE).1,(uh HE).2];exact uh cS _ kept kept (uh cD kept),((uh db).setCell (p:=⟨g,k*3+1,none⟩) (zq0 (by simp[Value.ownBlock])) _).setCell (p:=⟨g,k*3+2,none⟩) (zq0 (by simp[Value.ownBlock])) _⟩⟩
     case measure=>simp[intOf];omega
    .have b1:((p.l:Int)==(gone:Int))=true:=(by simp[e1]);have b2:((p.r:Int)==(gone:Int))=false:=(by simp;omega);have HE:Hid (ek kept gone p.l=kept/\ek kept gone p.r=p.r):=ab ⟨if_pos e1,if_neg e2⟩;clear e1 e2;go_wp2_with fail
     go_roundw
     case rel=>exact⟨k+1,by omega,by go_num,ab ⟨by rw[uh pX,(uh HE).1,(uh HE).2];exact uh cD kept,(uh db).setCell (p:=⟨g,k*3+1,none⟩) (zq0 (by simp[Value.ownBlock])) _⟩⟩
     case measure=>simp[intOf];omega
   .by_cases e2:p.r=gone
    .have b1:((p.l:Int)==(gone:Int))=false:=(by simp;omega);have b2:((p.r:Int)==(gone:Int))=true:=(by simp[e2]);have HE:Hid (ek kept gone p.l=p.l/\ek kept gone p.r=kept):=ab ⟨if_neg e1,if_pos e2⟩;clear e1 e2;go_wp2_with fail
     go_roundw
     case rel=>exact⟨k+1,by omega,by go_num,ab ⟨by rw[uh pX,(uh HE).1,(uh HE).2];exact uh cS _ p.l kept (uh sF),(uh db).setCell (p:=⟨g,k*3+2,none⟩) (zq0 (by simp[Value.ownBlock])) _⟩⟩
     case measure=>simp[intOf];omega
    .have b1:((p.l:Int)==(gone:Int))=false:=(by simp;omega);have b2:((p.r:Int)==(gone:Int))=false:=(by simp;omega);have HE:Hid (ek kept gone p.l=p.l/\ek kept gone p.r=p.r):=ab ⟨if_neg e1,if_neg e2⟩;clear e1 e2;go_wp2_with fail
     go_roundw
     case rel=>exact⟨k+1,by omega,by go_num,ab ⟨by rw[uh pX,(uh HE).1,(uh HE).2];exact uh sF,uh db⟩⟩
     case measure=>simp[intOf];omega
  .have hd:decide ((k:Int)<(l.length:Int))=false:=(by simp;omega);have HE:Hid (tF kept gone l k=l.map (qh kept gone)):=ab (by unfold tF;rw[take_of_length_le (by omega),drop_eq_nil_of_le (by omega),append_nil]);go_wp2_with fail
   go_end0
   exact⟨rfl,by rw[<-uh HE];exact(uh hI).1,(uh hI).2⟩
end
