import Derived.Test.YtciihepbeacppaaGreatM11
set_option maxRecDepth 100000
set_option maxHeartbeats 0
namespace Go.Proofs.YtciihepbeacppaaGreat
open Tryz Go.RowKit List World Below
set_option linter.unusedVariables false
def IB(f:CF)(p:Pr):Bool:=!(nmB f p.l||decide (p.r=p.l))&&decide (Da f.ow p.l=1)
def Ff(f:CF):Option Nat:=f.ow.findIdx? (IB f)
theorem Ys{l:List Pr}{P:Pr->Bool}{k:Nat}(hk:k<l.length)(hn:∀j,j<k->P (l.getD j au)=false)(h:P (l.getD k au)=true):l.findIdx? P=some k:=by
 rw[findIdx?_eq_some_iff_getElem];refine⟨hk,by rw[<-gS hk];exact h,λj hj=>?_⟩;have:=hn j hj;rw[gS (by omega)]at this;simpa using this
theorem SI{l:List Pr}{P:Pr->Bool}(hn:∀j,j<l.length->P (l.getD j au)=false):l.findIdx? P=none:=by
 rw[findIdx?_eq_none_iff];intro x hx;obtain⟨k,hk,rfl⟩:=mem_iff_getElem.1 hx;have:=hn k hk;rwa [gS hk]at this
section
variable {w:World} {A:Nat} {f:CF} {av ov:Value}
theorem CK(h:dF w A f av ov)(ho:f.ow.length<=100000):Calls prog 250 #[.pointer (some ⟨A,0,none⟩)] w λe w'=>e=.returned (.int .i64 (dp (Ff f)))/\Below w.heap.size w w':=by
 obtain⟨oa,oc,d7,hoc,hom⟩:=aj h.ow;subst d7;have H:=ab h;have IX:=ab (Below.refl w.heap.size w);clear h;go_enter func250,ntmps250;go_wp2_with fail
 go_loopw [3] (λi wx=>∃(k:Nat),k<=f.ow.length/\i=.int .i64 k/\Hid (Below w.heap.size w wx)/\Hid (∀j,j<k->IB f (f.ow.getD j au)=false)) (λi _=>f.ow.length-(intOf i).toNat)
 case atStart=>exact⟨0,zq5 _,rfl,IX,ab (λ_ h=>absurd h (by omega))⟩
 case round =>
  clear IX;obtain⟨k,hk,rfl,hb,hn⟩:=hrel;have hF:=(uh H).below (uh hb);have c6:=hF.c6;by_cases aq:k<f.ow.length
  .have hd:decide ((k:Int)<(f.ow.length:Int))=true:=(by simp;omega);obtain⟨g,cap,cM,-,-⟩:=az hF.ow aq;simp only[Value.slice.injEq,true_and]at cM;obtain⟨rfl,rfl⟩:=cM;obtain⟨x0,x1,x2⟩:=ax hF.ow aq;obtain⟨p,hp⟩:∃p,p=f.ow.getD k au:=⟨_,rfl⟩;rw[<-hp]at x0 x1 x2;have Ll:=ab (Ke hF p.l);have DA:Hid (Calls prog 262 #[.pointer (some ⟨A,0,none⟩),.int .i64 p.l] wr λe w'=>e=.returned (.int .i64 (Da f.ow p.l:Nat))/\Below w.heap.size w w'):=ab ((MG hF ho p.l).mono (by
    rintro e w' ⟨rfl,aL⟩;exact⟨rfl,(uh hb).trans (aL.mono (uh hb).size)⟩))
   have yY:IB f p=(!(nmB f p.l||decide (p.r=p.l))&&decide (Da f.ow p.l=1)):=rfl;have oM:Hid (IB f p=false->∀j,j<k+1->IB f (f.ow.getD j au)=false):=ab (λh0 j hj=>by
    by_cases e:j=k
    .rw[e,<-hp];exact h0
    .exact uh hn j (by omega))
   have HHT:Hid (IB f p=true->dp (Ff f)=(k:Int)):=ab (λh1=>by unfold Ff;rw[Ys aq (uh hn) (by rw[<-hp];exact h1)];rfl);have i1:(0:Int)<=(k:Int):=(by omega);have i2:(k:Int)<(f.ow.length:Int):=(by omega);obtain⟨b,yN⟩:∃b,b=nmB f p.l:=⟨_,rfl⟩;obtain⟨m,hm⟩:∃m,m=Da f.ow p.l:=⟨_,rfl⟩;have dJ:m<=100000:=(by rw[hm];exact zq3 (ME _ _) ho);rw[<-yN]at yY Ll;rw[<-hm]at yY DA;have HSM:=ab yY;clear hF hp yY yN hm;go_wp2_with fail
   refine(uh Ll).mono ?_;rintro e w1 ⟨rfl,rfl⟩;clear Ll;cases b with
   |true =>
    have HE:Hid (IB f p=false):=ab (by rw[uh HSM];simp);go_wp2_with fail
    go_roundw
    case rel=>exact⟨k+1,by omega,by go_num,hb,ab (uh oM (uh HE))⟩
    case measure=>simp[intOf];omega
   |false =>
    by_cases e1:p.r=p.l
    .have b1:((p.r:Int)==(p.l:Int))=true:=(by simp[e1]);have HE:Hid (IB f p=false):=ab (by rw[uh HSM];simp[e1]);clear e1;go_wp2_with fail
     go_roundw
     case rel=>exact⟨k+1,by omega,by go_num,hb,ab (uh oM (uh HE))⟩
     case measure=>simp[intOf];omega
    .have b1:((p.r:Int)==(p.l:Int))=false:=(by simp;omega);have HE0:Hid (IB f p=decide (m=1)):=ab (by rw[uh HSM];simp[e1]);clear e1;go_wp2_with fail
     refine(uh DA).mono ?_;rintro e w2 ⟨rfl,aL⟩;have cg:=ab aL;clear aL DA;by_cases e2:m=1
     .have b2:((m:Int)==(1:Int))=true:=(by simp[e2]);have HE:Hid (dp (Ff f)=(k:Int)):=ab (uh HHT (by rw[uh HE0];simp[e2]));clear e2;go_wp2_with fail
      go_ret;exact⟨bm (uh HE).symm,uh cg⟩
     .have b2:((m:Int)==(1:Int))=false:=(by simp;omega);have HE:Hid (IB f p=false):=ab (by rw[uh HE0];simp[e2]);clear e2;go_wp2_with fail
      go_roundw
      case rel=>exact⟨k+1,by omega,by go_num,cg,ab (uh oM (uh HE))⟩
      case measure=>simp[intOf];omega
  .have hd:decide ((k:Int)<(f.ow.length:Int))=false:=(by simp;omega);have HE:Hid (dp (Ff f)=-1):=ab (by unfold Ff;rw[SI (λj hj=>uh hn j (by omega))];rfl);clear hF;go_wp2_with fail
   go_ret;exact⟨bm (uh HE).symm,uh hb⟩
end
def bH(g:Pr->Pr)(l:List Pr)(k:Nat):List Pr:=(l.take k).map g++l.drop k
theorem iP(g:Pr->Pr)(l:List Pr)(k:Nat):(bH g l k).length=l.length:=by simp[bH];omega
theorem jV{g:Pr->Pr}{l:List Pr}{k:Nat}(hk:k<l.length):(bH g l k).getD k au=l.getD k au:=by
 rw[gS hk];unfold bH;rw[getD_eq_getElem?_getD,getElem?_append_right (by simp;omega)];simp[hk,Nat.min_eq_left (Nat.le_of_lt hk)]
theorem jW{g:Pr->Pr}{l:List Pr}{k:Nat}(hk:k<l.length):bH g l (k+1)=(bH g l k).set k (g (l.getD k au)):=by
 rw[gS hk];unfold bH;have e:l.drop k=l[k]::l.drop (k+1):=drop_eq_getElem_cons hk;have e2:(l.take (k+1)).map g=(l.take k).map g++[g l[k]]:=by
  rw[take_add_one,getElem?_eq_getElem hk,map_append];rfl
 have e3:((l.take k).map g).length=k:=by simp;omega
 rw[e2,e,set_append_right _ _ (by omega),e3,Nat.sub_self,set_cons_zero,append_assoc];rfl
theorem uw{g:Pr->Pr}{l:List Pr}{k:Nat}(hk:l.length<=k):bH g l k=l.map g:=by
 unfold bH;rw[take_of_length_le hk,drop_eq_nil_of_le hk,append_nil]
theorem xZ{l:List Pr}{k:Nat}(hk:k<l.length):l.set k (l.getD k au)=l:=by
 rw[gS hk,set_getElem_self]
def fo1(m e:Nat)(p:Pr):Pr:=if p.r=m then ⟨4,p.l,e⟩ else p
def qH(f:CF)(k:Nat):CF:={ f with ow:=rp (f.ow.map (fo1 (f.ow.getD k au).l (f.ow.getD k au).r)) k }
def fX:Nat->CF->CF
 |0,f=>f
 |n+1,f=>match Ff f with|none=>f|some k=>fX n (qH f k)
def Jq(f:CF):CF:=fX f.ow.length f
theorem Qf(l:List Pr)(i k:Nat):(pZ l i k).length=if i<k then k-1 else k:=by
 induction k with
 |zero=>simp[pZ]
 |succ k ih =>
  rw[ve,length_append,ih];by_cases h:k=i
  .rw[if_pos h,if_neg (by omega),if_pos (by omega)];simp
  .rw[if_neg h];by_cases h2:i<k
   .rw[if_pos h2,if_pos (by omega)];simp;omega
   .rw[if_neg h2,if_neg (by omega)];simp
theorem U5{l:List Pr}{k:Nat}(hk:k<l.length):(rp l k).length=l.length-1:=by
 unfold rp;rw[Qf,if_pos hk]
theorem abj{f:CF}{k:Nat}(h:Ff f=some k):k<f.ow.length:=by
 unfold Ff at h;rw[findIdx?_eq_some_iff_getElem]at h;exact h.1
section
variable {w:World} {A:Nat} {f:CF} {av ov:Value}
theorem M3(h:Fm w A f av ov)(ho:f.ow.length<=100000):Calls prog 228 #[.pointer (some ⟨A,0,none⟩)] w λe w'=>e=.returned (.tuple #[])/\∃ov',Fm w' A (Jq f) av ov'/\ar (aD A av ov) w (aD A av ov') w':=by
 have qf:=ab (CK h.is ho);have H:=ab h;clear h;go_enter func228,ntmps228;go_wp2_with fail
 refine(uh qf).mono ?_;rintro e w1 ⟨rfl,a7⟩;have bX:Hid (Fm w1 A f av ov/\ar (aD A av ov) w (aD A av ov) w1/\fX f.ow.length f=Jq f):=ab ⟨(uh H).below a7,ar.ofBw a7,rfl⟩;clear a7 qf;go_wp2_with fail
 go_loopg [2] f.ow.length (λgn kv wx=>∃(F:CF) (ov':Value),F.ow.length=gn/\gn<=f.ow.length/\kv=.int .i64 (dp (Ff F))/\Hid (Fm wx A F av ov'/\ar (aD A av ov) w (aD A av ov') wx/\fX gn F=Jq f))
 case atStart=>exact⟨f,ov,rfl,zq4 _,rfl,bX⟩
 case round =>
  clear bX;obtain⟨F,ov',cN,hgn,rfl,hI⟩:=hrel;obtain⟨G,hG⟩:∃G,G=gk:=⟨_,rfl⟩;cases yY:Ff F with
  |none =>
   have HE:Hid (F=Jq f):=ab (by
    have:=(uh hI).2.2;rw[<-this];cases gk with
    |zero=>rfl
    |succ n=>simp[fX,yY])
   clear yY;go_wp2_with fail
   go_end0
   exact⟨rfl,ov',by rw[<-uh HE];exact(uh hI).1,(uh hI).2.1⟩
  |some k =>
   have jf:=abj yY;have oM:Hid (fX (gk-1) (qH F k)=Jq f):=ab (by
    have h1:=(uh hI).2.2;rw[<-h1,show gk=gk-1+1 by omega];simp[fX,yY])
   obtain⟨p,hp⟩:∃p,p=F.ow.getD k au:=⟨_,rfl⟩;have KG:Hid (qH F k={ F with ow:=rp (F.ow.map (fo1 p.l p.r)) k }):=ab (by unfold qH;rw[<-hp]);obtain⟨g,cap,cM,kj,fQ⟩:=az (uh hI).1.is.ow jf;subst cM;have c6:=(uh hI).1.is.c6;obtain⟨-,x1,x2⟩:=ax (uh hI).1.is.ow jf;rw[<-hp]at x1 x2;have d0:decide ((0:Int)<=(k:Int))=true:=(by simp);have i1:(0:Int)<=(k:Int):=(by omega);have i2:(k:Int)<(F.ow.length:Int):=(by omega);have dD:Hid (Fm wr A { F with ow:=bH (fo1 p.l p.r) F.ow 0 } av (.slice (some ⟨g,0,none⟩) F.ow.length cap)/\ar (aD A av ov) w (aD A av (.slice (some ⟨g,0,none⟩) F.ow.length cap)) wr):=ab ⟨by simpa[bH] using (uh hI).1,(uh hI).2.1⟩;have HLN:=ab cN;clear yY hp hI cN;rw[show dp (some k)=(k:Int) from rfl];go_wp2_with fail
   go_loopg [5] F.ow.length (λgn i wx=>∃(j:Nat),j+gn=F.ow.length/\i=.int .i64 j/\Hid (Fm wx A { F with ow:=bH (fo1 p.l p.r) F.ow j } av (.slice (some ⟨g,0,none⟩) F.ow.length cap)/\ar (aD A av ov) w (aD A av (.slice (some ⟨g,0,none⟩) F.ow.length cap)) wx))
   case atStart=>exact⟨0,by omega,rfl,dD⟩
   case round =>
    clear dD x1 x2 c6;obtain⟨j,xD,rfl,hJ⟩:=hrel;obtain⟨G2,BF⟩:∃G2,G2=gk:=⟨_,rfl⟩;have c6:=(uh hJ).1.is.c6;have dJ:=iP (fo1 p.l p.r) F.ow j;by_cases aq:j<F.ow.length
    .have hd:decide ((j:Int)<(F.ow.length:Int))=true:=(by simp;omega);have aR:wr.ownsRow 0 182 3 (.slice (some ⟨g,0,none⟩) F.ow.length cap) F.ow.length (af (bH (fo1 p.l p.r) F.ow j)):=by
      have:=(uh hJ).1.is.ow;rwa [show({ F with ow:=bH (fo1 p.l p.r) F.ow j }:CF).ow.length=F.ow.length from dJ]at this
     have ul:wr.ownsRow 0 182 3 (.slice (some ⟨g,0,none⟩) (bH (fo1 p.l p.r) F.ow j).length cap) (bH (fo1 p.l p.r) F.ow j).length (af (bH (fo1 p.l p.r) F.ow j)):=(by rw[dJ];exact aR);obtain⟨y0,-,y2⟩:=ax ul (i:=j) (by omega);obtain⟨q,hq⟩:∃q,q=F.ow.getD j au:=⟨_,rfl⟩;rw[jV aq,<-hq]at y0 y2;have z0:=aR.frozenAt (j*3);have k1:(0:Int)<=(j:Int):=(by omega);have k2:(j:Int)<(F.ow.length:Int):=(by omega);by_cases e1:q.r=p.l
     .have b1:((q.r:Int)==(p.l:Int))=true:=(by simp[e1]);have r1:=(aR.stored (j*3) (.int .i64 4)).1;rw[show(Value.int .i64 4)=Value.int .i64 ((4:Nat):Int) from rfl,il (by omega),jV aq,<-hq]at r1;have z2:(wr.setCell ⟨g,j*3,none⟩ (.int .i64 4)).frozen? ⟨g,j*3+2,none⟩=false:=r1.frozenAt (j*3+2);have y2':(wr.setCell ⟨g,j*3,none⟩ (.int .i64 4)).cell? ⟨g,j*3+2,none⟩=some (.int .i64 (q.r:Int)):=(by rw[cell?_setCell_other _ _ _ _ (by simp)];exact y2);have r2:=(r1.stored (j*3+2) (.int .i64 (p.r:Int))).1;rw[dB (by simp;omega)]at r2;have e2:((bH (fo1 p.l p.r) F.ow j).set j ⟨4,q.l,q.r⟩).set j ⟨(((bH (fo1 p.l p.r) F.ow j).set j ⟨4,q.l,q.r⟩).getD j au).k,(((bH (fo1 p.l p.r) F.ow j).set j ⟨4,q.l,q.r⟩).getD j au).l,p.r⟩=bH (fo1 p.l p.r) F.ow (j+1):=by
       rw[jW aq,<-hq,set_set];have:((bH (fo1 p.l p.r) F.ow j).set j ⟨4,q.l,q.r⟩).getD j au=⟨4,q.l,q.r⟩:=by
        rw[getD_eq_getElem?_getD,getElem?_set_self (by omega)];rfl
       rw[this];unfold fo1;rw[if_pos e1]
      rw[e2]at r2;have hs:ar (Value.slice (some ⟨g,0,none⟩) F.ow.length cap).ownBlock.toList wr (Value.slice (some ⟨g,0,none⟩) F.ow.length cap).ownBlock.toList ((wr.setCell ⟨g,j*3,none⟩ (.int .i64 4)).setCell ⟨g,j*3+2,none⟩ (.int .i64 (p.r:Int))):=((ar.refl _ _).setCell (p:=⟨g,j*3,none⟩) (zq0 (by simp[Value.ownBlock])) _).setCell (p:=⟨g,j*3+2,none⟩) (zq0 (by simp[Value.ownBlock])) _;have hN:=(uh hJ).1.newRow (ow':=bH (fo1 p.l p.r) F.ow (j+1)) (by rw[iP,iP]) (by rw[show({ F with ow:=bH (fo1 p.l p.r) F.ow j }:CF).ow.length=F.ow.length from dJ];exact r2) hs;have c6':(wr.setCell ⟨g,j*3,none⟩ (.int .i64 4)).cell? ⟨A,6,none⟩=some (.slice (some ⟨g,0,none⟩) F.ow.length cap):=by
       rw[cell?_setCell_other _ _ _ _ (by intro e;have:=(uh hJ).1.nds.2.1;simp at e;exact this (by rw[e.1];rfl))];exact c6
      have HN:Hid (Fm ((wr.setCell ⟨g,j*3,none⟩ (.int .i64 4)).setCell ⟨g,j*3+2,none⟩ (.int .i64 (p.r:Int))) A { F with ow:=bH (fo1 p.l p.r) F.ow (j+1) } av (.slice (some ⟨g,0,none⟩) F.ow.length cap)/\ar (aD A av ov) w (aD A av (.slice (some ⟨g,0,none⟩) F.ow.length cap)) ((wr.setCell ⟨g,j*3,none⟩ (.int .i64 4)).setCell ⟨g,j*3+2,none⟩ (.int .i64 (p.r:Int)))):=ab ⟨hN.1,(uh hJ).2.trans hN.2⟩;clear e1 r1 r2 e2 hs hN aR ul hq dJ hJ;go_wp2_with fail
      go_roundg (G2-1)
      case rel=>exact⟨j+1,by omega,by go_num,HN⟩
      case measure=>omega
     .have b1:((q.r:Int)==(p.l:Int))=false:=(by simp;omega);have HE:Hid (bH (fo1 p.l p.r) F.ow (j+1)=bH (fo1 p.l p.r) F.ow j):=ab (by
       rw[jW aq,<-hq,show fo1 p.l p.r q=q from if_neg e1];have h1:=xZ (l:=bH (fo1 p.l p.r) F.ow j) (k:=j) (by omega);rw[jV aq,<-hq]at h1;exact h1)
      clear e1 aR ul hq dJ;go_wp2_with fail
      go_roundg (G2-1)
      case rel=>exact⟨j+1,by omega,by go_num,ab (by rw[uh HE];exact uh hJ)⟩
      case measure=>omega
    .have hd:decide ((j:Int)<(F.ow.length:Int))=false:=(by simp;omega);have hF:Fm wr A { F with ow:=F.ow.map (fo1 p.l p.r) } av (.slice (some ⟨g,0,none⟩) F.ow.length cap):=by
      have:=(uh hJ).1;rwa [uw (by omega)]at this
     have HT:=ab (xr hF (by simp;have:=uh HLN;omega) k);have cK:=ab (uh hJ).2;clear hF dJ hJ;go_wp2_with fail
     refine(uh HT).mono ?_;rintro e w2 ⟨rfl,ov2,nA,fR⟩;have sP:(rp (F.ow.map (fo1 p.l p.r)) k).length=F.ow.length-1:=(by rw[U5 (by simpa using jf)];simp);have cH:=ab (CK nA.is (by show(rp (F.ow.map (fo1 p.l p.r)) k).length<=100000;have:=uh HLN;omega));have rt:=ab nA;have RJ:=ab ((uh cK).trans fR);have HL2:=ab sP;clear nA fR sP HT c6;go_wp2_with fail
     refine(uh cH).mono ?_;rintro e w3 ⟨rfl,cB⟩;have HF3:Hid (Fm w3 A (qH F k) av ov2/\ar (aD A av ov) w (aD A av ov2) w3):=ab ⟨by rw[uh KG];exact(uh rt).below cB,(uh RJ).trans (ar.ofBw cB)⟩;clear cB cH;go_wp2_with fail
     go_roundg (G-1)
     case rel =>
      have h1:=uh HLN;refine⟨qH F k,ov2,?_,by omega,by rw[uh KG],ab ⟨(uh HF3).1,(uh HF3).2,?_⟩⟩
      .rw[uh KG];show(rp (F.ow.map (fo1 p.l p.r)) k).length=_;rw[uh HL2];omega
      .rw[hG];exact uh oM
     case measure=>have:=uh HLN;omega
end
def KL(p q:Pr):Bool:=decide (p.l<q.l)||(decide (p.l=q.l)&&decide (p.r<q.r))
def prV(p:Pr):Value:=.agg #[.int .i64 (p.k:Int),.int .i64 (p.l:Int),.int .i64 (p.r:Int)]
section
variable {w:World}
theorem DR(p q:Pr):Calls prog 249 #[prV p,prV q] w λe w'=>e=.returned (.bool (KL p q))/\Below w.heap.size w w':=by
 have HB:Hid (Below w.heap.size w ((w.alloc (.cells #[.int .i64 (p.k:Int),.int .i64 (p.l:Int),.int .i64 (p.r:Int)] 182)).alloc (.cells #[.int .i64 (q.k:Int),.int .i64 (q.l:Int),.int .i64 (q.r:Int)] 182))):=ab (((Below.refl _ _).alloc (zq4 _) _).alloc (by simp) _);unfold prV;obtain⟨b,hb⟩:∃b,b=KL p q:=⟨_,rfl⟩;rw[<-hb];unfold KL at hb;obtain⟨pk,pl,pr⟩:=p;obtain⟨qk,ql,qr⟩:=q;simp only at hb ⊢;by_cases h1:pl<ql
 .have HE:Hid (b=true):=ab (by rw[hb];simp[h1]);clear hb;go_enter func249,ntmps249;go_wp2_with fail
  go_ret;exact⟨aB (uh HE).symm,uh HB⟩
 .by_cases h2:pl=ql
  .subst h2;have HE:Hid (b=decide (pr<qr)):=ab (by rw[hb];simp);clear hb h1;go_enter func249,ntmps249;go_wp2_with fail
   go_ret;exact⟨aB (uh HE).symm,uh HB⟩
  .have HE:Hid (b=false):=ab (by rw[hb];simp[h1,h2]);have h3:ql<pl:=(by omega);clear hb h1;go_enter func249,ntmps249;go_wp2_with fail
   go_ret;exact⟨aB (by rw[uh HE];simp;omega),uh HB⟩
theorem BD(a b:Nat):Calls prog 265 #[.int .i64 a,.int .i64 b] w λe w'=>e=.returned (.int .i64 (max a b:Nat))/\w'=w:=by
 by_cases h:b<a
 .have HE:Hid (max a b=a):=ab (by omega);go_enter func265,ntmps265;go_wp2_with fail
  go_ret;exact⟨bm (by rw[uh HE]),rfl⟩
 .have HE:Hid (max a b=b):=ab (by omega);go_enter func265,ntmps265;go_wp2_with fail
  go_ret;exact⟨bm (by rw[uh HE]),rfl⟩
end
def qq(m:Nat)(l:List Pr):Nat:=l.foldl (λm p=>max (max m p.l) p.r) m
def pN(f:CF):Nat:=max (max (max (max (max 0 (f.cl.getD 0 0)) (f.cl.getD 1 0)) (f.cl.getD 2 0)) (f.cl.getD 3 0)) (f.cl.getD 4 0)
def aI(f:CF):Nat:=qq (qq (pN f) f.ow) f.ap+1
theorem Cs{m:Nat}{l:List Pr}{k:Nat}(hk:k<l.length):qq m (l.take (k+1))=max (max (qq m (l.take k)) (l.getD k au).l) (l.getD k au).r:=by
 rw[gS hk];unfold qq;rw[take_add_one,getElem?_eq_getElem hk,foldl_append];rfl
section
variable {w:World} {A:Nat} {f:CF} {av ov:Value}
theorem tX(h:dF w A f av ov)(ha:f.ap.length<=100000)(ho:f.ow.length<=100000)(hm:aI f<=100000):Calls prog 258 #[.pointer (some ⟨A,0,none⟩)] w λe w'=>e=.returned (.int .i64 (aI f:Nat))/\Below w.heap.size w w':=by
 obtain⟨oa,oc,d7,-,-⟩:=aj h.ow;subst d7;obtain⟨aa,ac,jO,-,-⟩:=aj h.ap;subst jO;have x0:=h.cls (i:=0) (by omega);have x1:=h.cls (i:=1) (by omega);have x2:=h.cls (i:=2) (by omega);have x3:=h.cls (i:=3) (by omega);have x4:=h.cls (i:=4) (by omega);unfold fH at x0 x1 x2 x3 x4;obtain⟨y0,e0⟩:∃y,y=f.cl.getD 0 0:=⟨_,rfl⟩;obtain⟨y1,e1⟩:∃y,y=f.cl.getD 1 0:=⟨_,rfl⟩;obtain⟨y2,e2⟩:∃y,y=f.cl.getD 2 0:=⟨_,rfl⟩;obtain⟨y3,e3⟩:∃y,y=f.cl.getD 3 0:=⟨_,rfl⟩;obtain⟨y4,e4⟩:∃y,y=f.cl.getD 4 0:=⟨_,rfl⟩;have HC:Hid (pN f=max (max (max (max (max 0 y0) y1) y2) y3) y4):=ab (by unfold pN;rw[e0,e1,e2,e3,e4]);rw[<-e0]at x0;rw[<-e1]at x1;rw[<-e2]at x2;rw[<-e3]at x3;rw[<-e4]at x4;have j0:=za (.int .i64 (y0:Int)) (.int .i64 (y1:Int)) (.int .i64 (y2:Int)) (.int .i64 (y3:Int)) (.int .i64 (y4:Int));have j1:=zb (.int .i64 (y0:Int)) (.int .i64 (y1:Int)) (.int .i64 (y2:Int)) (.int .i64 (y3:Int)) (.int .i64 (y4:Int));have j2:=zc (.int .i64 (y0:Int)) (.int .i64 (y1:Int)) (.int .i64 (y2:Int)) (.int .i64 (y3:Int)) (.int .i64 (y4:Int));have j3:=zd (.int .i64 (y0:Int)) (.int .i64 (y1:Int)) (.int .i64 (y2:Int)) (.int .i64 (y3:Int)) (.int .i64 (y4:Int));have j4:=ze (.int .i64 (y0:Int)) (.int .i64 (y1:Int)) (.int .i64 (y2:Int)) (.int .i64 (y3:Int)) (.int .i64 (y4:Int));have c6:=h.c6;have c5:=h.c5;have H:=ab h;have HM:=ab hm;have HG:Hid (∀(W:World) (a b:Nat),Calls prog 265 #[.int .i64 a,.int .i64 b] W λe w'=>e=.returned (.int .i64 (max a b:Nat))/\w'=W):=ab (λW a b=>BD a b);clear h e0 e1 e2 e3 e4 hm;go_enter func258,ntmps258;go_wp2_with fail
 go_loop [3,14] (λm i=>∃(k:Nat),k<=5/\i=.int .i64 k/\m=.int .i64 ((([y0,y1,y2,y3,y4].take k).foldl max 0:Nat):Int)) (λ_ i=>5-(intOf i).toNat)
 case atStart=>exact⟨0,zq5 _,rfl,rfl⟩
 case round =>
  obtain⟨k,hk,rfl,rfl⟩:=hrel;obtain⟨m,AC⟩:∃m,m=([y0,y1,y2,y3,y4].take k).foldl max 0:=⟨_,rfl⟩;rw[<-AC];have I2:=ab AC;clear AC;have ub:k=0\/k=1\/k=2\/k=3\/k=4\/k=5:=by omega
  rcases ub with rfl|rfl|rfl|rfl|rfl|rfl
  .go_wp2_with fail
   refine(uh HG _ _ _).mono ?_;rintro e w1 ⟨rfl,rfl⟩;go_wp2_with fail
   go_round
   case rel=>exact⟨1,by omega,by go_num,by rw[uh I2];rfl⟩
   case measure=>simp[intOf]
  .go_wp2_with fail
   refine(uh HG _ _ _).mono ?_;rintro e w1 ⟨rfl,rfl⟩;go_wp2_with fail
   go_round
   case rel=>exact⟨2,by omega,by go_num,by rw[uh I2];rfl⟩
   case measure=>simp[intOf]
  .go_wp2_with fail
   refine(uh HG _ _ _).mono ?_;rintro e w1 ⟨rfl,rfl⟩;go_wp2_with fail
   go_round
   case rel=>exact⟨3,by omega,by go_num,by rw[uh I2];rfl⟩
   case measure=>simp[intOf]
  .go_wp2_with fail
   refine(uh HG _ _ _).mono ?_;rintro e w1 ⟨rfl,rfl⟩;go_wp2_with fail
   go_round
   case rel=>exact⟨4,by omega,by go_num,by rw[uh I2];rfl⟩
   case measure=>simp[intOf]
  .go_wp2_with fail
   refine(uh HG _ _ _).mono ?_;rintro e w1 ⟨rfl,rfl⟩;go_wp2_with fail
   go_round
   case rel=>exact⟨5,by omega,by go_num,by rw[uh I2];rfl⟩
   case measure=>simp[intOf]
  .have hmc:m=pN f:=(by rw[uh I2,uh HC];rfl);have IX:=ab (Below.refl w.heap.size w);have cK:Hid (m=qq (pN f) (f.ow.take 0)):=ab (by rw[hmc];rfl);clear I2 hmc j0 j1 j2 j3 j4 x0 x1 x2 x3 x4 HC;go_wp2_with fail
   go_loopw [3,26] (λmv i wx=>∃(k:Nat),k<=f.ow.length/\i=.int .i64 k/\mv=.int .i64 (qq (pN f) (f.ow.take k):Nat)/\Hid (Below w.heap.size w wx)) (λ_ i _=>f.ow.length-(intOf i).toNat)
   case atStart=>exact⟨0,zq5 _,rfl,by rw[<-uh cK],IX⟩
   case round =>
    clear cK IX;obtain⟨k,hk,rfl,rfl,hb⟩:=hrel;obtain⟨m,AC⟩:∃m,m=qq (pN f) (f.ow.take k):=⟨_,rfl⟩;rw[<-AC];have hF:=(uh H).below (uh hb);by_cases aq:k<f.ow.length
    .have hd:decide ((k:Int)<(f.ow.length:Int))=true:=(by simp;omega);obtain⟨g,cap,cM,-,-⟩:=az hF.ow aq;simp only[Value.slice.injEq,true_and]at cM;obtain⟨rfl,rfl⟩:=cM;obtain⟨x0,x1,x2⟩:=ax hF.ow aq;have aE:=Cs (m:=pN f) aq;obtain⟨p,hp⟩:∃p,p=f.ow.getD k au:=⟨_,rfl⟩;rw[<-hp]at x0 x1 x2 aE;rw[<-AC]at aE;have cK:=ab aE;have dm:Hid (Below w.heap.size w (wr.alloc (.cells #[.int .i64 (p.k:Int),.int .i64 (p.l:Int),.int .i64 (p.r:Int)] 182))):=ab ((uh hb).alloc (uh hb).size _);have i1:(0:Int)<=(k:Int):=(by omega);have i2:(k:Int)<(f.ow.length:Int):=(by omega);clear hF hp aE AC;go_wp2_with fail
     refine(uh HG _ _ _).mono ?_;rintro e w1 ⟨rfl,rfl⟩;go_wp2_with fail
     refine(uh HG _ _ _).mono ?_;rintro e w1 ⟨rfl,rfl⟩;go_wp2_with fail
     go_roundw
     case rel=>exact⟨k+1,by omega,by go_num,by rw[uh cK,Nat.max_assoc],dm⟩
     case measure=>simp[intOf];omega
    .have hd:decide ((k:Int)<(f.ow.length:Int))=false:=(by simp;omega);have gB:m=qq (qq (pN f) f.ow) (f.ap.take 0):=(by rw[AC,take_of_length_le (by omega)];rfl);have Vv:=ab gB;have c5':=hF.c5;clear hF AC gB;go_wp2_with fail
     go_loopw [3,44] (λmv i wx=>∃(k:Nat),k<=f.ap.length/\i=.int .i64 k/\mv=.int .i64 (qq (qq (pN f) f.ow) (f.ap.take k):Nat)/\Hid (Below w.heap.size w wx)) (λ_ i _=>f.ap.length-(intOf i).toNat)
     case atStart=>exact⟨0,zq5 _,rfl,by rw[<-uh Vv],hb⟩
     case round =>
      clear Vv hb;obtain⟨k2,sN,rfl,rfl,hb⟩:=hrel;obtain⟨m2,AC⟩:∃m,m=qq (qq (pN f) f.ow) (f.ap.take k2):=⟨_,rfl⟩;rw[<-AC];have hF:=(uh H).below (uh hb);by_cases bI:k2<f.ap.length
      .have jb:decide ((k2:Int)<(f.ap.length:Int))=true:=(by simp;omega);obtain⟨g,cap,cM,-,-⟩:=az hF.ap bI;simp only[Value.slice.injEq,true_and]at cM;obtain⟨rfl,rfl⟩:=cM;obtain⟨x0,x1,x2⟩:=ax hF.ap bI;have aE:=Cs (m:=qq (pN f) f.ow) bI;obtain⟨p,hp⟩:∃p,p=f.ap.getD k2 au:=⟨_,rfl⟩;rw[<-hp]at x0 x1 x2 aE;rw[<-AC]at aE;have cK:=ab aE;have dm:Hid (Below w.heap.size w (wr.alloc (.cells #[.int .i64 (p.k:Int),.int .i64 (p.l:Int),.int .i64 (p.r:Int)] 182))):=ab ((uh hb).alloc (uh hb).size _);have i1:(0:Int)<=(k2:Int):=(by omega);have i2:(k2:Int)<(f.ap.length:Int):=(by omega);clear hF hp aE AC;go_wp2_with fail
       refine(uh HG _ _ _).mono ?_;rintro e w1 ⟨rfl,rfl⟩;go_wp2_with fail
       refine(uh HG _ _ _).mono ?_;rintro e w1 ⟨rfl,rfl⟩;go_wp2_with fail
       go_roundw
       case rel=>exact⟨k2+1,by omega,by go_num,by rw[uh cK,Nat.max_assoc],dm⟩
       case measure=>simp[intOf];omega
      .have jb:decide ((k2:Int)<(f.ap.length:Int))=false:=(by simp;omega);have hE:m2+1=aI f:=(by unfold aI;rw[AC,take_of_length_le (by omega)]);have dJ:m2<=100000:=(by have:=uh HM;omega);have HE:=ab hE;clear hF AC hE;go_wp2_with fail
       go_ret;exact⟨bm (by rw[<-uh HE];go_num),uh hb⟩
end
def jJ(f:CF):List Nat:=[f.cl.getD 0 0,f.cl.getD 1 0,f.cl.getD 2 0,f.cl.getD 3 0,f.cl.getD 4 0]
def db(f:CF):List Nat:=jJ f++f.ow.flatMap (λp=>[p.l,p.r])
def yD(f:CF)(p:Pr):Bool:=decide (p.l∈db f)&&decide (p.r∈db f)&&!qA f p.l p.r
def my(f:CF):CF:={ f with ap:=f.ap.filter (yD f) }
def gV(ms:List Nat)(c:Nat):List Nat:=if c∈ms then ms else ms++[c]
def Bz(ms:List Nat)(c:Nat):Nat:=if c∈ms then ms.idxOf c+1 else 0
def ya(f:CF)(k:Nat)(ms:List Nat):List Nat :=
 match cR f.ow (ms.getD k 0) with
 |some i=>gV ms (f.ow.getD i au).r
 |none=>ms
def ni(f:CF):Nat->Nat->List Nat->List Nat
 |0,_,ms=>ms
 |n+1,k,ms=>if k<ms.length then ni f n (k+1) (ya f k ms) else ms
def xV(f:CF)(ms:List Nat)(p:Pr):List Nat:=ni f 25 ms.length (gV ms p.l)
def eF(f:CF):List Nat:=f.ow.foldl (xV f) (ni f 25 0 ((jJ f).foldl gV []))
def qs(ms:List Nat)(p:Pr):Pr:=⟨p.k,ms.idxOf p.l,ms.idxOf p.r⟩
def uQ(f:CF):CF:=⟨(jJ f).map (λc=>(eF f).idxOf c),f.ap.map (qs (eF f)),f.ow.map (qs (eF f))⟩
def dY(ms:List Nat):Prop:=ms.Nodup/\∀c∈ms,c<24
theorem dY.len{ms:List Nat}(h:dY ms):ms.length<=24:=by
 have:=List.Nodup.length_le_of_subset h.1 (l₂:=range 24) (λc hc=>by simpa using h.2 c hc);simpa using this
theorem dY.nil:dY []:=⟨nodup_nil,λc hc=>by simp at hc⟩
theorem dY.me{ms:List Nat}(h:dY ms){c:Nat}(hc:c<24):dY (gV ms c):=by
 unfold gV;split
 .exact h
 .rename_i hn;refine⟨?_,λd hd=>?_⟩
  .rw[nodup_append];exact⟨h.1,by simp,λa ha b hb e=>by simp only[mem_singleton]at hb;subst hb;subst e;exact hn ha⟩
  .rw[mem_append,mem_singleton]at hd;rcases hd with hd|rfl
   .exact h.2 d hd
   .exact hc
theorem sT{ms:List Nat}{c d:Nat}(h:d∈ms):d∈gV ms c:=by unfold gV;split;exact h;exact mem_append_left _ h
theorem zx(ms:List Nat)(c:Nat):c∈gV ms c:=by unfold gV;split;assumption;simp
theorem Ua(ms:List Nat)(c:Nat):ms.length<=(gV ms c).length:=by unfold gV;split <;> simp
theorem Hu{ms:List Nat}{c k:Nat}(hk:k<ms.length):(gV ms c).getD k 0=ms.getD k 0:=by
 unfold gV;split
 .rfl
 .simp[getD_eq_getElem?_getD,getElem?_append_left hk]
theorem eO:∀{l:List Pr} {c i:Nat},cR l c=some i->i<l.length/\(l.getD i au).l=c
 |[],_,_,h=>by simp[cR]at h
 |p::r,c,i,h=>by
  unfold cR at h;split at h
  .injection h with h;subst h;rename_i e;exact⟨by simp,by simpa using e⟩
  .obtain⟨j,hj,rfl⟩:=Option.map_eq_some_iff.1 h;obtain⟨h1,h2⟩:=eO hj;exact⟨by simp only[length_cons];omega,by rw[getD_cons_succ];exact h2⟩
theorem yr{l:List Pr}{c i:Nat}(h:cR l c=some i):l.getD i au∈l:=by
 obtain⟨h1,-⟩:=eO h;rw[getD_eq_getElem?_getD,getElem?_eq_getElem h1];exact getElem_mem h1
def vt(l:List Pr):Prop:=(l.map (·.l)).Nodup
theorem LX{l:List Pr}{p:Pr}(hN:vt l)(hp:p∈l):∃i,cR l p.l=some i/\l.getD i au=p:=by
 induction l with
 |nil=>simp at hp
 |cons q r ih =>
  unfold vt at hN;rw[map_cons,nodup_cons]at hN;rcases mem_cons.1 hp with rfl|hp
  .exact⟨0,by simp[cR],by simp⟩
  .obtain⟨i,h1,h2⟩:=ih hN.2 hp;have aJ:¬ (q.l=p.l):=λe=>hN.1 (by rw[e];exact mem_map_of_mem (f:=(·.l)) hp);exact⟨i+1,by unfold cR;rw[if_neg aJ,h1];rfl,by simpa using h2⟩
section
variable {f:CF}
theorem P7(hO:∀p∈f.ow,p.l<24/\p.r<24){k:Nat}{ms:List Nat}(h:dY ms):dY (ya f k ms):=by
 unfold ya;split
 .rename_i i hi;exact h.me (hO _ (yr hi)).2
 .exact h
theorem UT{k:Nat}{ms:List Nat}{d:Nat}(h:d∈ms):d∈ya f k ms:=by unfold ya;split;exact sT h;exact h
theorem IF(f:CF)(k:Nat)(ms:List Nat):ms.length<=(ya f k ms).length:=by unfold ya;split;exact Ua _ _;exact zq4 _
theorem IE{k:Nat}{ms:List Nat}{j:Nat}(h:j<ms.length):(ya f k ms).getD j 0=ms.getD j 0:=by unfold ya;split;exact Hu h;rfl
theorem Fh(hO:∀p∈f.ow,p.l<24/\p.r<24):∀(n k:Nat) {ms:List Nat},dY ms->dY (ni f n k ms)
 |0,_,_,h=>h
 |n+1,k,ms,h=>by
  unfold ni;split
  .exact Fh hO n (k+1) (P7 hO h)
  .exact h
theorem mN:∀(n k:Nat) {ms:List Nat} {d:Nat},d∈ms->d∈ni f n k ms
 |0,_,_,_,h=>h
 |n+1,k,ms,d,h=>by
  unfold ni;split
  .exact mN n (k+1) (UT h)
  .exact h
theorem zP:∀(n k:Nat) {ms:List Nat} {j:Nat},j<ms.length->j<(ni f n k ms).length/\(ni f n k ms).getD j 0=ms.getD j 0
 |0,_,_,_,h=>⟨h,rfl⟩
 |n+1,k,ms,j,h=>by
  unfold ni;split
  .obtain⟨h1,h2⟩:=zP n (k+1) (ms:=ya f k ms) (j:=j) (zq6 h (IF f k ms));exact⟨h1,h2.trans (IE h)⟩
  .exact⟨h,rfl⟩
theorem ID(hO:∀p∈f.ow,p.l<24/\p.r<24):∀(n k:Nat) {ms:List Nat},dY ms->24<n+k->∀j,k<=j->j<(ni f n k ms).length->∀i,cR f.ow ((ni f n k ms).getD j 0)=some i->(f.ow.getD i au).r∈ni f n k ms
 |0,k,ms,h,hk,j,hj,hl,i,hi=>by
  have:=h.len;unfold ni at hl;omega
 |n+1,k,ms,h,hk,j,hj,hl,i,hi=>by
  unfold ni at hl hi ⊢;split at hl
  .rename_i aq;rw[if_pos aq]at hi ⊢;by_cases e:k=j
   .subst e;obtain⟨-,h2⟩:=zP (f:=f) n (k+1) (ms:=ya f k ms) (j:=k) (zq6 aq (IF f k ms));rw[h2,IE aq]at hi;refine mN n (k+1) ?_;unfold ya;rw[hi];exact zx _ _
   .exact ID hO n (k+1) (P7 hO h) (by omega) j (by omega) hl i hi
  .rename_i aq;omega
def Clo(f:CF)(ms:List Nat):Prop:=∀c∈ms,∀i,cR f.ow c=some i->(f.ow.getD i au).r∈ms
theorem Mc(hO:∀p∈f.ow,p.l<24/\p.r<24){n k:Nat}{ms:List Nat}(h:dY ms)(hk:24<n+k)(hc:∀j,j<k->j<ms.length->∀i,cR f.ow (ms.getD j 0)=some i->(f.ow.getD i au).r∈ms):Clo f (ni f n k ms):=by
 intro c hc' i hi;obtain⟨j,hj,rfl⟩:=mem_iff_getElem.1 hc';have e:(ni f n k ms).getD j 0=(ni f n k ms)[j]:=by rw[getD_eq_getElem?_getD,getElem?_eq_getElem hj];rfl
 by_cases aq:k<=j
 .exact ID hO n k h hk j aq hj i (by rw[e];exact hi)
 .by_cases rG:j<ms.length
  .obtain⟨-,h2⟩:=zP (f:=f) n k rG;exact mN n k (hc j (by omega) rG i (by rw[<-h2,e];exact hi))
  .exfalso;cases n with
   |zero=>unfold ni at hj;omega
   |succ n =>
    unfold ni at hj;rw[if_neg (by omega)]at hj;omega
theorem aa2(hO:∀p∈f.ow,p.l<24/\p.r<24){ms:List Nat}{p:Pr}(hp:p∈f.ow)(h:dY ms)(hc:Clo f ms):dY (xV f ms p)/\Clo f (xV f ms p)/\p.l∈xV f ms p/\∀d∈ms,d∈xV f ms p:=by
 have h1:=h.me (hO p hp).1;refine⟨Fh hO _ _ h1,Mc hO h1 (by omega) (λj hj _ i hi=>?_),mN _ _ (zx _ _),λd hd=>mN _ _ (sT hd)⟩;rw[Hu hj]at hi;refine sT (hc _ ?_ i hi);rw[getD_eq_getElem?_getD,getElem?_eq_getElem hj];exact getElem_mem hj
theorem PQ(hO:∀p∈f.ow,p.l<24/\p.r<24):∀(l:List Pr) {ms:List Nat},(∀p∈l,p∈f.ow)->dY ms->Clo f ms->dY (l.foldl (xV f) ms)/\Clo f (l.foldl (xV f) ms)/\(∀p∈l,p.l∈l.foldl (xV f) ms)/\∀d∈ms,d∈l.foldl (xV f) ms
 |[],ms,_,h,hc=>⟨h,hc,λp hp=>by simp at hp,λd hd=>hd⟩
 |p::r,ms,hl,h,hc=>by
  obtain⟨h1,h2,h3,h4⟩:=aa2 hO (hl p (by simp)) h hc;obtain⟨g1,g2,g3,g4⟩:=PQ hO r (λq hq=>hl q (by simp[hq])) h1 h2;rw[foldl_cons];exact⟨g1,g2,λq hq=>by
   rcases mem_cons.1 hq with rfl|hq
   .exact g4 _ h3
   .exact g3 q hq,λd hd=>g4 d (h4 d hd)⟩
theorem EN:∀(l:List Nat) {ms:List Nat},(∀c∈l,c<24)->dY ms->dY (l.foldl gV ms)/\(∀c∈l,c∈l.foldl gV ms)/\∀d∈ms,d∈l.foldl gV ms
 |[],ms,_,h=>⟨h,λc hc=>by simp at hc,λd hd=>hd⟩
 |c::r,ms,hl,h=>by
  obtain⟨g1,g2,g3⟩:=EN r (λd hd=>hl d (by simp[hd])) (h.me (hl c (by simp)));rw[foldl_cons];exact⟨g1,λd hd=>by
   rcases mem_cons.1 hd with rfl|hd
   .exact g3 _ (zx _ _)
   .exact g2 d hd,λd hd=>g3 d (sT hd)⟩
theorem pT(hO:∀p∈f.ow,p.l<24/\p.r<24)(hC:∀c∈jJ f,c<24):dY (eF f)/\Clo f (eF f)/\(∀c∈jJ f,c∈eF f)/\∀p∈f.ow,p.l∈eF f:=by
 obtain⟨h1,h2,-⟩:=EN (jJ f) hC dY.nil;have h3:=Mc hO (n:=25) (k:=0) h1 (by omega) (λj hj=>by omega);obtain⟨g1,g2,g3,g4⟩:=PQ hO f.ow (λp hp=>hp) (Fh hO 25 0 h1) h3;exact⟨g1,g2,λc hc=>g4 c (mN _ _ (h2 c hc)),g3⟩
theorem j8(hO:∀p∈f.ow,p.l<24/\p.r<24)(hC:∀c∈jJ f,c<24)(hN:vt f.ow):∀c∈db f,c∈eF f:=by
 obtain⟨-,g2,g3,g4⟩:=pT hO hC;intro c hc;unfold db at hc;rw[mem_append,mem_flatMap]at hc;rcases hc with hc|⟨p,hp,hc⟩
 .exact g3 c hc
 .simp only[mem_cons,not_mem_nil,or_false]at hc;rcases hc with rfl|rfl
  .exact g4 p hp
  .obtain⟨i,h1,h2⟩:=LX hN hp;have:=g2 _ (g4 p hp) i h1;rwa [h2]at this
end
def zY(p:Pr)(l:List Pr):Nat->Nat
 |0=>0
 |k+1=>if KL p (l.getD k au)=true then zY p l k else k+1
def eQ(l:List Pr)(p:Pr):List Pr:=l.take (zY p l l.length)++p::l.drop (zY p l l.length)
def CC(p q:Pr):Bool:=decide (p.k=q.k)&&decide (p.l=q.l)&&decide (p.r=q.r)
def kE(a:List Pr)(p:Pr):List Pr:=if a=[]\/CC p (a.getD (a.length-1) au)=false then a++[p] else a
def lK(l:List Pr):List Pr:=(l.foldl eQ []).foldl kE []
theorem zI{p q:Pr}:CC p q=true↔p=q:=by
 unfold CC;cases p;cases q
 simp[and_assoc]
theorem Fu(p:Pr)(l:List Pr):∀k,zY p l k<=k
 |0=>zq4 _
 |k+1=>by
  unfold zY;split
  .exact Nat.le_succ_of_le (Fu p l k)
  .exact zq4 _
theorem QF(p:Pr)(l:List Pr):∀k j,zY p l k<=j->j<k->KL p (l.getD j au)=true
 |0,j,_,h=>by omega
 |k+1,j,h1,h2=>by
  unfold zY at h1;split at h1
  .rename_i h;by_cases e:j=k
   .rw[e];exact h
   .exact QF p l k j h1 (by omega)
  .omega
theorem QE(p:Pr)(l:List Pr):∀k,0<zY p l k->KL p (l.getD (zY p l k-1) au)=false
 |0,h=>by simp[zY]at h
 |k+1,h=>by
  unfold zY at h ⊢;split
  .rename_i hb;rw[if_pos hb]at h;exact QE p l k h
  .rename_i hb;simpa using hb
def AJ(p q:Pr):Prop:=p.l<q.l\/(p.l=q.l/\p.r<=q.r)
def Dr(p q:Pr):Prop:=p.l<q.l\/(p.l=q.l/\p.r<q.r)
theorem FZ{p q:Pr}:KL p q=true↔Dr p q:=by simp[KL,Dr]
theorem R3{p q:Pr}:KL p q=false↔AJ q p:=by
 rw[<-Bool.not_eq_true,FZ];unfold Dr AJ;omega
theorem xM{p q r:Pr}(h1:AJ p q)(h2:AJ q r):AJ p r:=by unfold AJ at *;omega
theorem agN{p q:Pr}(h:Dr p q):AJ p q:=by unfold Dr AJ at *;omega
theorem Kb{p q r:Pr}(h1:Dr p q)(h2:Dr q r):Dr p r:=by unfold Dr at *;omega
theorem aZ{l:List Pr}{j:Nat}(h:j<l.length):l.getD j au∈l:=by
 rw[getD_eq_getElem?_getD,getElem?_eq_getElem h];exact getElem_mem h
theorem bK{l:List Pr}{j:Nat}(h:j<l.length):l.getD j au=l[j]:=by
 rw[getD_eq_getElem?_getD,getElem?_eq_getElem h];rfl
theorem OC{l:List Pr}{p q:Pr}:q∈eQ l p↔q=p\/q∈l:=by
 unfold eQ;rw[mem_append,mem_cons];constructor
 .rintro(h|h|h)
  .exact zq1 (mem_of_mem_take h)
  .exact zq0 h
  .exact zq1 (mem_of_mem_drop h)
 .rintro(h|h)
  .exact zq1 (zq0 h)
  .rw[<-take_append_drop (zY p l l.length) l,mem_append]at h;rcases h with h|h
   .exact zq0 h
   .exact zq1 (zq1 h)
theorem OB(l:List Pr)(p:Pr):(eQ l p).length=l.length+1:=by
 unfold eQ;have:=Fu p l l.length;simp only[length_append,length_take,length_cons,length_drop];omega
theorem OD{l:List Pr}{p:Pr}(h:l.Pairwise AJ):(eQ l p).Pairwise AJ:=by
 have lX:=Fu p l l.length;have aq:=QF p l l.length;have cq:=QE p l l.length;unfold eQ;generalize hk:zY p l l.length=k at *;have hd:∀q∈l.drop k,AJ p q:=by
  intro q hq;obtain⟨j,hj,rfl⟩:=mem_iff_getElem.1 hq;rw[length_drop]at hj;rw[getElem_drop,<-bK (by omega)];exact agN (FZ.1 (aq (k+j) (by omega) (by omega)))
 have ht:∀q∈l.take k,AJ q p:=by
  intro q hq;obtain⟨j,hj,rfl⟩:=mem_iff_getElem.1 hq;rw[length_take]at hj;have h1:=R3.1 (cq (by omega));rw[getElem_take];by_cases e:j=k-1
  .rw[bK (by omega)]at h1;subst e;exact h1
  .refine xM ?_ h1;rw[bK (by omega)];exact pairwise_iff_getElem.1 h j (k-1) (by omega) (by omega) (by omega)
 rw[pairwise_append,pairwise_cons];refine⟨h.sublist (take_sublist _ _),⟨hd,h.sublist (drop_sublist _ _)⟩,?_⟩;intro a ha b hb;rcases mem_cons.1 hb with rfl|hb
 .exact ht a ha
 .exact xM (ht a ha) (hd b hb)
theorem pE:∀(l:List Pr) {a:List Pr},a.Pairwise AJ->(l.foldl eQ a).Pairwise AJ/\(∀q,q∈l.foldl eQ a↔q∈a\/q∈l)/\(l.foldl eQ a).length=a.length+l.length
 |[],a,h=>⟨h,λq=>by simp,by simp⟩
 |p::r,a,h=>by
  obtain⟨h1,h2,h3⟩:=pE r (OD (p:=p) h);rw[foldl_cons];refine⟨h1,λq=>?_,?_⟩
  .rw[h2,OC,mem_cons];constructor
   .rintro((h|h)|h)
    .exact zq1 (zq0 h)
    .exact zq0 h
    .exact zq1 (zq1 h)
   .rintro(h|h|h)
    .exact zq0 (zq1 h)
    .exact zq0 (zq0 h)
    .exact zq1 h
  .rw[h3,OB,length_cons];omega
theorem Mq{a:List Pr}{p:Pr}:p∈kE a p:=by
 unfold kE;split
 .simp
 .rename_i h;rw[not_or]at h;have h1:CC p (a.getD (a.length-1) au)=true:=by simpa using h.2
  rw[zI]at h1;rw[h1];exact aZ (by have:=length_pos_iff.2 h.1;omega)
theorem Sm{a:List Pr}{p q:Pr}(h:q∈a):q∈kE a p:=by unfold kE;split;exact mem_append_left _ h;exact h
theorem Gg:∀(l:List Pr) {a:List Pr} {q:Pr},q∈l.foldl kE a↔q∈a\/q∈l
 |[],a,q=>by simp
 |p::r,a,q=>by
  rw[foldl_cons,Gg r,mem_cons];constructor
  .rintro(h|h)
   .unfold kE at h;split at h
    .rw[mem_append,mem_singleton]at h;rcases h with h|h
     .exact zq0 h
     .exact zq1 (zq0 h)
    .exact zq0 h
   .exact zq1 (zq1 h)
  .rintro(h|rfl|h)
   .exact zq0 (Sm h)
   .exact zq0 Mq
   .exact zq1 h
theorem gC{l:List Pr}{q:Pr}:q∈lK l↔q∈l:=by
 unfold lK;rw[Gg,(pE l (a:=[]) List.Pairwise.nil).2.1];simp
theorem yy{K:Nat}:∀(l:List Pr) {a:List Pr},a.Pairwise Dr->l.Pairwise AJ->(∀p∈a,∀q∈l,AJ p q)->(∀p∈a,p.k=K)->(∀p∈l,p.k=K)->(l.foldl kE a).Pairwise Dr
 |[],a,h,_,_,_,_=>h
 |p::r,a,h,hl,jC,ha,hk=>by
  rw[foldl_cons];have h1:=pairwise_cons.1 hl;by_cases hn:a=[]\/CC p (a.getD (a.length-1) au)=false
  .have e:kE a p=a++[p]:=(by unfold kE;rw[if_pos hn]);rw[e];refine yy (K:=K) r ?_ h1.2 ?_ ?_ (λq hq=>hk q (by simp[hq]))
   .rw[pairwise_append];refine⟨h,by simp,λx hx y hy=>?_⟩;rw[mem_singleton]at hy;subst hy;have Dp:=jC x hx y (by simp);rcases hn with hn|hn
    .subst hn;simp at hx
    .obtain⟨j,hj,rfl⟩:=mem_iff_getElem.1 hx;have hz:AJ (a.getD (a.length-1) au) y:=jC _ (aZ (by omega)) y (by simp);have hzl:Dr (a.getD (a.length-1) au) y:=by
      have KW:y.k=K:=hk y (by simp);have sN:=ha _ (aZ (l:=a) (j:=a.length-1) (by omega));generalize a.getD (a.length-1) au=z at hn hz sN;have aJ:y≠z:=λe=>by rw[zI.2 e]at hn;cases hn
      unfold AJ at hz;unfold Dr;rcases hz with h|⟨h,h'⟩
      .exact zq0 h
      .right;refine⟨h,?_⟩;by_cases hr:z.r=y.r
       .exfalso;apply aJ;cases y;cases z
        simp_all
       .omega
     by_cases e:j=a.length-1
     .subst e;rwa [bK (by omega)]at hzl
     .refine Kb ?_ hzl;rw[bK (by omega)];exact pairwise_iff_getElem.1 h j (a.length-1) hj (by omega) (by omega)
   .intro x hx y hy;rw[mem_append,mem_singleton]at hx;rcases hx with hx|rfl
    .exact jC x hx y (by simp[hy])
    .exact h1.1 y hy
   .intro x hx;rw[mem_append,mem_singleton]at hx;rcases hx with hx|rfl
    .exact ha x hx
    .exact hk x (by simp)
  .have e:kE a p=a:=(by unfold kE;rw[if_neg hn]);rw[e];exact yy (K:=K) r h h1.2 (λx hx y hy=>jC x hx y (by simp[hy])) ha (λq hq=>hk q (by simp[hq]))
theorem UU{K:Nat}{l:List Pr}(hk:∀p∈l,p.k=K):(lK l).Pairwise Dr:=by
 obtain⟨h1,h2,-⟩:=pE l (a:=[]) List.Pairwise.nil;refine yy (K:=K) _ List.Pairwise.nil h1 (λp hp=>by simp at hp) (λp hp=>by simp at hp) (λp hp=>hk p ?_);have:=(h2 p).1 hp;simpa using this
theorem Mm:∀(l:List Pr) {a:List Pr},vt (a++l)->l.foldl kE a=a++l
 |[],a,_=>by simp
 |p::r,a,h=>by
  have e:kE a p=a++[p]:=by
   unfold kE;rw[if_pos];by_cases ha:a=[]
   .exact zq0 ha
   .right;cases hx:CC p (a.getD (a.length-1) au) with
    |false=>rfl
    |true =>
     exfalso;rw[zI]at hx;have hm:=aZ (l:=a) (j:=a.length-1) (by have:=length_pos_iff.2 ha;omega);rw[<-hx]at hm;unfold vt at h;rw[map_append,nodup_append]at h;exact h.2.2 p.l (mem_map_of_mem (f:=(·.l)) hm) p.l (by simp) rfl
  rw[foldl_cons,e,Mm r (by rw[append_assoc];exact h),append_assoc];rfl
theorem J6(l:List Pr)(p:Pr):(eQ l p).Perm (p::l):=by
 unfold eQ;refine perm_middle.trans ?_;rw[take_append_drop]
theorem xK:∀(l:List Pr) {a:List Pr},(l.foldl eQ a).Perm (a++l)
 |[],a=>by simp
 |p::r,a=>by
  rw[foldl_cons];refine(xK r).trans ?_;refine((J6 a p).append_right r).trans ?_;exact(perm_middle (l₁:=a) (l₂:=r) (a:=p)).symm
theorem CO{l:List Pr}(h:vt l):(lK l).Perm l:=by
 unfold lK;have h1:=xK l (a:=[]);rw[Mm _ (by unfold vt at h ⊢;rw[nil_append];exact((h1.map (·.l)).nodup_iff).2 (by simpa using h)),nil_append];simpa using h1
theorem UW{l:List Pr}(h:l.Pairwise Dr)(hb:∀p∈l,p.l<24/\p.r<24):l.length<=576:=by
 have h1:(l.map (λp=>p.l*24+p.r)).Nodup:=by
  unfold List.Nodup;rw[pairwise_map];refine List.Pairwise.imp_of_mem ?_ h;intro a b ha rF og e;have:=hb a ha;have:=hb b rF;unfold Dr at og;omega
 have:=List.Nodup.length_le_of_subset h1 (l₂:=range 576) (λc hc=>by
  obtain⟨p,hp,rfl⟩:=mem_map.1 hc;have:=hb p hp;rw[mem_range];omega)
 simpa using this
def jw(p:Pr):Pr:=if p.r<p.l then ⟨p.k,p.r,p.l⟩ else p
def orF(f:CF):CF:=⟨f.cl,lK (f.ap.map jw),lK f.ow⟩
def bz(f:CF):CF:=orF (uQ (my f))
structure am(f:CF):Prop where
 c5:f.cl.length=5
 cl:∀c∈jJ f,c<24
 ow:∀p∈f.ow,p.l<24/\p.r<24
 ap:∀p∈f.ap,p.l<24/\p.r<24
 lf:vt f.ow
 kd:∀p∈f.ap,p.k=2
theorem am.owLen{f:CF}(h:am f):f.ow.length<=24:=by
 have h0:dY (f.ow.map (·.l)):=⟨h.lf,λc hc=>by obtain⟨p,hp,rfl⟩:=mem_map.1 hc;exact(h.ow p hp).1⟩;simpa using h0.len
theorem aa1(f:CF):eF (my f)=eF f:=by
 have e:∀k ms,ya (my f) k ms=ya f k ms:=λk ms=>rfl;have e2:∀n k ms,ni (my f) n k ms=ni f n k ms:=by
  intro n;induction n with
  |zero=>intro k ms;rfl
  |succ n ih=>intro k ms;unfold ni;rw[e,ih]
 have e3:xV (my f)=xV f:=by funext ms p;unfold xV;rw[e2]
 unfold eF;rw[e2,e3];rfl
theorem am.fg{f:CF}(h:am f):am (my f):=⟨h.c5,h.cl,h.ow,λp hp=>h.ap p ((mem_filter.1 hp).1),h.lf,λp hp=>h.kd p ((mem_filter.1 hp).1)⟩
theorem kG{f:CF}{p:Pr}(hp:p∈(my f).ap):p.l∈db (my f)/\p.r∈db (my f):=by
 have:=(mem_filter.1 hp).2;unfold yD at this;simp only[Bool.and_eq_true,decide_eq_true_eq]at this;exact this.1
theorem l5{ms:List Nat}(h:dY ms){c:Nat}(hc:c∈ms):ms.idxOf c<24:=zq6 (idxOf_lt_length_iff.2 hc) h.len
theorem GX{ms:List Nat}{c d:Nat}(hc:c∈ms)(hd:d∈ms)(e:ms.idxOf c=ms.idxOf d):c=d:=by
 have h1:=getElem_idxOf (idxOf_lt_length_iff.2 hc);have h2:=getElem_idxOf (idxOf_lt_length_iff.2 hd);rw[<-h1,<-h2];simp only[e]
theorem F9{f:CF}(g:Nat->Nat)(ap ow:List Pr):jJ ⟨(jJ f).map g,ap,ow⟩=(jJ f).map g:=rfl
theorem am.rn{f:CF}(h:am f)(hl:∀p∈f.ap,p.l∈db f/\p.r∈db f):am (uQ f):=by
 have hM:=(pT h.ow h.cl).1;have hL:=j8 h.ow h.cl h.lf;refine⟨rfl,?_,?_,?_,?_,?_⟩
 .intro c hc;unfold uQ at hc;rw[F9]at hc;obtain⟨d,hd,rfl⟩:=mem_map.1 hc;exact l5 hM (hL d (mem_append_left _ hd))
 .intro p hp;obtain⟨q,hq,rfl⟩:=mem_map.1 hp;have xF:q.l∈db f:=mem_append_right _ (mem_flatMap.2 ⟨q,hq,by simp⟩);have WI:q.r∈db f:=mem_append_right _ (mem_flatMap.2 ⟨q,hq,by simp⟩);exact⟨l5 hM (hL _ xF),l5 hM (hL _ WI)⟩
 .intro p hp;obtain⟨q,hq,rfl⟩:=mem_map.1 hp;exact⟨l5 hM (hL _ (hl q hq).1),l5 hM (hL _ (hl q hq).2)⟩
 .have h2:=h.lf;unfold vt uQ at *;simp only[map_map];have e:((λx:Pr=>x.l) ∘ qs (eF f))=(λc=>(eF f).idxOf c) ∘ (λx:Pr=>x.l):=rfl;rw[e,<-map_map];unfold List.Nodup at h2 ⊢;rw[pairwise_map];refine List.Pairwise.imp_of_mem ?_ h2;intro a b ha hb og e2;obtain⟨p,hp,rfl⟩:=mem_map.1 ha;obtain⟨q,hq,rfl⟩:=mem_map.1 hb;exact og (GX (hL _ (mem_append_right _ (mem_flatMap.2 ⟨p,hp,by simp⟩))) (hL _ (mem_append_right _ (mem_flatMap.2 ⟨q,hq,by simp⟩))) e2)
 .intro p hp;obtain⟨q,hq,rfl⟩:=mem_map.1 hp;exact h.kd q hq
theorem Xg(p:Pr):(jw p).k=p.k:=by unfold jw;split <;> rfl
theorem abp{p:Pr}(h:p.l<24/\p.r<24):(jw p).l<24/\(jw p).r<24:=by unfold jw;split;exact⟨h.2,h.1⟩;exact h
theorem am.or{f:CF}(h:am f):am (orF f):=by
 refine⟨h.c5,h.cl,λp hp=>h.ow p (gC.1 hp),?_,?_,?_⟩
 .intro p hp;obtain⟨q,hq,rfl⟩:=mem_map.1 (gC.1 hp);exact abp (h.ap q hq)
 .have:=(CO h.lf).map (·.l);exact this.nodup_iff.2 h.lf
 .intro p hp;obtain⟨q,hq,rfl⟩:=mem_map.1 (gC.1 hp);rw[Xg];exact h.kd q hq
theorem am.td{f:CF}(h:am f):am (bz f):=(h.fg.rn (λ_ hp=>kG hp)).or
theorem Uq{f:CF}(h:am f):(orF f).ap.length<=576:=by
 refine UW (UU (K:=2) ?_) (h.or).ap;intro p hp;obtain⟨q,hq,rfl⟩:=mem_map.1 hp;rw[Xg];exact h.kd q hq
theorem U1{f:CF}(h:am f):(bz f).ap.length<=576:=Uq (h.fg.rn (λ_ hp=>kG hp))
def oV(s:List Nat)(p:Pr):List Nat:=if p.l∈s/\p.r ∉ s then s++[p.r] else s
def wy(f:CF)(s:List Nat):List Nat:=f.ow.foldl oV s
def UB(f:CF):Nat->List Nat->List Nat
 |0,s=>s
 |n+1,s=>if (wy f s).length=s.length then s else UB f n (wy f s)
def UA(f:CF):List Nat:=[f.cl.getD 1 0,f.cl.getD 2 0,f.cl.getD 3 0,f.cl.getD 4 0].foldl gV []
def oJ(f:CF):List Nat:=UB f 25 (UA f)
def Du(f:CF):List Bool:=(range 24).map (λc=>decide (c∈oJ f))
theorem aaT{s:List Nat}{p:Pr}(h:dY s)(hp:p.r<24):dY (oV s p):=by
 unfold oV;split
 .rename_i hc;have:=h.me hp;unfold gV at this;rwa [if_neg hc.2]at this
 .exact h
theorem It(s:List Nat)(p:Pr):s.length<=(oV s p).length:=by unfold oV;split <;> simp
theorem PG:∀(l:List Pr) {s:List Nat},dY s->(∀p∈l,p.r<24)->dY (l.foldl oV s)/\s.length<=(l.foldl oV s).length
 |[],s,h,_=>⟨h,zq4 _⟩
 |p::r,s,h,hl=>by
  obtain⟨h1,h2⟩:=PG r (aaT h (hl p (by simp))) (λq hq=>hl q (by simp[hq]));exact⟨h1,zq3 (It s p) h2⟩
theorem aaR{f:CF}(h:∀c∈jJ f,c<24):dY (UA f):=(EN _ (λc hc=>h c (by unfold jJ;simp at hc ⊢;rcases hc with h|h|h|h <;> simp[h])) dY.nil).1
