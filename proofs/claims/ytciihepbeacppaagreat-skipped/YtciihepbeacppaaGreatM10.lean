import Derived.Test.YtciihepbeacppaaGreatM09
set_option maxRecDepth 100000
set_option maxHeartbeats 0
namespace Go.Proofs.YtciihepbeacppaaGreat
open Tryz Go.RowKit List World Below
set_option linter.unusedVariables false
def ES(f:CF)(p:Pr):Bool:=!(SQ f p.l||decide (p.r=p.l))&&decide (Ch f.ow p.l=1)
def xj(f:CF):Option Nat:=f.ow.findIdx? (ES f)
theorem Zn{l:List Pr}{P:Pr->Bool}{k:Nat}(hk:k<l.length)(hn:∀j,j<k->P (l.getD j ay)=false)(h:P (l.getD k ay)=true):l.findIdx? P=some k:=by
 rw[findIdx?_eq_some_iff_getElem];refine⟨hk,by rw[<-j7 hk];exact h,λj hj=>?_⟩;have:=hn j hj;rw[j7 (by omega)]at this;simpa using this
theorem TY{l:List Pr}{P:Pr->Bool}(hn:∀j,j<l.length->P (l.getD j ay)=false):l.findIdx? P=none:=by
 rw[findIdx?_eq_none_iff];intro x hx;obtain⟨k,hk,rfl⟩:=mem_iff_getElem.1 hx;have:=hn k hk;rwa [j7 hk]at this
section
variable {w:World} {A:Nat} {f:CF} {av ov:Value}
theorem D7(h:eQ w A f av ov)(ho:f.ow.length<=100000):Calls prog 250 #[.pointer (some ⟨A,0,none⟩)] w λe w'=>e=.returned (.int .i64 (fV (xj f)))/\Below w.heap.size w w':=by
 obtain⟨oa,oc,gy,hoc,hom⟩:=am h.ow;subst gy;have H:=ab h;have J2:=ab (Below.refl w.heap.size w);clear h;go_enter func250,ntmps250;go_wp2_with fail
 go_loopw [3] (λi wx=>∃(k:Nat),k<=f.ow.length/\i=.int .i64 k/\Hid (Below w.heap.size w wx)/\Hid (∀j,j<k->ES f (f.ow.getD j ay)=false)) (λi _=>f.ow.length-(intOf i).toNat)
 case atStart=>exact⟨0,zq5 _,rfl,J2,ab (λ_ h=>absurd h (by omega))⟩
 case round =>
  clear J2;obtain⟨k,hk,rfl,hb,hn⟩:=hrel;have hF:=(uh H).below (uh hb);have c6:=hF.c6;by_cases au:k<f.ow.length
  .have hd:decide ((k:Int)<(f.ow.length:Int))=true:=(by simp;omega);obtain⟨g,cap,dF,-,-⟩:=aE hF.ow au;simp only[Value.slice.injEq,true_and]at dF;obtain⟨rfl,rfl⟩:=dF;obtain⟨x0,x1,x2⟩:=aB hF.ow au;obtain⟨p,hp⟩:∃p,p=f.ow.getD k ay:=⟨_,rfl⟩;rw[<-hp]at x0 x1 x2;have Si:=ab (Lu hF p.l);have MK:Hid (Calls prog 262 #[.pointer (some ⟨A,0,none⟩),.int .i64 p.l] wr λe w'=>e=.returned (.int .i64 (Ch f.ow p.l:Nat))/\Below w.heap.size w w'):=ab ((N5 hF ho p.l).mono (by
    rintro e w' ⟨rfl,aW⟩;exact⟨rfl,(uh hb).trans (aW.mono (uh hb).size)⟩))
   have wd:ES f p=(!(SQ f p.l||decide (p.r=p.l))&&decide (Ch f.ow p.l=1)):=rfl;have qn:Hid (ES f p=false->∀j,j<k+1->ES f (f.ow.getD j ay)=false):=ab (λh0 j hj=>by
    by_cases e:j=k
    .rw[e,<-hp];exact h0
    .exact uh hn j (by omega))
   have HHT:Hid (ES f p=true->fV (xj f)=(k:Int)):=ab (λh1=>by unfold xj;rw[Zn au (uh hn) (by rw[<-hp];exact h1)];rfl);have i1:(0:Int)<=(k:Int):=(by omega);have i2:(k:Int)<(f.ow.length:Int):=(by omega);obtain⟨b,AB⟩:∃b,b=SQ f p.l:=⟨_,rfl⟩;obtain⟨m,hm⟩:∃m,m=Ch f.ow p.l:=⟨_,rfl⟩;have fJ:m<=100000:=(by rw[hm];exact zq3 (N3 _ _) ho);rw[<-AB]at wd Si;rw[<-hm]at wd MK;have HSM:=ab wd;clear hF hp wd AB hm;go_wp2_with fail
   refine(uh Si).mono ?_;rintro e w1 ⟨rfl,rfl⟩;clear Si;cases b with
   |true =>
    have HE:Hid (ES f p=false):=ab (by rw[uh HSM];simp);go_wp2_with fail
    go_roundw
    case rel=>exact⟨k+1,by omega,by go_num,hb,ab (uh qn (uh HE))⟩
    case measure=>simp[intOf];omega
   |false =>
    by_cases e1:p.r=p.l
    .have b1:((p.r:Int)==(p.l:Int))=true:=(by simp[e1]);have HE:Hid (ES f p=false):=ab (by rw[uh HSM];simp[e1]);clear e1;go_wp2_with fail
     go_roundw
     case rel=>exact⟨k+1,by omega,by go_num,hb,ab (uh qn (uh HE))⟩
     case measure=>simp[intOf];omega
    .have b1:((p.r:Int)==(p.l:Int))=false:=(by simp;omega);have HE0:Hid (ES f p=decide (m=1)):=ab (by rw[uh HSM];simp[e1]);clear e1;go_wp2_with fail
     refine(uh MK).mono ?_;rintro e w2 ⟨rfl,aW⟩;have eP:=ab aW;clear aW MK;by_cases e2:m=1
     .have b2:((m:Int)==(1:Int))=true:=(by simp[e2]);have HE:Hid (fV (xj f)=(k:Int)):=ab (uh HHT (by rw[uh HE0];simp[e2]));clear e2;go_wp2_with fail
      go_ret;exact⟨bj (uh HE).symm,uh eP⟩
     .have b2:((m:Int)==(1:Int))=false:=(by simp;omega);have HE:Hid (ES f p=false):=ab (by rw[uh HE0];simp[e2]);clear e2;go_wp2_with fail
      go_roundw
      case rel=>exact⟨k+1,by omega,by go_num,eP,ab (uh qn (uh HE))⟩
      case measure=>simp[intOf];omega
  .have hd:decide ((k:Int)<(f.ow.length:Int))=false:=(by simp;omega);have HE:Hid (fV (xj f)=-1):=ab (by unfold xj;rw[TY (λj hj=>uh hn j (by omega))];rfl);clear hF;go_wp2_with fail
   go_ret;exact⟨bj (uh HE).symm,uh hb⟩
end
def bJ(g:Pr->Pr)(l:List Pr)(k:Nat):List Pr:=(l.take k).map g++l.drop k
theorem jU(g:Pr->Pr)(l:List Pr)(k:Nat):(bJ g l k).length=l.length:=by simp[bJ];omega
theorem lA{g:Pr->Pr}{l:List Pr}{k:Nat}(hk:k<l.length):(bJ g l k).getD k ay=l.getD k ay:=by
 rw[j7 hk];unfold bJ;rw[getD_eq_getElem?_getD,getElem?_append_right (by simp;omega)];simp[hk,Nat.min_eq_left (Nat.le_of_lt hk)]
theorem lB{g:Pr->Pr}{l:List Pr}{k:Nat}(hk:k<l.length):bJ g l (k+1)=(bJ g l k).set k (g (l.getD k ay)):=by
 rw[j7 hk];unfold bJ;have e:l.drop k=l[k]::l.drop (k+1):=drop_eq_getElem_cons hk;have e2:(l.take (k+1)).map g=(l.take k).map g++[g l[k]]:=by
  rw[take_add_one,getElem?_eq_getElem hk,map_append];rfl
 have e3:((l.take k).map g).length=k:=by simp;omega
 rw[e2,e,set_append_right _ _ (by omega),e3,Nat.sub_self,set_cons_zero,append_assoc];rfl
theorem wy{g:Pr->Pr}{l:List Pr}{k:Nat}(hk:l.length<=k):bJ g l k=l.map g:=by
 unfold bJ;rw[take_of_length_le hk,drop_eq_nil_of_le hk,append_nil]
theorem zM{l:List Pr}{k:Nat}(hk:k<l.length):l.set k (l.getD k ay)=l:=by
 rw[j7 hk,set_getElem_self]
def fo1(m e:Nat)(p:Pr):Pr:=if p.r=m then ⟨4,p.l,e⟩ else p
def kq(f:CF)(k:Nat):CF:={ f with ow:=iS (f.ow.map (fo1 (f.ow.getD k ay).l (f.ow.getD k ay).r)) k }
def eH:Nat->CF->CF
 |0,f=>f
 |n+1,f=>match xj f with|none=>f|some k=>eH n (kq f k)
def Av(f:CF):CF:=eH f.ow.length f
theorem RF(l:List Pr)(i k:Nat):(rz l i k).length=if i<k then k-1 else k:=by
 induction k with
 |zero=>simp[rz]
 |succ k ih =>
  rw[xD,length_append,ih];by_cases h:k=i
  .rw[if_pos h,if_neg (by omega),if_pos (by omega)];simp
  .rw[if_neg h];by_cases h2:i<k
   .rw[if_pos h2,if_pos (by omega)];simp;omega
   .rw[if_neg h2,if_neg (by omega)];simp
theorem Wj{l:List Pr}{k:Nat}(hk:k<l.length):(iS l k).length=l.length-1:=by
 unfold iS;rw[RF,if_pos hk]
theorem ab1{f:CF}{k:Nat}(h:xj f=some k):k<f.ow.length:=by
 unfold xj at h;rw[findIdx?_eq_some_iff_getElem]at h;exact h.1
section
variable {w:World} {A:Nat} {f:CF} {av ov:Value}
theorem Oz(h:Fm w A f av ov)(ho:f.ow.length<=100000):Calls prog 228 #[.pointer (some ⟨A,0,none⟩)] w λe w'=>e=.returned (.tuple #[])/\∃ov',Fm w' A (Av f) av ov'/\ar (aG A av ov) w (aG A av ov') w':=by
 have sR:=ab (D7 h.is ho);have H:=ab h;clear h;go_enter func228,ntmps228;go_wp2_with fail
 refine(uh sR).mono ?_;rintro e w1 ⟨rfl,bB⟩;have cG:Hid (Fm w1 A f av ov/\ar (aG A av ov) w (aG A av ov) w1/\eH f.ow.length f=Av f):=ab ⟨(uh H).below bB,ar.ofBw bB,rfl⟩;clear bB sR;go_wp2_with fail
 go_loopg [2] f.ow.length (λgn kv wx=>∃(F:CF) (ov':Value),F.ow.length=gn/\gn<=f.ow.length/\kv=.int .i64 (fV (xj F))/\Hid (Fm wx A F av ov'/\ar (aG A av ov) w (aG A av ov') wx/\eH gn F=Av f))
 case atStart=>exact⟨f,ov,rfl,zq4 _,rfl,cG⟩
 case round =>
  clear cG;obtain⟨F,ov',dO,hgn,rfl,hI⟩:=hrel;obtain⟨G,hG⟩:∃G,G=gk:=⟨_,rfl⟩;cases wd:xj F with
  |none =>
   have HE:Hid (F=Av f):=ab (by
    have:=(uh hI).2.2;rw[<-this];cases gk with
    |zero=>rfl
    |succ n=>simp[eH,wd])
   clear wd;go_wp2_with fail
   go_end0
   exact⟨rfl,ov',by rw[<-uh HE];exact(uh hI).1,(uh hI).2.1⟩
  |some k =>
   have gK:=ab1 wd;have qn:Hid (eH (gk-1) (kq F k)=Av f):=ab (by
    have h1:=(uh hI).2.2;rw[<-h1,show gk=gk-1+1 by omega];simp[eH,wd])
   obtain⟨p,hp⟩:∃p,p=F.ow.getD k ay:=⟨_,rfl⟩;have LZ:Hid (kq F k={ F with ow:=iS (F.ow.map (fo1 p.l p.r)) k }):=ab (by unfold kq;rw[<-hp]);obtain⟨g,cap,dF,oU,kH⟩:=aE (uh hI).1.is.ow gK;subst dF;have c6:=(uh hI).1.is.c6;obtain⟨-,x1,x2⟩:=aB (uh hI).1.is.ow gK;rw[<-hp]at x1 x2;have d0:decide ((0:Int)<=(k:Int))=true:=(by simp);have i1:(0:Int)<=(k:Int):=(by omega);have i2:(k:Int)<(F.ow.length:Int):=(by omega);have fH:Hid (Fm wr A { F with ow:=bJ (fo1 p.l p.r) F.ow 0 } av (.slice (some ⟨g,0,none⟩) F.ow.length cap)/\ar (aG A av ov) w (aG A av (.slice (some ⟨g,0,none⟩) F.ow.length cap)) wr):=ab ⟨by simpa[bJ] using (uh hI).1,(uh hI).2.1⟩;have HLN:=ab dO;clear wd hp hI dO;rw[show fV (some k)=(k:Int) from rfl];go_wp2_with fail
   go_loopg [5] F.ow.length (λgn i wx=>∃(j:Nat),j+gn=F.ow.length/\i=.int .i64 j/\Hid (Fm wx A { F with ow:=bJ (fo1 p.l p.r) F.ow j } av (.slice (some ⟨g,0,none⟩) F.ow.length cap)/\ar (aG A av ov) w (aG A av (.slice (some ⟨g,0,none⟩) F.ow.length cap)) wx))
   case atStart=>exact⟨0,by omega,rfl,fH⟩
   case round =>
    clear fH x1 x2 c6;obtain⟨j,Cs,rfl,hJ⟩:=hrel;obtain⟨G2,FD⟩:∃G2,G2=gk:=⟨_,rfl⟩;have c6:=(uh hJ).1.is.c6;have fJ:=jU (fo1 p.l p.r) F.ow j;by_cases au:j<F.ow.length
    .have hd:decide ((j:Int)<(F.ow.length:Int))=true:=(by simp;omega);have bq:wr.ownsRow 0 182 3 (.slice (some ⟨g,0,none⟩) F.ow.length cap) F.ow.length (af (bJ (fo1 p.l p.r) F.ow j)):=by
      have:=(uh hJ).1.is.ow;rwa [show({ F with ow:=bJ (fo1 p.l p.r) F.ow j }:CF).ow.length=F.ow.length from fJ]at this
     have v9:wr.ownsRow 0 182 3 (.slice (some ⟨g,0,none⟩) (bJ (fo1 p.l p.r) F.ow j).length cap) (bJ (fo1 p.l p.r) F.ow j).length (af (bJ (fo1 p.l p.r) F.ow j)):=(by rw[fJ];exact bq);obtain⟨y0,-,y2⟩:=aB v9 (i:=j) (by omega);obtain⟨q,hq⟩:∃q,q=F.ow.getD j ay:=⟨_,rfl⟩;rw[lA au,<-hq]at y0 y2;have z0:=bq.frozenAt (j*3);have k1:(0:Int)<=(j:Int):=(by omega);have k2:(j:Int)<(F.ow.length:Int):=(by omega);by_cases e1:q.r=p.l
     .have b1:((q.r:Int)==(p.l:Int))=true:=(by simp[e1]);have r1:=(bq.stored (j*3) (.int .i64 4)).1;rw[show(Value.int .i64 4)=Value.int .i64 ((4:Nat):Int) from rfl,mj (by omega),lA au,<-hq]at r1;have z2:(wr.setCell ⟨g,j*3,none⟩ (.int .i64 4)).frozen? ⟨g,j*3+2,none⟩=false:=r1.frozenAt (j*3+2);have y2':(wr.setCell ⟨g,j*3,none⟩ (.int .i64 4)).cell? ⟨g,j*3+2,none⟩=some (.int .i64 (q.r:Int)):=(by rw[cell?_setCell_other _ _ _ _ (by simp)];exact y2);have r2:=(r1.stored (j*3+2) (.int .i64 (p.r:Int))).1;rw[fy (by simp;omega)]at r2;have e2:((bJ (fo1 p.l p.r) F.ow j).set j ⟨4,q.l,q.r⟩).set j ⟨(((bJ (fo1 p.l p.r) F.ow j).set j ⟨4,q.l,q.r⟩).getD j ay).k,(((bJ (fo1 p.l p.r) F.ow j).set j ⟨4,q.l,q.r⟩).getD j ay).l,p.r⟩=bJ (fo1 p.l p.r) F.ow (j+1):=by
       rw[lB au,<-hq,set_set];have:((bJ (fo1 p.l p.r) F.ow j).set j ⟨4,q.l,q.r⟩).getD j ay=⟨4,q.l,q.r⟩:=by
        rw[getD_eq_getElem?_getD,getElem?_set_self (by omega)];rfl
       rw[this];unfold fo1;rw[if_pos e1]
      rw[e2]at r2;have hs:ar (Value.slice (some ⟨g,0,none⟩) F.ow.length cap).ownBlock.toList wr (Value.slice (some ⟨g,0,none⟩) F.ow.length cap).ownBlock.toList ((wr.setCell ⟨g,j*3,none⟩ (.int .i64 4)).setCell ⟨g,j*3+2,none⟩ (.int .i64 (p.r:Int))):=((ar.refl _ _).setCell (p:=⟨g,j*3,none⟩) (zq0 (by simp[Value.ownBlock])) _).setCell (p:=⟨g,j*3+2,none⟩) (zq0 (by simp[Value.ownBlock])) _;have hN:=(uh hJ).1.newRow (ow':=bJ (fo1 p.l p.r) F.ow (j+1)) (by rw[jU,jU]) (by rw[show({ F with ow:=bJ (fo1 p.l p.r) F.ow j }:CF).ow.length=F.ow.length from fJ];exact r2) hs;have c6':(wr.setCell ⟨g,j*3,none⟩ (.int .i64 4)).cell? ⟨A,6,none⟩=some (.slice (some ⟨g,0,none⟩) F.ow.length cap):=by
       rw[cell?_setCell_other _ _ _ _ (by intro e;have:=(uh hJ).1.nds.2.1;simp at e;exact this (by rw[e.1];rfl))];exact c6
      have HN:Hid (Fm ((wr.setCell ⟨g,j*3,none⟩ (.int .i64 4)).setCell ⟨g,j*3+2,none⟩ (.int .i64 (p.r:Int))) A { F with ow:=bJ (fo1 p.l p.r) F.ow (j+1) } av (.slice (some ⟨g,0,none⟩) F.ow.length cap)/\ar (aG A av ov) w (aG A av (.slice (some ⟨g,0,none⟩) F.ow.length cap)) ((wr.setCell ⟨g,j*3,none⟩ (.int .i64 4)).setCell ⟨g,j*3+2,none⟩ (.int .i64 (p.r:Int)))):=ab ⟨hN.1,(uh hJ).2.trans hN.2⟩;clear e1 r1 r2 e2 hs hN bq v9 hq fJ hJ;go_wp2_with fail
      go_roundg (G2-1)
      case rel=>exact⟨j+1,by omega,by go_num,HN⟩
      case measure=>omega
     .have b1:((q.r:Int)==(p.l:Int))=false:=(by simp;omega);have HE:Hid (bJ (fo1 p.l p.r) F.ow (j+1)=bJ (fo1 p.l p.r) F.ow j):=ab (by
       rw[lB au,<-hq,show fo1 p.l p.r q=q from if_neg e1];have h1:=zM (l:=bJ (fo1 p.l p.r) F.ow j) (k:=j) (by omega);rw[lA au,<-hq]at h1;exact h1)
      clear e1 bq v9 hq fJ;go_wp2_with fail
      go_roundg (G2-1)
      case rel=>exact⟨j+1,by omega,by go_num,ab (by rw[uh HE];exact uh hJ)⟩
      case measure=>omega
    .have hd:decide ((j:Int)<(F.ow.length:Int))=false:=(by simp;omega);have hF:Fm wr A { F with ow:=F.ow.map (fo1 p.l p.r) } av (.slice (some ⟨g,0,none⟩) F.ow.length cap):=by
      have:=(uh hJ).1;rwa [wy (by omega)]at this
     have HT:=ab (zg hF (by simp;have:=uh HLN;omega) k);have di:=ab (uh hJ).2;clear hF fJ hJ;go_wp2_with fail
     refine(uh HT).mono ?_;rintro e w2 ⟨rfl,ov2,pq,gT⟩;have yq:(iS (F.ow.map (fo1 p.l p.r)) k).length=F.ow.length-1:=(by rw[Wj (by simpa using gK)];simp);have dh:=ab (D7 pq.is (by show(iS (F.ow.map (fo1 p.l p.r)) k).length<=100000;have:=uh HLN;omega));have ya:=ab pq;have Tl:=ab ((uh di).trans gT);have HL2:=ab yq;clear pq gT yq HT c6;go_wp2_with fail
     refine(uh dh).mono ?_;rintro e w3 ⟨rfl,dy⟩;have HF3:Hid (Fm w3 A (kq F k) av ov2/\ar (aG A av ov) w (aG A av ov2) w3):=ab ⟨by rw[uh LZ];exact(uh ya).below dy,(uh Tl).trans (ar.ofBw dy)⟩;clear dy dh;go_wp2_with fail
     go_roundg (G-1)
     case rel =>
      have h1:=uh HLN;refine⟨kq F k,ov2,?_,by omega,by rw[uh LZ],ab ⟨(uh HF3).1,(uh HF3).2,?_⟩⟩
      .rw[uh LZ];show(iS (F.ow.map (fo1 p.l p.r)) k).length=_;rw[uh HL2];omega
      .rw[hG];exact uh qn
     case measure=>have:=uh HLN;omega
end
def Md(p q:Pr):Bool:=decide (p.l<q.l)||(decide (p.l=q.l)&&decide (p.r<q.r))
def prV(p:Pr):Value:=.agg #[.int .i64 (p.k:Int),.int .i64 (p.l:Int),.int .i64 (p.r:Int)]
section
variable {w:World}
theorem Fc(p q:Pr):Calls prog 249 #[prV p,prV q] w λe w'=>e=.returned (.bool (Md p q))/\Below w.heap.size w w':=by
 have HB:Hid (Below w.heap.size w ((w.alloc (.cells #[.int .i64 (p.k:Int),.int .i64 (p.l:Int),.int .i64 (p.r:Int)] 182)).alloc (.cells #[.int .i64 (q.k:Int),.int .i64 (q.l:Int),.int .i64 (q.r:Int)] 182))):=ab (((Below.refl _ _).alloc (zq4 _) _).alloc (by simp) _);unfold prV;obtain⟨b,hb⟩:∃b,b=Md p q:=⟨_,rfl⟩;rw[<-hb];unfold Md at hb;obtain⟨pk,pl,pr⟩:=p;obtain⟨qk,ql,qr⟩:=q;simp only at hb ⊢;by_cases h1:pl<ql
 .have HE:Hid (b=true):=ab (by rw[hb];simp[h1]);clear hb;go_enter func249,ntmps249;go_wp2_with fail
  go_ret;exact⟨aC (uh HE).symm,uh HB⟩
 .by_cases h2:pl=ql
  .subst h2;have HE:Hid (b=decide (pr<qr)):=ab (by rw[hb];simp);clear hb h1;go_enter func249,ntmps249;go_wp2_with fail
   go_ret;exact⟨aC (uh HE).symm,uh HB⟩
  .have HE:Hid (b=false):=ab (by rw[hb];simp[h1,h2]);have h3:ql<pl:=(by omega);clear hb h1;go_enter func249,ntmps249;go_wp2_with fail
   go_ret;exact⟨aC (by rw[uh HE];simp;omega),uh HB⟩
theorem C2(a b:Nat):Calls prog 265 #[.int .i64 a,.int .i64 b] w λe w'=>e=.returned (.int .i64 (max a b:Nat))/\w'=w:=by
 by_cases h:b<a
 .have HE:Hid (max a b=a):=ab (by omega);go_enter func265,ntmps265;go_wp2_with fail
  go_ret;exact⟨bj (by rw[uh HE]),rfl⟩
 .have HE:Hid (max a b=b):=ab (by omega);go_enter func265,ntmps265;go_wp2_with fail
  go_ret;exact⟨bj (by rw[uh HE]),rfl⟩
end
def rb(m:Nat)(l:List Pr):Nat:=l.foldl (λm p=>max (max m p.l) p.r) m
def qs(f:CF):Nat:=max (max (max (max (max 0 (f.cl.getD 0 0)) (f.cl.getD 1 0)) (f.cl.getD 2 0)) (f.cl.getD 3 0)) (f.cl.getD 4 0)
def aw(f:CF):Nat:=rb (rb (qs f) f.ow) f.ap+1
theorem DL{m:Nat}{l:List Pr}{k:Nat}(hk:k<l.length):rb m (l.take (k+1))=max (max (rb m (l.take k)) (l.getD k ay).l) (l.getD k ay).r:=by
 rw[j7 hk];unfold rb;rw[take_add_one,getElem?_eq_getElem hk,foldl_append];rfl
section
variable {w:World} {A:Nat} {f:CF} {av ov:Value}
theorem vM(h:eQ w A f av ov)(ha:f.ap.length<=100000)(ho:f.ow.length<=100000)(hm:aw f<=100000):Calls prog 258 #[.pointer (some ⟨A,0,none⟩)] w λe w'=>e=.returned (.int .i64 (aw f:Nat))/\Below w.heap.size w w':=by
 obtain⟨oa,oc,gy,-,-⟩:=am h.ow;subst gy;obtain⟨aa,ac,kt,-,-⟩:=am h.ap;subst kt;have x0:=h.cls (i:=0) (by omega);have x1:=h.cls (i:=1) (by omega);have x2:=h.cls (i:=2) (by omega);have x3:=h.cls (i:=3) (by omega);have x4:=h.cls (i:=4) (by omega);unfold hU at x0 x1 x2 x3 x4;obtain⟨y0,e0⟩:∃y,y=f.cl.getD 0 0:=⟨_,rfl⟩;obtain⟨y1,e1⟩:∃y,y=f.cl.getD 1 0:=⟨_,rfl⟩;obtain⟨y2,e2⟩:∃y,y=f.cl.getD 2 0:=⟨_,rfl⟩;obtain⟨y3,e3⟩:∃y,y=f.cl.getD 3 0:=⟨_,rfl⟩;obtain⟨y4,e4⟩:∃y,y=f.cl.getD 4 0:=⟨_,rfl⟩;have HC:Hid (qs f=max (max (max (max (max 0 y0) y1) y2) y3) y4):=ab (by unfold qs;rw[e0,e1,e2,e3,e4]);rw[<-e0]at x0;rw[<-e1]at x1;rw[<-e2]at x2;rw[<-e3]at x3;rw[<-e4]at x4;have j0:=AR (.int .i64 (y0:Int)) (.int .i64 (y1:Int)) (.int .i64 (y2:Int)) (.int .i64 (y3:Int)) (.int .i64 (y4:Int));have j1:=AS (.int .i64 (y0:Int)) (.int .i64 (y1:Int)) (.int .i64 (y2:Int)) (.int .i64 (y3:Int)) (.int .i64 (y4:Int));have j2:=AT (.int .i64 (y0:Int)) (.int .i64 (y1:Int)) (.int .i64 (y2:Int)) (.int .i64 (y3:Int)) (.int .i64 (y4:Int));have j3:=AU (.int .i64 (y0:Int)) (.int .i64 (y1:Int)) (.int .i64 (y2:Int)) (.int .i64 (y3:Int)) (.int .i64 (y4:Int));have j4:=AV (.int .i64 (y0:Int)) (.int .i64 (y1:Int)) (.int .i64 (y2:Int)) (.int .i64 (y3:Int)) (.int .i64 (y4:Int));have c6:=h.c6;have c5:=h.c5;have H:=ab h;have HM:=ab hm;have HG:Hid (∀(W:World) (a b:Nat),Calls prog 265 #[.int .i64 a,.int .i64 b] W λe w'=>e=.returned (.int .i64 (max a b:Nat))/\w'=W):=ab (λW a b=>C2 a b);clear h e0 e1 e2 e3 e4 hm;go_enter func258,ntmps258;go_wp2_with fail
 go_loop [3,14] (λm i=>∃(k:Nat),k<=5/\i=.int .i64 k/\m=.int .i64 ((([y0,y1,y2,y3,y4].take k).foldl max 0:Nat):Int)) (λ_ i=>5-(intOf i).toNat)
 case atStart=>exact⟨0,zq5 _,rfl,rfl⟩
 case round =>
  obtain⟨k,hk,rfl,rfl⟩:=hrel;obtain⟨m,Ct⟩:∃m,m=([y0,y1,y2,y3,y4].take k).foldl max 0:=⟨_,rfl⟩;rw[<-Ct];have MO:=ab Ct;clear Ct;have vT:k=0\/k=1\/k=2\/k=3\/k=4\/k=5:=by omega
  rcases vT with rfl|rfl|rfl|rfl|rfl|rfl
  .go_wp2_with fail
   refine(uh HG _ _ _).mono ?_;rintro e w1 ⟨rfl,rfl⟩;go_wp2_with fail
   go_round
   case rel=>exact⟨1,by omega,by go_num,by rw[uh MO];rfl⟩
   case measure=>simp[intOf]
  .go_wp2_with fail
   refine(uh HG _ _ _).mono ?_;rintro e w1 ⟨rfl,rfl⟩;go_wp2_with fail
   go_round
   case rel=>exact⟨2,by omega,by go_num,by rw[uh MO];rfl⟩
   case measure=>simp[intOf]
  .go_wp2_with fail
   refine(uh HG _ _ _).mono ?_;rintro e w1 ⟨rfl,rfl⟩;go_wp2_with fail
   go_round
   case rel=>exact⟨3,by omega,by go_num,by rw[uh MO];rfl⟩
   case measure=>simp[intOf]
  .go_wp2_with fail
   refine(uh HG _ _ _).mono ?_;rintro e w1 ⟨rfl,rfl⟩;go_wp2_with fail
   go_round
   case rel=>exact⟨4,by omega,by go_num,by rw[uh MO];rfl⟩
   case measure=>simp[intOf]
  .go_wp2_with fail
   refine(uh HG _ _ _).mono ?_;rintro e w1 ⟨rfl,rfl⟩;go_wp2_with fail
   go_round
   case rel=>exact⟨5,by omega,by go_num,by rw[uh MO];rfl⟩
   case measure=>simp[intOf]
  .have hmc:m=qs f:=(by rw[uh MO,uh HC];rfl);have J2:=ab (Below.refl w.heap.size w);have di:Hid (m=rb (qs f) (f.ow.take 0)):=ab (by rw[hmc];rfl);clear MO hmc j0 j1 j2 j3 j4 x0 x1 x2 x3 x4 HC;go_wp2_with fail
   go_loopw [3,26] (λmv i wx=>∃(k:Nat),k<=f.ow.length/\i=.int .i64 k/\mv=.int .i64 (rb (qs f) (f.ow.take k):Nat)/\Hid (Below w.heap.size w wx)) (λ_ i _=>f.ow.length-(intOf i).toNat)
   case atStart=>exact⟨0,zq5 _,rfl,by rw[<-uh di],J2⟩
   case round =>
    clear di J2;obtain⟨k,hk,rfl,rfl,hb⟩:=hrel;obtain⟨m,Ct⟩:∃m,m=rb (qs f) (f.ow.take k):=⟨_,rfl⟩;rw[<-Ct];have hF:=(uh H).below (uh hb);by_cases au:k<f.ow.length
    .have hd:decide ((k:Int)<(f.ow.length:Int))=true:=(by simp;omega);obtain⟨g,cap,dF,-,-⟩:=aE hF.ow au;simp only[Value.slice.injEq,true_and]at dF;obtain⟨rfl,rfl⟩:=dF;obtain⟨x0,x1,x2⟩:=aB hF.ow au;have aP:=DL (m:=qs f) au;obtain⟨p,hp⟩:∃p,p=f.ow.getD k ay:=⟨_,rfl⟩;rw[<-hp]at x0 x1 x2 aP;rw[<-Ct]at aP;have di:=ab aP;have gb:Hid (Below w.heap.size w (wr.alloc (.cells #[.int .i64 (p.k:Int),.int .i64 (p.l:Int),.int .i64 (p.r:Int)] 182))):=ab ((uh hb).alloc (uh hb).size _);have i1:(0:Int)<=(k:Int):=(by omega);have i2:(k:Int)<(f.ow.length:Int):=(by omega);clear hF hp aP Ct;go_wp2_with fail
     refine(uh HG _ _ _).mono ?_;rintro e w1 ⟨rfl,rfl⟩;go_wp2_with fail
     refine(uh HG _ _ _).mono ?_;rintro e w1 ⟨rfl,rfl⟩;go_wp2_with fail
     go_roundw
     case rel=>exact⟨k+1,by omega,by go_num,by rw[uh di,Nat.max_assoc],gb⟩
     case measure=>simp[intOf];omega
    .have hd:decide ((k:Int)<(f.ow.length:Int))=false:=(by simp;omega);have kI:m=rb (rb (qs f) f.ow) (f.ap.take 0):=(by rw[Ct,take_of_length_le (by omega)];rfl);have WD:=ab kI;have c5':=hF.c5;clear hF Ct kI;go_wp2_with fail
     go_loopw [3,44] (λmv i wx=>∃(k:Nat),k<=f.ap.length/\i=.int .i64 k/\mv=.int .i64 (rb (rb (qs f) f.ow) (f.ap.take k):Nat)/\Hid (Below w.heap.size w wx)) (λ_ i _=>f.ap.length-(intOf i).toNat)
     case atStart=>exact⟨0,zq5 _,rfl,by rw[<-uh WD],hb⟩
     case round =>
      clear WD hb;obtain⟨k2,mL,rfl,rfl,hb⟩:=hrel;obtain⟨m2,Ct⟩:∃m,m=rb (rb (qs f) f.ow) (f.ap.take k2):=⟨_,rfl⟩;rw[<-Ct];have hF:=(uh H).below (uh hb);by_cases b8:k2<f.ap.length
      .have k6:decide ((k2:Int)<(f.ap.length:Int))=true:=(by simp;omega);obtain⟨g,cap,dF,-,-⟩:=aE hF.ap b8;simp only[Value.slice.injEq,true_and]at dF;obtain⟨rfl,rfl⟩:=dF;obtain⟨x0,x1,x2⟩:=aB hF.ap b8;have aP:=DL (m:=rb (qs f) f.ow) b8;obtain⟨p,hp⟩:∃p,p=f.ap.getD k2 ay:=⟨_,rfl⟩;rw[<-hp]at x0 x1 x2 aP;rw[<-Ct]at aP;have di:=ab aP;have gb:Hid (Below w.heap.size w (wr.alloc (.cells #[.int .i64 (p.k:Int),.int .i64 (p.l:Int),.int .i64 (p.r:Int)] 182))):=ab ((uh hb).alloc (uh hb).size _);have i1:(0:Int)<=(k2:Int):=(by omega);have i2:(k2:Int)<(f.ap.length:Int):=(by omega);clear hF hp aP Ct;go_wp2_with fail
       refine(uh HG _ _ _).mono ?_;rintro e w1 ⟨rfl,rfl⟩;go_wp2_with fail
       refine(uh HG _ _ _).mono ?_;rintro e w1 ⟨rfl,rfl⟩;go_wp2_with fail
       go_roundw
       case rel=>exact⟨k2+1,by omega,by go_num,by rw[uh di,Nat.max_assoc],gb⟩
       case measure=>simp[intOf];omega
      .have k6:decide ((k2:Int)<(f.ap.length:Int))=false:=(by simp;omega);have hE:m2+1=aw f:=(by unfold aw;rw[Ct,take_of_length_le (by omega)]);have fJ:m2<=100000:=(by have:=uh HM;omega);have HE:=ab hE;clear hF Ct hE;go_wp2_with fail
       go_ret;exact⟨bj (by rw[<-uh HE];go_num),uh hb⟩
end
def ko(f:CF):List Nat:=[f.cl.getD 0 0,f.cl.getD 1 0,f.cl.getD 2 0,f.cl.getD 3 0,f.cl.getD 4 0]
def bM(f:CF):List Nat:=ko f++f.ow.flatMap (λp=>[p.l,p.r])
def yh(f:CF)(p:Pr):Bool:=decide (p.l∈bM f)&&decide (p.r∈bM f)&&!mH f p.l p.r
def cK(f:CF):CF:={ f with ap:=f.ap.filter (yh f) }
def iU(ms:List Nat)(c:Nat):List Nat:=if c∈ms then ms else ms++[c]
def C1(ms:List Nat)(c:Nat):Nat:=if c∈ms then ms.idxOf c+1 else 0
def zQ(f:CF)(k:Nat)(ms:List Nat):List Nat :=
 match cE f.ow (ms.getD k 0) with
 |some i=>iU ms (f.ow.getD i ay).r
 |none=>ms
def pm(f:CF):Nat->Nat->List Nat->List Nat
 |0,_,ms=>ms
 |n+1,k,ms=>if k<ms.length then pm f n (k+1) (zQ f k ms) else ms
def zI(f:CF)(ms:List Nat)(p:Pr):List Nat:=pm f 25 ms.length (iU ms p.l)
def dg(f:CF):List Nat:=f.ow.foldl (zI f) (pm f 25 0 ((ko f).foldl iU []))
def jm(ms:List Nat)(p:Pr):Pr:=⟨p.k,ms.idxOf p.l,ms.idxOf p.r⟩
def wX(f:CF):CF:=⟨(ko f).map (λc=>(dg f).idxOf c),f.ap.map (jm (dg f)),f.ow.map (jm (dg f))⟩
def er(ms:List Nat):Prop:=ms.Nodup/\∀c∈ms,c<24
theorem er.len{ms:List Nat}(h:er ms):ms.length<=24:=by
 have:=List.Nodup.length_le_of_subset h.1 (l₂:=range 24) (λc hc=>by simpa using h.2 c hc);simpa using this
theorem er.nil:er []:=⟨nodup_nil,λc hc=>by simp at hc⟩
theorem er.me{ms:List Nat}(h:er ms){c:Nat}(hc:c<24):er (iU ms c):=by
 unfold iU;split
 .exact h
 .rename_i hn;refine⟨?_,λd hd=>?_⟩
  .rw[nodup_append];exact⟨h.1,by simp,λa ha b hb e=>by simp only[mem_singleton]at hb;subst hb;subst e;exact hn ha⟩
  .rw[mem_append,mem_singleton]at hd;rcases hd with hd|rfl
   .exact h.2 d hd
   .exact hc
theorem uz{ms:List Nat}{c d:Nat}(h:d∈ms):d∈iU ms c:=by unfold iU;split;exact h;exact mem_append_left _ h
theorem Bs(ms:List Nat)(c:Nat):c∈iU ms c:=by unfold iU;split;assumption;simp
theorem Vm(ms:List Nat)(c:Nat):ms.length<=(iU ms c).length:=by unfold iU;split <;> simp
theorem Jg{ms:List Nat}{c k:Nat}(hk:k<ms.length):(iU ms c).getD k 0=ms.getD k 0:=by
 unfold iU;split
 .rfl
 .simp[getD_eq_getElem?_getD,getElem?_append_left hk]
theorem eU:∀{l:List Pr} {c i:Nat},cE l c=some i->i<l.length/\(l.getD i ay).l=c
 |[],_,_,h=>by simp[cE]at h
 |p::r,c,i,h=>by
  unfold cE at h;split at h
  .injection h with h;subst h;rename_i e;exact⟨by simp,by simpa using e⟩
  .obtain⟨j,hj,rfl⟩:=Option.map_eq_some_iff.1 h;obtain⟨h1,h2⟩:=eU hj;exact⟨by simp only[length_cons];omega,by rw[getD_cons_succ];exact h2⟩
theorem uc{l:List Pr}{c i:Nat}(h:cE l c=some i):l.getD i ay∈l:=by
 obtain⟨h1,-⟩:=eU h;rw[getD_eq_getElem?_getD,getElem?_eq_getElem h1];exact getElem_mem h1
def lP(l:List Pr):Prop:=(l.map (·.l)).Nodup
theorem pM{l:List Pr}{p:Pr}(hN:lP l)(hp:p∈l):∃i,cE l p.l=some i/\l.getD i ay=p:=by
 induction l with
 |nil=>simp at hp
 |cons q r ih =>
  unfold lP at hN;rw[map_cons,nodup_cons]at hN;rcases mem_cons.1 hp with rfl|hp
  .exact⟨0,by simp[cE],by simp⟩
  .obtain⟨i,h1,h2⟩:=ih hN.2 hp;have aH:¬ (q.l=p.l):=λe=>hN.1 (by rw[e];exact mem_map_of_mem (f:=(·.l)) hp);exact⟨i+1,by unfold cE;rw[if_neg aH,h1];rfl,by simpa using h2⟩
section
variable {f:CF}
theorem Rr(hO:∀p∈f.ow,p.l<24/\p.r<24){k:Nat}{ms:List Nat}(h:er ms):er (zQ f k ms):=by
 unfold zQ;split
 .rename_i i hi;exact h.me (hO _ (uc hi)).2
 .exact h
theorem V7{k:Nat}{ms:List Nat}{d:Nat}(h:d∈ms):d∈zQ f k ms:=by unfold zQ;split;exact uz h;exact h
theorem JM(f:CF)(k:Nat)(ms:List Nat):ms.length<=(zQ f k ms).length:=by unfold zQ;split;exact Vm _ _;exact zq4 _
theorem JL{k:Nat}{ms:List Nat}{j:Nat}(h:j<ms.length):(zQ f k ms).getD j 0=ms.getD j 0:=by unfold zQ;split;exact Jg h;rfl
theorem GN(hO:∀p∈f.ow,p.l<24/\p.r<24):∀(n k:Nat) {ms:List Nat},er ms->er (pm f n k ms)
 |0,_,_,h=>h
 |n+1,k,ms,h=>by
  unfold pm;split
  .exact GN hO n (k+1) (Rr hO h)
  .exact h
theorem oE:∀(n k:Nat) {ms:List Nat} {d:Nat},d∈ms->d∈pm f n k ms
 |0,_,_,_,h=>h
 |n+1,k,ms,d,h=>by
  unfold pm;split
  .exact oE n (k+1) (V7 h)
  .exact h
theorem BV:∀(n k:Nat) {ms:List Nat} {j:Nat},j<ms.length->j<(pm f n k ms).length/\(pm f n k ms).getD j 0=ms.getD j 0
 |0,_,_,_,h=>⟨h,rfl⟩
 |n+1,k,ms,j,h=>by
  unfold pm;split
  .obtain⟨h1,h2⟩:=BV n (k+1) (ms:=zQ f k ms) (j:=j) (zq6 h (JM f k ms));exact⟨h1,h2.trans (JL h)⟩
  .exact⟨h,rfl⟩
theorem JK(hO:∀p∈f.ow,p.l<24/\p.r<24):∀(n k:Nat) {ms:List Nat},er ms->24<n+k->∀j,k<=j->j<(pm f n k ms).length->∀i,cE f.ow ((pm f n k ms).getD j 0)=some i->(f.ow.getD i ay).r∈pm f n k ms
 |0,k,ms,h,hk,j,hj,hl,i,hi=>by
  have:=h.len;unfold pm at hl;omega
 |n+1,k,ms,h,hk,j,hj,hl,i,hi=>by
  unfold pm at hl hi ⊢;split at hl
  .rename_i au;rw[if_pos au]at hi ⊢;by_cases e:k=j
   .subst e;obtain⟨-,h2⟩:=BV (f:=f) n (k+1) (ms:=zQ f k ms) (j:=k) (zq6 au (JM f k ms));rw[h2,JL au]at hi;refine oE n (k+1) ?_;unfold zQ;rw[hi];exact Bs _ _
   .exact JK hO n (k+1) (Rr hO h) (by omega) j (by omega) hl i hi
  .rename_i au;omega
def Clo(f:CF)(ms:List Nat):Prop:=∀c∈ms,∀i,cE f.ow c=some i->(f.ow.getD i ay).r∈ms
theorem Ny(hO:∀p∈f.ow,p.l<24/\p.r<24){n k:Nat}{ms:List Nat}(h:er ms)(hk:24<n+k)(hc:∀j,j<k->j<ms.length->∀i,cE f.ow (ms.getD j 0)=some i->(f.ow.getD i ay).r∈ms):Clo f (pm f n k ms):=by
 intro c KR i hi;obtain⟨j,hj,rfl⟩:=mem_iff_getElem.1 KR;have e:(pm f n k ms).getD j 0=(pm f n k ms)[j]:=by rw[getD_eq_getElem?_getD,getElem?_eq_getElem hj];rfl
 by_cases au:k<=j
 .exact JK hO n k h hk j au hj i (by rw[e];exact hi)
 .by_cases tf:j<ms.length
  .obtain⟨-,h2⟩:=BV (f:=f) n k tf;exact oE n k (hc j (by omega) tf i (by rw[<-h2,e];exact hi))
  .exfalso;cases n with
   |zero=>unfold pm at hj;omega
   |succ n =>
    unfold pm at hj;rw[if_neg (by omega)]at hj;omega
theorem abN(hO:∀p∈f.ow,p.l<24/\p.r<24){ms:List Nat}{p:Pr}(hp:p∈f.ow)(h:er ms)(hc:Clo f ms):er (zI f ms p)/\Clo f (zI f ms p)/\p.l∈zI f ms p/\∀d∈ms,d∈zI f ms p:=by
 have h1:=h.me (hO p hp).1;refine⟨GN hO _ _ h1,Ny hO h1 (by omega) (λj hj _ i hi=>?_),oE _ _ (Bs _ _),λd hd=>oE _ _ (uz hd)⟩;rw[Jg hj]at hi;refine uz (hc _ ?_ i hi);rw[getD_eq_getElem?_getD,getElem?_eq_getElem hj];exact getElem_mem hj
theorem Ra(hO:∀p∈f.ow,p.l<24/\p.r<24):∀(l:List Pr) {ms:List Nat},(∀p∈l,p∈f.ow)->er ms->Clo f ms->er (l.foldl (zI f) ms)/\Clo f (l.foldl (zI f) ms)/\(∀p∈l,p.l∈l.foldl (zI f) ms)/\∀d∈ms,d∈l.foldl (zI f) ms
 |[],ms,_,h,hc=>⟨h,hc,λp hp=>by simp at hp,λd hd=>hd⟩
 |p::r,ms,hl,h,hc=>by
  obtain⟨h1,h2,h3,h4⟩:=abN hO (hl p (by simp)) h hc;obtain⟨g1,g2,g3,g4⟩:=Ra hO r (λq hq=>hl q (by simp[hq])) h1 h2;rw[foldl_cons];exact⟨g1,g2,λq hq=>by
   rcases mem_cons.1 hq with rfl|hq
   .exact g4 _ h3
   .exact g3 q hq,λd hd=>g4 d (h4 d hd)⟩
theorem Bp:∀(l:List Nat) {ms:List Nat},(∀c∈l,c<24)->er ms->er (l.foldl iU ms)/\(∀c∈l,c∈l.foldl iU ms)/\∀d∈ms,d∈l.foldl iU ms
 |[],ms,_,h=>⟨h,λc hc=>by simp at hc,λd hd=>hd⟩
 |c::r,ms,hl,h=>by
  obtain⟨g1,g2,g3⟩:=Bp r (λd hd=>hl d (by simp[hd])) (h.me (hl c (by simp)));rw[foldl_cons];exact⟨g1,λd hd=>by
   rcases mem_cons.1 hd with rfl|hd
   .exact g3 _ (Bs _ _)
   .exact g2 d hd,λd hd=>g3 d (uz hd)⟩
theorem rp(hO:∀p∈f.ow,p.l<24/\p.r<24)(hC:∀c∈ko f,c<24):er (dg f)/\Clo f (dg f)/\(∀c∈ko f,c∈dg f)/\∀p∈f.ow,p.l∈dg f:=by
 obtain⟨h1,h2,-⟩:=Bp (ko f) hC er.nil;have h3:=Ny hO (n:=25) (k:=0) h1 (by omega) (λj hj=>by omega);obtain⟨g1,g2,g3,g4⟩:=Ra hO f.ow (λp hp=>hp) (GN hO 25 0 h1) h3;exact⟨g1,g2,λc hc=>g4 c (oE _ _ (h2 c hc)),g3⟩
theorem lI(hO:∀p∈f.ow,p.l<24/\p.r<24)(hC:∀c∈ko f,c<24)(hN:lP f.ow):∀c∈bM f,c∈dg f:=by
 obtain⟨-,g2,g3,g4⟩:=rp hO hC;intro c hc;unfold bM at hc;rw[mem_append,mem_flatMap]at hc;rcases hc with hc|⟨p,hp,hc⟩
 .exact g3 c hc
 .simp only[mem_cons,not_mem_nil,or_false]at hc;rcases hc with rfl|rfl
  .exact g4 p hp
  .obtain⟨i,h1,h2⟩:=pM hN hp;have:=g2 _ (g4 p hp) i h1;rwa [h2]at this
end
def B1(p:Pr)(l:List Pr):Nat->Nat
 |0=>0
 |k+1=>if Md p (l.getD k ay)=true then B1 p l k else k+1
def fX(l:List Pr)(p:Pr):List Pr:=l.take (B1 p l l.length)++p::l.drop (B1 p l l.length)
def DY(p q:Pr):Bool:=decide (p.k=q.k)&&decide (p.l=q.l)&&decide (p.r=q.r)
def l6(a:List Pr)(p:Pr):List Pr:=if a=[]\/DY p (a.getD (a.length-1) ay)=false then a++[p] else a
def mn(l:List Pr):List Pr:=(l.foldl fX []).foldl l6 []
theorem uK{p q:Pr}:DY p q=true↔p=q:=by
 unfold DY;cases p;cases q
 simp[and_assoc]
theorem GS(p:Pr)(l:List Pr):∀k,B1 p l k<=k
 |0=>zq4 _
 |k+1=>by
  unfold B1;split
  .exact Nat.le_succ_of_le (GS p l k)
  .exact zq4 _
theorem RW(p:Pr)(l:List Pr):∀k j,B1 p l k<=j->j<k->Md p (l.getD j ay)=true
 |0,j,_,h=>by omega
 |k+1,j,h1,h2=>by
  unfold B1 at h1;split at h1
  .rename_i h;by_cases e:j=k
   .rw[e];exact h
   .exact RW p l k j h1 (by omega)
  .omega
theorem RV(p:Pr)(l:List Pr):∀k,0<B1 p l k->Md p (l.getD (B1 p l k-1) ay)=false
 |0,h=>by simp[B1]at h
 |k+1,h=>by
  unfold B1 at h ⊢;split
  .rename_i hb;rw[if_pos hb]at h;exact RV p l k h
  .rename_i hb;simpa using hb
def Cy(p q:Pr):Prop:=p.l<q.l\/(p.l=q.l/\p.r<=q.r)
def EN(p q:Pr):Prop:=p.l<q.l\/(p.l=q.l/\p.r<q.r)
theorem Hu{p q:Pr}:Md p q=true↔EN p q:=by simp[Md,EN]
theorem Ty{p q:Pr}:Md p q=false↔Cy q p:=by
 rw[<-Bool.not_eq_true,Hu];unfold EN Cy;omega
theorem zu{p q r:Pr}(h1:Cy p q)(h2:Cy q r):Cy p r:=by unfold Cy at *;omega
theorem ahf{p q:Pr}(h:EN p q):Cy p q:=by unfold EN Cy at *;omega
theorem Lq{p q r:Pr}(h1:EN p q)(h2:EN q r):EN p r:=by unfold EN at *;omega
theorem aY{l:List Pr}{j:Nat}(h:j<l.length):l.getD j ay∈l:=by
 rw[getD_eq_getElem?_getD,getElem?_eq_getElem h];exact getElem_mem h
theorem bY{l:List Pr}{j:Nat}(h:j<l.length):l.getD j ay=l[j]:=by
 rw[getD_eq_getElem?_getD,getElem?_eq_getElem h];rfl
theorem PU{l:List Pr}{p q:Pr}:q∈fX l p↔q=p\/q∈l:=by
 unfold fX;rw[mem_append,mem_cons];constructor
 .rintro(h|h|h)
  .exact zq1 (mem_of_mem_take h)
  .exact zq0 h
  .exact zq1 (mem_of_mem_drop h)
 .rintro(h|h)
  .exact zq1 (zq0 h)
  .rw[<-take_append_drop (B1 p l l.length) l,mem_append]at h;rcases h with h|h
   .exact zq0 h
   .exact zq1 (zq1 h)
theorem PT(l:List Pr)(p:Pr):(fX l p).length=l.length+1:=by
 unfold fX;have:=GS p l l.length;simp only[length_append,length_take,length_cons,length_drop];omega
theorem PV{l:List Pr}{p:Pr}(h:l.Pairwise Cy):(fX l p).Pairwise Cy:=by
 have m9:=GS p l l.length;have au:=RW p l l.length;have cX:=RV p l l.length;unfold fX;generalize hk:B1 p l l.length=k at *;have hd:∀q∈l.drop k,Cy p q:=by
  intro q hq;obtain⟨j,hj,rfl⟩:=mem_iff_getElem.1 hq;rw[length_drop]at hj;rw[getElem_drop,<-bY (by omega)];exact ahf (Hu.1 (au (k+j) (by omega) (by omega)))
 have ht:∀q∈l.take k,Cy q p:=by
  intro q hq;obtain⟨j,hj,rfl⟩:=mem_iff_getElem.1 hq;rw[length_take]at hj;have h1:=Ty.1 (cX (by omega));rw[getElem_take];by_cases e:j=k-1
  .rw[bY (by omega)]at h1;subst e;exact h1
  .refine zu ?_ h1;rw[bY (by omega)];exact pairwise_iff_getElem.1 h j (k-1) (by omega) (by omega) (by omega)
 rw[pairwise_append,pairwise_cons];refine⟨h.sublist (take_sublist _ _),⟨hd,h.sublist (drop_sublist _ _)⟩,?_⟩;intro a ha b hb;rcases mem_cons.1 hb with rfl|hb
 .exact ht a ha
 .exact zu (ht a ha) (hd b hb)
theorem qP:∀(l:List Pr) {a:List Pr},a.Pairwise Cy->(l.foldl fX a).Pairwise Cy/\(∀q,q∈l.foldl fX a↔q∈a\/q∈l)/\(l.foldl fX a).length=a.length+l.length
 |[],a,h=>⟨h,λq=>by simp,by simp⟩
 |p::r,a,h=>by
  obtain⟨h1,h2,h3⟩:=qP r (PV (p:=p) h);rw[foldl_cons];refine⟨h1,λq=>?_,?_⟩
  .rw[h2,PU,mem_cons];constructor
   .rintro((h|h)|h)
    .exact zq1 (zq0 h)
    .exact zq0 h
    .exact zq1 (zq1 h)
   .rintro(h|h|h)
    .exact zq0 (zq1 h)
    .exact zq0 (zq0 h)
    .exact zq1 h
  .rw[h3,PT,length_cons];omega
theorem NL{a:List Pr}{p:Pr}:p∈l6 a p:=by
 unfold l6;split
 .simp
 .rename_i h;rw[not_or]at h;have h1:DY p (a.getD (a.length-1) ay)=true:=by simpa using h.2
  rw[uK]at h1;rw[h1];exact aY (by have:=length_pos_iff.2 h.1;omega)
theorem TL{a:List Pr}{p q:Pr}(h:q∈a):q∈l6 a p:=by unfold l6;split;exact mem_append_left _ h;exact h
theorem Ic:∀(l:List Pr) {a:List Pr} {q:Pr},q∈l.foldl l6 a↔q∈a\/q∈l
 |[],a,q=>by simp
 |p::r,a,q=>by
  rw[foldl_cons,Ic r,mem_cons];constructor
  .rintro(h|h)
   .unfold l6 at h;split at h
    .rw[mem_append,mem_singleton]at h;rcases h with h|h
     .exact zq0 h
     .exact zq1 (zq0 h)
    .exact zq0 h
   .exact zq1 (zq1 h)
  .rintro(h|rfl|h)
   .exact zq0 (TL h)
   .exact zq0 NL
   .exact zq1 h
theorem dH{l:List Pr}{q:Pr}:q∈mn l↔q∈l:=by
 unfold mn;rw[Ic,(qP l (a:=[]) List.Pairwise.nil).2.1];simp
theorem Aq{K:Nat}:∀(l:List Pr) {a:List Pr},a.Pairwise EN->l.Pairwise Cy->(∀p∈a,∀q∈l,Cy p q)->(∀p∈a,p.k=K)->(∀p∈l,p.k=K)->(l.foldl l6 a).Pairwise EN
 |[],a,h,_,_,_,_=>h
 |p::r,a,h,hl,m6,ha,hk=>by
  rw[foldl_cons];have h1:=pairwise_cons.1 hl;by_cases hn:a=[]\/DY p (a.getD (a.length-1) ay)=false
  .have e:l6 a p=a++[p]:=(by unfold l6;rw[if_pos hn]);rw[e];refine Aq (K:=K) r ?_ h1.2 ?_ ?_ (λq hq=>hk q (by simp[hq]))
   .rw[pairwise_append];refine⟨h,by simp,λx hx y hy=>?_⟩;rw[mem_singleton]at hy;subst hy;have EK:=m6 x hx y (by simp);rcases hn with hn|hn
    .subst hn;simp at hx
    .obtain⟨j,hj,rfl⟩:=mem_iff_getElem.1 hx;have hz:Cy (a.getD (a.length-1) ay) y:=m6 _ (aY (by omega)) y (by simp);have hzl:EN (a.getD (a.length-1) ay) y:=by
      have Pp:y.k=K:=hk y (by simp);have mL:=ha _ (aY (l:=a) (j:=a.length-1) (by omega));generalize a.getD (a.length-1) ay=z at hn hz mL;have aH:y≠z:=λe=>by rw[uK.2 e]at hn;cases hn
      unfold Cy at hz;unfold EN;rcases hz with h|⟨h,h'⟩
      .exact zq0 h
      .right;refine⟨h,?_⟩;by_cases hr:z.r=y.r
       .exfalso;apply aH;cases y;cases z
        simp_all
       .omega
     by_cases e:j=a.length-1
     .subst e;rwa [bY (by omega)]at hzl
     .refine Lq ?_ hzl;rw[bY (by omega)];exact pairwise_iff_getElem.1 h j (a.length-1) hj (by omega) (by omega)
   .intro x hx y hy;rw[mem_append,mem_singleton]at hx;rcases hx with hx|rfl
    .exact m6 x hx y (by simp[hy])
    .exact h1.1 y hy
   .intro x hx;rw[mem_append,mem_singleton]at hx;rcases hx with hx|rfl
    .exact ha x hx
    .exact hk x (by simp)
  .have e:l6 a p=a:=(by unfold l6;rw[if_neg hn]);rw[e];exact Aq (K:=K) r h h1.2 (λx hx y hy=>m6 x hx y (by simp[hy])) ha (λq hq=>hk q (by simp[hq]))
theorem V8{K:Nat}{l:List Pr}(hk:∀p∈l,p.k=K):(mn l).Pairwise EN:=by
 obtain⟨h1,h2,-⟩:=qP l (a:=[]) List.Pairwise.nil;refine Aq (K:=K) _ List.Pairwise.nil h1 (λp hp=>by simp at hp) (λp hp=>by simp at hp) (λp hp=>hk p ?_);have:=(h2 p).1 hp;simpa using this
theorem NH:∀(l:List Pr) {a:List Pr},lP (a++l)->l.foldl l6 a=a++l
 |[],a,_=>by simp
 |p::r,a,h=>by
  have e:l6 a p=a++[p]:=by
   unfold l6;rw[if_pos];by_cases ha:a=[]
   .exact zq0 ha
   .right;cases hx:DY p (a.getD (a.length-1) ay) with
    |false=>rfl
    |true =>
     exfalso;rw[uK]at hx;have hm:=aY (l:=a) (j:=a.length-1) (by have:=length_pos_iff.2 ha;omega);rw[<-hx]at hm;unfold lP at h;rw[map_append,nodup_append]at h;exact h.2.2 p.l (mem_map_of_mem (f:=(·.l)) hm) p.l (by simp) rfl
  rw[foldl_cons,e,NH r (by rw[append_assoc];exact h),append_assoc];rfl
theorem Lh(l:List Pr)(p:Pr):(fX l p).Perm (p::l):=by
 unfold fX;refine perm_middle.trans ?_;rw[take_append_drop]
theorem zr:∀(l:List Pr) {a:List Pr},(l.foldl fX a).Perm (a++l)
 |[],a=>by simp
 |p::r,a=>by
  rw[foldl_cons];refine(zr r).trans ?_;refine((Lh a p).append_right r).trans ?_;exact(perm_middle (l₁:=a) (l₂:=r) (a:=p)).symm
theorem ru{l:List Pr}(h:lP l):(mn l).Perm l:=by
 unfold mn;have h1:=zr l (a:=[]);rw[NH _ (by unfold lP at h ⊢;rw[nil_append];exact((h1.map (·.l)).nodup_iff).2 (by simpa using h)),nil_append];simpa using h1
theorem V9{l:List Pr}(h:l.Pairwise EN)(hb:∀p∈l,p.l<24/\p.r<24):l.length<=576:=by
 have h1:(l.map (λp=>p.l*24+p.r)).Nodup:=by
  unfold List.Nodup;rw[pairwise_map];refine List.Pairwise.imp_of_mem ?_ h;intro a b ha xQ si e;have:=hb a ha;have:=hb b xQ;unfold EN at si;omega
 have:=List.Nodup.length_le_of_subset h1 (l₂:=range 576) (λc hc=>by
  obtain⟨p,hp,rfl⟩:=mem_map.1 hc;have:=hb p hp;rw[mem_range];omega)
 simpa using this
def jf(p:Pr):Pr:=if p.r<p.l then ⟨p.k,p.r,p.l⟩ else p
def orF(f:CF):CF:=⟨f.cl,mn (f.ap.map jf),mn f.ow⟩
def aQ(f:CF):CF:=orF (wX (cK f))
structure aj(f:CF):Prop where
 c5:f.cl.length=5
 cl:∀c∈ko f,c<24
 ow:∀p∈f.ow,p.l<24/\p.r<24
 ap:∀p∈f.ap,p.l<24/\p.r<24
 lf:lP f.ow
 kd:∀p∈f.ap,p.k=2
theorem aj.owLen{f:CF}(h:aj f):f.ow.length<=24:=by
 have h0:er (f.ow.map (·.l)):=⟨h.lf,λc hc=>by obtain⟨p,hp,rfl⟩:=mem_map.1 hc;exact(h.ow p hp).1⟩;simpa using h0.len
theorem GG(f:CF):dg (cK f)=dg f:=by
 have e:∀k ms,zQ (cK f) k ms=zQ f k ms:=λk ms=>rfl;have e2:∀n k ms,pm (cK f) n k ms=pm f n k ms:=by
  intro n;induction n with
  |zero=>intro k ms;rfl
  |succ n ih=>intro k ms;unfold pm;rw[e,ih]
 have e3:zI (cK f)=zI f:=by funext ms p;unfold zI;rw[e2]
 unfold dg;rw[e2,e3];rfl
theorem aj.fg{f:CF}(h:aj f):aj (cK f):=⟨h.c5,h.cl,h.ow,λp hp=>h.ap p ((mem_filter.1 hp).1),h.lf,λp hp=>h.kd p ((mem_filter.1 hp).1)⟩
theorem iB{f:CF}{p:Pr}(hp:p∈(cK f).ap):p.l∈bM (cK f)/\p.r∈bM (cK f):=by
 have:=(mem_filter.1 hp).2;unfold yh at this;simp only[Bool.and_eq_true,decide_eq_true_eq]at this;exact this.1
theorem ng{ms:List Nat}(h:er ms){c:Nat}(hc:c∈ms):ms.idxOf c<24:=zq6 (idxOf_lt_length_iff.2 hc) h.len
theorem AW{ms:List Nat}{c d:Nat}(hc:c∈ms)(hd:d∈ms)(e:ms.idxOf c=ms.idxOf d):c=d:=by
 have h1:=getElem_idxOf (idxOf_lt_length_iff.2 hc);have h2:=getElem_idxOf (idxOf_lt_length_iff.2 hd);rw[<-h1,<-h2];simp only[e]
theorem Hz{f:CF}(g:Nat->Nat)(ap ow:List Pr):ko ⟨(ko f).map g,ap,ow⟩=(ko f).map g:=rfl
theorem aj.rn{f:CF}(h:aj f)(hl:∀p∈f.ap,p.l∈bM f/\p.r∈bM f):aj (wX f):=by
 have hM:=(rp h.ow h.cl).1;have hL:=lI h.ow h.cl h.lf;refine⟨rfl,?_,?_,?_,?_,?_⟩
 .intro c hc;unfold wX at hc;rw[Hz]at hc;obtain⟨d,hd,rfl⟩:=mem_map.1 hc;exact ng hM (hL d (mem_append_left _ hd))
 .intro p hp;obtain⟨q,hq,rfl⟩:=mem_map.1 hp;have hq1:q.l∈bM f:=mem_append_right _ (mem_flatMap.2 ⟨q,hq,by simp⟩);have hq2:q.r∈bM f:=mem_append_right _ (mem_flatMap.2 ⟨q,hq,by simp⟩);exact⟨ng hM (hL _ hq1),ng hM (hL _ hq2)⟩
 .intro p hp;obtain⟨q,hq,rfl⟩:=mem_map.1 hp;exact⟨ng hM (hL _ (hl q hq).1),ng hM (hL _ (hl q hq).2)⟩
 .have h2:=h.lf;unfold lP wX at *;simp only[map_map];have e:((λx:Pr=>x.l) ∘ jm (dg f))=(λc=>(dg f).idxOf c) ∘ (λx:Pr=>x.l):=rfl;rw[e,<-map_map];unfold List.Nodup at h2 ⊢;rw[pairwise_map];refine List.Pairwise.imp_of_mem ?_ h2;intro a b ha hb si e2;obtain⟨p,hp,rfl⟩:=mem_map.1 ha;obtain⟨q,hq,rfl⟩:=mem_map.1 hb;exact si (AW (hL _ (mem_append_right _ (mem_flatMap.2 ⟨p,hp,by simp⟩))) (hL _ (mem_append_right _ (mem_flatMap.2 ⟨q,hq,by simp⟩))) e2)
 .intro p hp;obtain⟨q,hq,rfl⟩:=mem_map.1 hp;exact h.kd q hq
theorem X5(p:Pr):(jf p).k=p.k:=by unfold jf;split <;> rfl
theorem ab8{p:Pr}(h:p.l<24/\p.r<24):(jf p).l<24/\(jf p).r<24:=by unfold jf;split;exact⟨h.2,h.1⟩;exact h
theorem aj.or{f:CF}(h:aj f):aj (orF f):=by
 refine⟨h.c5,h.cl,λp hp=>h.ow p (dH.1 hp),?_,?_,?_⟩
 .intro p hp;obtain⟨q,hq,rfl⟩:=mem_map.1 (dH.1 hp);exact ab8 (h.ap q hq)
 .have:=(ru h.lf).map (·.l);exact this.nodup_iff.2 h.lf
 .intro p hp;obtain⟨q,hq,rfl⟩:=mem_map.1 (dH.1 hp);rw[X5];exact h.kd q hq
theorem aj.td{f:CF}(h:aj f):aj (aQ f):=(h.fg.rn (λ_ hp=>iB hp)).or
theorem VA{f:CF}(h:aj f):(orF f).ap.length<=576:=by
 refine V9 (V8 (K:=2) ?_) (h.or).ap;intro p hp;obtain⟨q,hq,rfl⟩:=mem_map.1 hp;rw[X5];exact h.kd q hq
theorem We{f:CF}(h:aj f):(aQ f).ap.length<=576:=VA (h.fg.rn (λ_ hp=>iB hp))
def mN(s:List Nat)(p:Pr):List Nat:=if p.l∈s/\p.r ∉ s then s++[p.r] else s
def wV(f:CF)(s:List Nat):List Nat:=f.ow.foldl mN s
def LK(f:CF):Nat->List Nat->List Nat
 |0,s=>s
 |n+1,s=>if (wV f s).length=s.length then s else LK f n (wV f s)
def QV(f:CF):List Nat:=[f.cl.getD 1 0,f.cl.getD 2 0,f.cl.getD 3 0,f.cl.getD 4 0].foldl iU []
def jz(f:CF):List Nat:=LK f 25 (QV f)
def ER(f:CF):List Bool:=(range 24).map (λc=>decide (c∈jz f))
theorem abD{s:List Nat}{p:Pr}(h:er s)(hp:p.r<24):er (mN s p):=by
 unfold mN;split
 .rename_i hc;have:=h.me hp;unfold iU at this;rwa [if_neg hc.2]at this
 .exact h
theorem BN(s:List Nat)(p:Pr):s.length<=(mN s p).length:=by unfold mN;split <;> simp
theorem GC:∀(l:List Pr) {s:List Nat},er s->(∀p∈l,p.r<24)->er (l.foldl mN s)/\s.length<=(l.foldl mN s).length
 |[],s,h,_=>⟨h,zq4 _⟩
 |p::r,s,h,hl=>by
  obtain⟨h1,h2⟩:=GC r (abD h (hl p (by simp))) (λq hq=>hl q (by simp[hq]));exact⟨h1,zq3 (BN s p) h2⟩
theorem aby{f:CF}(h:∀c∈ko f,c<24):er (QV f):=(Bp _ (λc hc=>h c (by unfold ko;simp at hc ⊢;rcases hc with h|h|h|h <;> simp[h])) er.nil).1
