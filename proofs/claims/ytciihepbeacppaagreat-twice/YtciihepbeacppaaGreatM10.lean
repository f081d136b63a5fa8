import Derived.Test.YtciihepbeacppaaGreatM09
set_option maxRecDepth 100000
set_option maxHeartbeats 0
namespace Go.Proofs.YtciihepbeacppaaGreat
open Tryz Go.RowKit List World Below
set_option linter.unusedVariables false
def Pc(f:CF)(p:Pr):Bool:=!(nmB f p.l||decide (p.r=p.l))&&decide (GY f.ow p.l=1)
def NT(f:CF):Option Nat:=f.ow.findIdx? (Pc f)
theorem Vx{l:List Pr}{P:Pr->Bool}{k:Nat}(hk:k<l.length)(hn:∀j,j<k->P (l.getD j aE)=false)(h:P (l.getD k aE)=true):l.findIdx? P=some k:=by
 rw[findIdx?_eq_some_iff_getElem];refine⟨hk,by rw[<-iW hk];exact h,λj hj=>?_⟩;have:=hn j hj;rw[iW (by omega)]at this;simpa using this
theorem P8{l:List Pr}{P:Pr->Bool}(hn:∀j,j<l.length->P (l.getD j aE)=false):l.findIdx? P=none:=by
 rw[findIdx?_eq_none_iff];intro x hx;obtain⟨k,hk,rfl⟩:=mem_iff_getElem.1 hx;have:=hn k hk;rwa [iW hk]at this
section
variable {w:World} {A:Nat} {f:CF} {av ov:Value}
theorem BB(h:dT w A f av ov)(ho:f.ow.length<=100000):Calls prog 250 #[.pointer (some ⟨A,0,none⟩)] w λe w'=>e=.returned (.int .i64 (eK (NT f)))/\Below w.heap.size w w':=by
 obtain⟨oa,oc,fx,hoc,hom⟩:=aj h.ow;subst fx;have H:=ab h;have GF:=ab (Below.refl w.heap.size w);clear h;go_enter func250,ntmps250;go_wp2_with fail
 go_loopw [3] (λi wx=>∃(k:Nat),k<=f.ow.length/\i=.int .i64 k/\Hid (Below w.heap.size w wx)/\Hid (∀j,j<k->Pc f (f.ow.getD j aE)=false)) (λi _=>f.ow.length-(intOf i).toNat)
 case atStart=>exact⟨0,zq5 _,rfl,GF,ab (λ_ h=>absurd h (by omega))⟩
 case round =>
  clear GF;obtain⟨k,hk,rfl,hb,hn⟩:=hrel;have hF:=(uh H).below (uh hb);have c6:=hF.c6;by_cases ar:k<f.ow.length
  .have hd:decide ((k:Int)<(f.ow.length:Int))=true:=(by simp;omega);obtain⟨g,cap,c9,-,-⟩:=aD hF.ow ar;simp only[Value.slice.injEq,true_and]at c9;obtain⟨rfl,rfl⟩:=c9;obtain⟨x0,x1,x2⟩:=aA hF.ow ar;obtain⟨p,hp⟩:∃p,p=f.ow.getD k aE:=⟨_,rfl⟩;rw[<-hp]at x0 x1 x2;have OG:=ab (IA hF p.l);have Jw:Hid (Calls prog 262 #[.pointer (some ⟨A,0,none⟩),.int .i64 p.l] wr λe w'=>e=.returned (.int .i64 (GY f.ow p.l:Nat))/\Below w.heap.size w w'):=ab ((KB hF ho p.l).mono (by
    rintro e w' ⟨rfl,aR⟩;exact⟨rfl,(uh hb).trans (aR.mono (uh hb).size)⟩))
   have yk:Pc f p=(!(nmB f p.l||decide (p.r=p.l))&&decide (GY f.ow p.l=1)):=rfl;have od:Hid (Pc f p=false->∀j,j<k+1->Pc f (f.ow.getD j aE)=false):=ab (λh0 j hj=>by
    by_cases e:j=k
    .rw[e,<-hp];exact h0
    .exact uh hn j (by omega))
   have HHT:Hid (Pc f p=true->eK (NT f)=(k:Int)):=ab (λh1=>by unfold NT;rw[Vx ar (uh hn) (by rw[<-hp];exact h1)];rfl);have i1:(0:Int)<=(k:Int):=(by omega);have i2:(k:Int)<(f.ow.length:Int):=(by omega);obtain⟨b,xX⟩:∃b,b=nmB f p.l:=⟨_,rfl⟩;obtain⟨m,hm⟩:∃m,m=GY f.ow p.l:=⟨_,rfl⟩;have et:m<=100000:=(by rw[hm];exact zq3 (Kz _ _) ho);rw[<-xX]at yk OG;rw[<-hm]at yk Jw;have HSM:=ab yk;clear hF hp yk xX hm;go_wp2_with fail
   refine(uh OG).mono ?_;rintro e w1 ⟨rfl,rfl⟩;clear OG;cases b with
   |true =>
    have HE:Hid (Pc f p=false):=ab (by rw[uh HSM];simp);go_wp2_with fail
    go_roundw
    case rel=>exact⟨k+1,by omega,by go_num,hb,ab (uh od (uh HE))⟩
    case measure=>simp[intOf];omega
   |false =>
    by_cases e1:p.r=p.l
    .have b1:((p.r:Int)==(p.l:Int))=true:=(by simp[e1]);have HE:Hid (Pc f p=false):=ab (by rw[uh HSM];simp[e1]);clear e1;go_wp2_with fail
     go_roundw
     case rel=>exact⟨k+1,by omega,by go_num,hb,ab (uh od (uh HE))⟩
     case measure=>simp[intOf];omega
    .have b1:((p.r:Int)==(p.l:Int))=false:=(by simp;omega);have Z3:Hid (Pc f p=decide (m=1)):=ab (by rw[uh HSM];simp[e1]);clear e1;go_wp2_with fail
     refine(uh Jw).mono ?_;rintro e w2 ⟨rfl,aR⟩;have dS:=ab aR;clear aR Jw;by_cases e2:m=1
     .have b2:((m:Int)==(1:Int))=true:=(by simp[e2]);have HE:Hid (eK (NT f)=(k:Int)):=ab (uh HHT (by rw[uh Z3];simp[e2]));clear e2;go_wp2_with fail
      go_ret;exact⟨bj (uh HE).symm,uh dS⟩
     .have b2:((m:Int)==(1:Int))=false:=(by simp;omega);have HE:Hid (Pc f p=false):=ab (by rw[uh Z3];simp[e2]);clear e2;go_wp2_with fail
      go_roundw
      case rel=>exact⟨k+1,by omega,by go_num,dS,ab (uh od (uh HE))⟩
      case measure=>simp[intOf];omega
  .have hd:decide ((k:Int)<(f.ow.length:Int))=false:=(by simp;omega);have HE:Hid (eK (NT f)=-1):=ab (by unfold NT;rw[P8 (λj hj=>uh hn j (by omega))];rfl);clear hF;go_wp2_with fail
   go_ret;exact⟨bj (uh HE).symm,uh hb⟩
end
def bF(g:Pr->Pr)(l:List Pr)(k:Nat):List Pr:=(l.take k).map g++l.drop k
theorem iQ(g:Pr->Pr)(l:List Pr)(k:Nat):(bF g l k).length=l.length:=by simp[bF];omega
theorem jS{g:Pr->Pr}{l:List Pr}{k:Nat}(hk:k<l.length):(bF g l k).getD k aE=l.getD k aE:=by
 rw[iW hk];unfold bF;rw[getD_eq_getElem?_getD,getElem?_append_right (by simp;omega)];simp[hk,Nat.min_eq_left (Nat.le_of_lt hk)]
theorem jT{g:Pr->Pr}{l:List Pr}{k:Nat}(hk:k<l.length):bF g l (k+1)=(bF g l k).set k (g (l.getD k aE)):=by
 rw[iW hk];unfold bF;have e:l.drop k=l[k]::l.drop (k+1):=drop_eq_getElem_cons hk;have e2:(l.take (k+1)).map g=(l.take k).map g++[g l[k]]:=by
  rw[take_add_one,getElem?_eq_getElem hk,map_append];rfl
 have e3:((l.take k).map g).length=k:=by simp;omega
 rw[e2,e,set_append_right _ _ (by omega),e3,Nat.sub_self,set_cons_zero,append_assoc];rfl
theorem tG{g:Pr->Pr}{l:List Pr}{k:Nat}(hk:l.length<=k):bF g l k=l.map g:=by
 unfold bF;rw[take_of_length_le hk,drop_eq_nil_of_le hk,append_nil]
theorem xg{l:List Pr}{k:Nat}(hk:k<l.length):l.set k (l.getD k aE)=l:=by
 rw[iW hk,set_getElem_self]
def oh(m e:Nat)(p:Pr):Pr:=if p.r=m then ⟨4,p.l,e⟩ else p
def Am(f:CF)(k:Nat):CF:={ f with ow:=Gv (f.ow.map (oh (f.ow.getD k aE).l (f.ow.getD k aE).r)) k }
def m8:Nat->CF->CF
 |0,f=>f
 |n+1,f=>match NT f with|none=>f|some k=>m8 n (Am f k)
def OM(f:CF):CF:=m8 f.ow.length f
theorem N6(l:List Pr)(i k:Nat):(qW l i k).length=if i<k then k-1 else k:=by
 induction k with
 |zero=>simp[qW]
 |succ k ih =>
  rw[uu,length_append,ih];by_cases h:k=i
  .rw[if_pos h,if_neg (by omega),if_pos (by omega)];simp
  .rw[if_neg h];by_cases h2:i<k
   .rw[if_pos h2,if_pos (by omega)];simp;omega
   .rw[if_neg h2,if_neg (by omega)];simp
theorem Sy{l:List Pr}{k:Nat}(hk:k<l.length):(Gv l k).length=l.length-1:=by
 unfold Gv;rw[N6,if_pos hk]
theorem Ys{f:CF}{k:Nat}(h:NT f=some k):k<f.ow.length:=by
 unfold NT at h;rw[findIdx?_eq_some_iff_getElem]at h;exact h.1
section
variable {w:World} {A:Nat} {f:CF} {av ov:Value}
theorem KR(h:Fm w A f av ov)(ho:f.ow.length<=100000):Calls prog 228 #[.pointer (some ⟨A,0,none⟩)] w λe w'=>e=.returned (.tuple #[])/\∃ov',Fm w' A (OM f) av ov'/\aq (aG A av ov) w (aG A av ov') w':=by
 have qC:=ab (BB h.is ho);have H:=ab h;clear h;go_enter func228,ntmps228;go_wp2_with fail
 refine(uh qC).mono ?_;rintro e w1 ⟨rfl,bB⟩;have cd:Hid (Fm w1 A f av ov/\aq (aG A av ov) w (aG A av ov) w1/\m8 f.ow.length f=OM f):=ab ⟨(uh H).below bB,aq.ofBw bB,rfl⟩;clear bB qC;go_wp2_with fail
 go_loopg [2] f.ow.length (λgn kv wx=>∃(F:CF) (ov':Value),F.ow.length=gn/\gn<=f.ow.length/\kv=.int .i64 (eK (NT F))/\Hid (Fm wx A F av ov'/\aq (aG A av ov) w (aG A av ov') wx/\m8 gn F=OM f))
 case atStart=>exact⟨f,ov,rfl,zq4 _,rfl,cd⟩
 case round =>
  clear cd;obtain⟨F,ov',db,hgn,rfl,hI⟩:=hrel;obtain⟨G,hG⟩:∃G,G=gk:=⟨_,rfl⟩;cases yk:NT F with
  |none =>
   have HE:Hid (F=OM f):=ab (by
    have:=(uh hI).2.2;rw[<-this];cases gk with
    |zero=>rfl
    |succ n=>simp[m8,yk])
   clear yk;go_wp2_with fail
   go_end0
   exact⟨rfl,ov',by rw[<-uh HE];exact(uh hI).1,(uh hI).2.1⟩
  |some k =>
   have jz:=Ys yk;have od:Hid (m8 (gk-1) (Am F k)=OM f):=ab (by
    have h1:=(uh hI).2.2;rw[<-h1,show gk=gk-1+1 by omega];simp[m8,yk])
   obtain⟨p,hp⟩:∃p,p=F.ow.getD k aE:=⟨_,rfl⟩;have IW:Hid (Am F k={ F with ow:=Gv (F.ow.map (oh p.l p.r)) k }):=ab (by unfold Am;rw[<-hp]);obtain⟨g,cap,c9,rg,je⟩:=aD (uh hI).1.is.ow jz;subst c9;have c6:=(uh hI).1.is.c6;obtain⟨-,x1,x2⟩:=aA (uh hI).1.is.ow jz;rw[<-hp]at x1 x2;have d0:decide ((0:Int)<=(k:Int))=true:=(by simp);have i1:(0:Int)<=(k:Int):=(by omega);have i2:(k:Int)<(F.ow.length:Int):=(by omega);have ep:Hid (Fm wr A { F with ow:=bF (oh p.l p.r) F.ow 0 } av (.slice (some ⟨g,0,none⟩) F.ow.length cap)/\aq (aG A av ov) w (aG A av (.slice (some ⟨g,0,none⟩) F.ow.length cap)) wr):=ab ⟨by simpa[bF] using (uh hI).1,(uh hI).2.1⟩;have HLN:=ab db;clear yk hp hI db;rw[show eK (some k)=(k:Int) from rfl];go_wp2_with fail
   go_loopg [5] F.ow.length (λgn i wx=>∃(j:Nat),j+gn=F.ow.length/\i=.int .i64 j/\Hid (Fm wx A { F with ow:=bF (oh p.l p.r) F.ow j } av (.slice (some ⟨g,0,none⟩) F.ow.length cap)/\aq (aG A av ov) w (aG A av (.slice (some ⟨g,0,none⟩) F.ow.length cap)) wx))
   case atStart=>exact⟨0,by omega,rfl,ep⟩
   case round =>
    clear ep x1 x2 c6;obtain⟨j,yc,rfl,hJ⟩:=hrel;obtain⟨G2,CZ⟩:∃G2,G2=gk:=⟨_,rfl⟩;have c6:=(uh hJ).1.is.c6;have et:=iQ (oh p.l p.r) F.ow j;by_cases ar:j<F.ow.length
    .have hd:decide ((j:Int)<(F.ow.length:Int))=true:=(by simp;omega);have bp:wr.ownsRow 0 182 3 (.slice (some ⟨g,0,none⟩) F.ow.length cap) F.ow.length (af (bF (oh p.l p.r) F.ow j)):=by
      have:=(uh hJ).1.is.ow;rwa [show({ F with ow:=bF (oh p.l p.r) F.ow j }:CF).ow.length=F.ow.length from et]at this
     have tt:wr.ownsRow 0 182 3 (.slice (some ⟨g,0,none⟩) (bF (oh p.l p.r) F.ow j).length cap) (bF (oh p.l p.r) F.ow j).length (af (bF (oh p.l p.r) F.ow j)):=(by rw[et];exact bp);obtain⟨y0,-,y2⟩:=aA tt (i:=j) (by omega);obtain⟨q,hq⟩:∃q,q=F.ow.getD j aE:=⟨_,rfl⟩;rw[jS ar,<-hq]at y0 y2;have z0:=bp.frozenAt (j*3);have k1:(0:Int)<=(j:Int):=(by omega);have k2:(j:Int)<(F.ow.length:Int):=(by omega);by_cases e1:q.r=p.l
     .have b1:((q.r:Int)==(p.l:Int))=true:=(by simp[e1]);have r1:=(bp.stored (j*3) (.int .i64 4)).1;rw[show(Value.int .i64 4)=Value.int .i64 ((4:Nat):Int) from rfl,kK (by omega),jS ar,<-hq]at r1;have z2:(wr.setCell ⟨g,j*3,none⟩ (.int .i64 4)).frozen? ⟨g,j*3+2,none⟩=false:=r1.frozenAt (j*3+2);have y2':(wr.setCell ⟨g,j*3,none⟩ (.int .i64 4)).cell? ⟨g,j*3+2,none⟩=some (.int .i64 (q.r:Int)):=(by rw[cell?_setCell_other _ _ _ _ (by simp)];exact y2);have r2:=(r1.stored (j*3+2) (.int .i64 (p.r:Int))).1;rw[ee (by simp;omega)]at r2;have e2:((bF (oh p.l p.r) F.ow j).set j ⟨4,q.l,q.r⟩).set j ⟨(((bF (oh p.l p.r) F.ow j).set j ⟨4,q.l,q.r⟩).getD j aE).k,(((bF (oh p.l p.r) F.ow j).set j ⟨4,q.l,q.r⟩).getD j aE).l,p.r⟩=bF (oh p.l p.r) F.ow (j+1):=by
       rw[jT ar,<-hq,set_set];have:((bF (oh p.l p.r) F.ow j).set j ⟨4,q.l,q.r⟩).getD j aE=⟨4,q.l,q.r⟩:=by
        rw[getD_eq_getElem?_getD,getElem?_set_self (by omega)];rfl
       rw[this];unfold oh;rw[if_pos e1]
      rw[e2]at r2;have hs:aq (Value.slice (some ⟨g,0,none⟩) F.ow.length cap).ownBlock.toList wr (Value.slice (some ⟨g,0,none⟩) F.ow.length cap).ownBlock.toList ((wr.setCell ⟨g,j*3,none⟩ (.int .i64 4)).setCell ⟨g,j*3+2,none⟩ (.int .i64 (p.r:Int))):=((aq.refl _ _).setCell (p:=⟨g,j*3,none⟩) (zq0 (by simp[Value.ownBlock])) _).setCell (p:=⟨g,j*3+2,none⟩) (zq0 (by simp[Value.ownBlock])) _;have hN:=(uh hJ).1.newRow (ow':=bF (oh p.l p.r) F.ow (j+1)) (by rw[iQ,iQ]) (by rw[show({ F with ow:=bF (oh p.l p.r) F.ow j }:CF).ow.length=F.ow.length from et];exact r2) hs;have c6':(wr.setCell ⟨g,j*3,none⟩ (.int .i64 4)).cell? ⟨A,6,none⟩=some (.slice (some ⟨g,0,none⟩) F.ow.length cap):=by
       rw[cell?_setCell_other _ _ _ _ (by intro e;have:=(uh hJ).1.nds.2.1;simp at e;exact this (by rw[e.1];rfl))];exact c6
      have HN:Hid (Fm ((wr.setCell ⟨g,j*3,none⟩ (.int .i64 4)).setCell ⟨g,j*3+2,none⟩ (.int .i64 (p.r:Int))) A { F with ow:=bF (oh p.l p.r) F.ow (j+1) } av (.slice (some ⟨g,0,none⟩) F.ow.length cap)/\aq (aG A av ov) w (aG A av (.slice (some ⟨g,0,none⟩) F.ow.length cap)) ((wr.setCell ⟨g,j*3,none⟩ (.int .i64 4)).setCell ⟨g,j*3+2,none⟩ (.int .i64 (p.r:Int)))):=ab ⟨hN.1,(uh hJ).2.trans hN.2⟩;clear e1 r1 r2 e2 hs hN bp tt hq et hJ;go_wp2_with fail
      go_roundg (G2-1)
      case rel=>exact⟨j+1,by omega,by go_num,HN⟩
      case measure=>omega
     .have b1:((q.r:Int)==(p.l:Int))=false:=(by simp;omega);have HE:Hid (bF (oh p.l p.r) F.ow (j+1)=bF (oh p.l p.r) F.ow j):=ab (by
       rw[jT ar,<-hq,show oh p.l p.r q=q from if_neg e1];have h1:=xg (l:=bF (oh p.l p.r) F.ow j) (k:=j) (by omega);rw[jS ar,<-hq]at h1;exact h1)
      clear e1 bp tt hq et;go_wp2_with fail
      go_roundg (G2-1)
      case rel=>exact⟨j+1,by omega,by go_num,ab (by rw[uh HE];exact uh hJ)⟩
      case measure=>omega
    .have hd:decide ((j:Int)<(F.ow.length:Int))=false:=(by simp;omega);have hF:Fm wr A { F with ow:=F.ow.map (oh p.l p.r) } av (.slice (some ⟨g,0,none⟩) F.ow.length cap):=by
      have:=(uh hJ).1;rwa [tG (by omega)]at this
     have HT:=ab (wn hF (by simp;have:=uh HLN;omega) k);have cI:=ab (uh hJ).2;clear hF et hJ;go_wp2_with fail
     refine(uh HT).mono ?_;rintro e w2 ⟨rfl,ov2,oj,dF⟩;have ye:(Gv (F.ow.map (oh p.l p.r)) k).length=F.ow.length-1:=(by rw[Sy (by simpa using jz)];simp);have cj:=ab (BB oj.is (by show(Gv (F.ow.map (oh p.l p.r)) k).length<=100000;have:=uh HLN;omega));have uZ:=ab oj;have Pz:=ab ((uh cI).trans dF);have HL2:=ab ye;clear oj dF ye HT c6;go_wp2_with fail
     refine(uh cj).mono ?_;rintro e w3 ⟨rfl,cU⟩;have Z8:Hid (Fm w3 A (Am F k) av ov2/\aq (aG A av ov) w (aG A av ov2) w3):=ab ⟨by rw[uh IW];exact(uh uZ).below cU,(uh Pz).trans (aq.ofBw cU)⟩;clear cU cj;go_wp2_with fail
     go_roundg (G-1)
     case rel =>
      have h1:=uh HLN;refine⟨Am F k,ov2,?_,by omega,by rw[uh IW],ab ⟨(uh Z8).1,(uh Z8).2,?_⟩⟩
      .rw[uh IW];show(Gv (F.ow.map (oh p.l p.r)) k).length=_;rw[uh HL2];omega
      .rw[hG];exact uh od
     case measure=>have:=uh HLN;omega
end
def I5(p q:Pr):Bool:=decide (p.l<q.l)||(decide (p.l=q.l)&&decide (p.r<q.r))
def prV(p:Pr):Value:=.agg #[.int .i64 (p.k:Int),.int .i64 (p.l:Int),.int .i64 (p.r:Int)]
section
variable {w:World}
theorem CE(p q:Pr):Calls prog 249 #[prV p,prV q] w λe w'=>e=.returned (.bool (I5 p q))/\Below w.heap.size w w':=by
 have HB:Hid (Below w.heap.size w ((w.alloc (.cells #[.int .i64 (p.k:Int),.int .i64 (p.l:Int),.int .i64 (p.r:Int)] 182)).alloc (.cells #[.int .i64 (q.k:Int),.int .i64 (q.l:Int),.int .i64 (q.r:Int)] 182))):=ab (((Below.refl _ _).alloc (zq4 _) _).alloc (by simp) _);unfold prV;obtain⟨b,hb⟩:∃b,b=I5 p q:=⟨_,rfl⟩;rw[<-hb];unfold I5 at hb;obtain⟨pk,pl,pr⟩:=p;obtain⟨qk,ql,qr⟩:=q;simp only at hb ⊢;by_cases h1:pl<ql
 .have HE:Hid (b=true):=ab (by rw[hb];simp[h1]);clear hb;go_enter func249,ntmps249;go_wp2_with fail
  go_ret;exact⟨aB (uh HE).symm,uh HB⟩
 .by_cases h2:pl=ql
  .subst h2;have HE:Hid (b=decide (pr<qr)):=ab (by rw[hb];simp);clear hb h1;go_enter func249,ntmps249;go_wp2_with fail
   go_ret;exact⟨aB (uh HE).symm,uh HB⟩
  .have HE:Hid (b=false):=ab (by rw[hb];simp[h1,h2]);have h3:ql<pl:=(by omega);clear hb h1;go_enter func249,ntmps249;go_wp2_with fail
   go_ret;exact⟨aB (by rw[uh HE];simp;omega),uh HB⟩
theorem As(a b:Nat):Calls prog 265 #[.int .i64 a,.int .i64 b] w λe w'=>e=.returned (.int .i64 (max a b:Nat))/\w'=w:=by
 by_cases h:b<a
 .have HE:Hid (max a b=a):=ab (by omega);go_enter func265,ntmps265;go_wp2_with fail
  go_ret;exact⟨bj (by rw[uh HE]),rfl⟩
 .have HE:Hid (max a b=b):=ab (by omega);go_enter func265,ntmps265;go_wp2_with fail
  go_ret;exact⟨bj (by rw[uh HE]),rfl⟩
end
def qS(m:Nat)(l:List Pr):Nat:=l.foldl (λm p=>max (max m p.l) p.r) m
def tM(f:CF):Nat:=max (max (max (max (max 0 (f.cl.getD 0 0)) (f.cl.getD 1 0)) (f.cl.getD 2 0)) (f.cl.getD 3 0)) (f.cl.getD 4 0)
def a8(f:CF):Nat:=qS (qS (tM f) f.ow) f.ap+1
theorem Bh{m:Nat}{l:List Pr}{k:Nat}(hk:k<l.length):qS m (l.take (k+1))=max (max (qS m (l.take k)) (l.getD k aE).l) (l.getD k aE).r:=by
 rw[iW hk];unfold qS;rw[take_add_one,getElem?_eq_getElem hk,foldl_append];rfl
section
variable {w:World} {A:Nat} {f:CF} {av ov:Value}
theorem sW(h:dT w A f av ov)(ha:f.ap.length<=100000)(ho:f.ow.length<=100000)(hm:a8 f<=100000):Calls prog 258 #[.pointer (some ⟨A,0,none⟩)] w λe w'=>e=.returned (.int .i64 (a8 f:Nat))/\Below w.heap.size w w':=by
 obtain⟨oa,oc,fx,-,-⟩:=aj h.ow;subst fx;obtain⟨aa,ac,jK,-,-⟩:=aj h.ap;subst jK;have x0:=h.cls (i:=0) (by omega);have x1:=h.cls (i:=1) (by omega);have x2:=h.cls (i:=2) (by omega);have x3:=h.cls (i:=3) (by omega);have x4:=h.cls (i:=4) (by omega);unfold fX at x0 x1 x2 x3 x4;obtain⟨y0,e0⟩:∃y,y=f.cl.getD 0 0:=⟨_,rfl⟩;obtain⟨y1,e1⟩:∃y,y=f.cl.getD 1 0:=⟨_,rfl⟩;obtain⟨y2,e2⟩:∃y,y=f.cl.getD 2 0:=⟨_,rfl⟩;obtain⟨y3,e3⟩:∃y,y=f.cl.getD 3 0:=⟨_,rfl⟩;obtain⟨y4,e4⟩:∃y,y=f.cl.getD 4 0:=⟨_,rfl⟩;have HC:Hid (tM f=max (max (max (max (max 0 y0) y1) y2) y3) y4):=ab (by unfold tM;rw[e0,e1,e2,e3,e4]);rw[<-e0]at x0;rw[<-e1]at x1;rw[<-e2]at x2;rw[<-e3]at x3;rw[<-e4]at x4;have j0:=yp (.int .i64 (y0:Int)) (.int .i64 (y1:Int)) (.int .i64 (y2:Int)) (.int .i64 (y3:Int)) (.int .i64 (y4:Int));have j1:=yq (.int .i64 (y0:Int)) (.int .i64 (y1:Int)) (.int .i64 (y2:Int)) (.int .i64 (y3:Int)) (.int .i64 (y4:Int));have j2:=yr (.int .i64 (y0:Int)) (.int .i64 (y1:Int)) (.int .i64 (y2:Int)) (.int .i64 (y3:Int)) (.int .i64 (y4:Int));have j3:=yt (.int .i64 (y0:Int)) (.int .i64 (y1:Int)) (.int .i64 (y2:Int)) (.int .i64 (y3:Int)) (.int .i64 (y4:Int));have j4:=yu (.int .i64 (y0:Int)) (.int .i64 (y1:Int)) (.int .i64 (y2:Int)) (.int .i64 (y3:Int)) (.int .i64 (y4:Int));have c6:=h.c6;have c5:=h.c5;have H:=ab h;have HM:=ab hm;have HG:Hid (∀(W:World) (a b:Nat),Calls prog 265 #[.int .i64 a,.int .i64 b] W λe w'=>e=.returned (.int .i64 (max a b:Nat))/\w'=W):=ab (λW a b=>As a b);clear h e0 e1 e2 e3 e4 hm;go_enter func258,ntmps258;go_wp2_with fail
 go_loop [3,14] (λm i=>∃(k:Nat),k<=5/\i=.int .i64 k/\m=.int .i64 ((([y0,y1,y2,y3,y4].take k).foldl max 0:Nat):Int)) (λ_ i=>5-(intOf i).toNat)
 case atStart=>exact⟨0,zq5 _,rfl,rfl⟩
 case round =>
  obtain⟨k,hk,rfl,rfl⟩:=hrel;obtain⟨m,zF⟩:∃m,m=([y0,y1,y2,y3,y4].take k).foldl max 0:=⟨_,rfl⟩;rw[<-zF];have Jz:=ab zF;clear zF;have th:k=0\/k=1\/k=2\/k=3\/k=4\/k=5:=by omega
  rcases th with rfl|rfl|rfl|rfl|rfl|rfl
  .go_wp2_with fail
   refine(uh HG _ _ _).mono ?_;rintro e w1 ⟨rfl,rfl⟩;go_wp2_with fail
   go_round
   case rel=>exact⟨1,by omega,by go_num,by rw[uh Jz];rfl⟩
   case measure=>simp[intOf]
  .go_wp2_with fail
   refine(uh HG _ _ _).mono ?_;rintro e w1 ⟨rfl,rfl⟩;go_wp2_with fail
   go_round
   case rel=>exact⟨2,by omega,by go_num,by rw[uh Jz];rfl⟩
   case measure=>simp[intOf]
  .go_wp2_with fail
   refine(uh HG _ _ _).mono ?_;rintro e w1 ⟨rfl,rfl⟩;go_wp2_with fail
   go_round
   case rel=>exact⟨3,by omega,by go_num,by rw[uh Jz];rfl⟩
   case measure=>simp[intOf]
  .go_wp2_with fail
   refine(uh HG _ _ _).mono ?_;rintro e w1 ⟨rfl,rfl⟩;go_wp2_with fail
   go_round
   case rel=>exact⟨4,by omega,by go_num,by rw[uh Jz];rfl⟩
   case measure=>simp[intOf]
  .go_wp2_with fail
   refine(uh HG _ _ _).mono ?_;rintro e w1 ⟨rfl,rfl⟩;go_wp2_with fail
   go_round
   case rel=>exact⟨5,by omega,by go_num,by rw[uh Jz];rfl⟩
   case measure=>simp[intOf]
  .have hmc:m=tM f:=(by rw[uh Jz,uh HC];rfl);have GF:=ab (Below.refl w.heap.size w);have cI:Hid (m=qS (tM f) (f.ow.take 0)):=ab (by rw[hmc];rfl);clear Jz hmc j0 j1 j2 j3 j4 x0 x1 x2 x3 x4 HC;go_wp2_with fail
   go_loopw [3,26] (λmv i wx=>∃(k:Nat),k<=f.ow.length/\i=.int .i64 k/\mv=.int .i64 (qS (tM f) (f.ow.take k):Nat)/\Hid (Below w.heap.size w wx)) (λ_ i _=>f.ow.length-(intOf i).toNat)
   case atStart=>exact⟨0,zq5 _,rfl,by rw[<-uh cI],GF⟩
   case round =>
    clear cI GF;obtain⟨k,hk,rfl,rfl,hb⟩:=hrel;obtain⟨m,zF⟩:∃m,m=qS (tM f) (f.ow.take k):=⟨_,rfl⟩;rw[<-zF];have hF:=(uh H).below (uh hb);by_cases ar:k<f.ow.length
    .have hd:decide ((k:Int)<(f.ow.length:Int))=true:=(by simp;omega);obtain⟨g,cap,c9,-,-⟩:=aD hF.ow ar;simp only[Value.slice.injEq,true_and]at c9;obtain⟨rfl,rfl⟩:=c9;obtain⟨x0,x1,x2⟩:=aA hF.ow ar;have aS:=Bh (m:=tM f) ar;obtain⟨p,hp⟩:∃p,p=f.ow.getD k aE:=⟨_,rfl⟩;rw[<-hp]at x0 x1 x2 aS;rw[<-zF]at aS;have cI:=ab aS;have eU:Hid (Below w.heap.size w (wr.alloc (.cells #[.int .i64 (p.k:Int),.int .i64 (p.l:Int),.int .i64 (p.r:Int)] 182))):=ab ((uh hb).alloc (uh hb).size _);have i1:(0:Int)<=(k:Int):=(by omega);have i2:(k:Int)<(f.ow.length:Int):=(by omega);clear hF hp aS zF;go_wp2_with fail
     refine(uh HG _ _ _).mono ?_;rintro e w1 ⟨rfl,rfl⟩;go_wp2_with fail
     refine(uh HG _ _ _).mono ?_;rintro e w1 ⟨rfl,rfl⟩;go_wp2_with fail
     go_roundw
     case rel=>exact⟨k+1,by omega,by go_num,by rw[uh cI,Nat.max_assoc],eU⟩
     case measure=>simp[intOf];omega
    .have hd:decide ((k:Int)<(f.ow.length:Int))=false:=(by simp;omega);have jl:m=qS (qS (tM f) f.ow) (f.ap.take 0):=(by rw[zF,take_of_length_le (by omega)];rfl);have SR:=ab jl;have c5':=hF.c5;clear hF zF jl;go_wp2_with fail
     go_loopw [3,44] (λmv i wx=>∃(k:Nat),k<=f.ap.length/\i=.int .i64 k/\mv=.int .i64 (qS (qS (tM f) f.ow) (f.ap.take k):Nat)/\Hid (Below w.heap.size w wx)) (λ_ i _=>f.ap.length-(intOf i).toNat)
     case atStart=>exact⟨0,zq5 _,rfl,by rw[<-uh SR],hb⟩
     case round =>
      clear SR hb;obtain⟨k2,ll,rfl,rfl,hb⟩:=hrel;obtain⟨m2,zF⟩:∃m,m=qS (qS (tM f) f.ow) (f.ap.take k2):=⟨_,rfl⟩;rw[<-zF];have hF:=(uh H).below (uh hb);by_cases bS:k2<f.ap.length
      .have jk:decide ((k2:Int)<(f.ap.length:Int))=true:=(by simp;omega);obtain⟨g,cap,c9,-,-⟩:=aD hF.ap bS;simp only[Value.slice.injEq,true_and]at c9;obtain⟨rfl,rfl⟩:=c9;obtain⟨x0,x1,x2⟩:=aA hF.ap bS;have aS:=Bh (m:=qS (tM f) f.ow) bS;obtain⟨p,hp⟩:∃p,p=f.ap.getD k2 aE:=⟨_,rfl⟩;rw[<-hp]at x0 x1 x2 aS;rw[<-zF]at aS;have cI:=ab aS;have eU:Hid (Below w.heap.size w (wr.alloc (.cells #[.int .i64 (p.k:Int),.int .i64 (p.l:Int),.int .i64 (p.r:Int)] 182))):=ab ((uh hb).alloc (uh hb).size _);have i1:(0:Int)<=(k2:Int):=(by omega);have i2:(k2:Int)<(f.ap.length:Int):=(by omega);clear hF hp aS zF;go_wp2_with fail
       refine(uh HG _ _ _).mono ?_;rintro e w1 ⟨rfl,rfl⟩;go_wp2_with fail
       refine(uh HG _ _ _).mono ?_;rintro e w1 ⟨rfl,rfl⟩;go_wp2_with fail
       go_roundw
       case rel=>exact⟨k2+1,by omega,by go_num,by rw[uh cI,Nat.max_assoc],eU⟩
       case measure=>simp[intOf];omega
      .have jk:decide ((k2:Int)<(f.ap.length:Int))=false:=(by simp;omega);have hE:m2+1=a8 f:=(by unfold a8;rw[zF,take_of_length_le (by omega)]);have et:m2<=100000:=(by have:=uh HM;omega);have HE:=ab hE;clear hF zF hE;go_wp2_with fail
       go_ret;exact⟨bj (by rw[<-uh HE];go_num),uh hb⟩
end
def kg(f:CF):List Nat:=[f.cl.getD 0 0,f.cl.getD 1 0,f.cl.getD 2 0,f.cl.getD 3 0,f.cl.getD 4 0]
def dO(f:CF):List Nat:=kg f++f.ow.flatMap (λp=>[p.l,p.r])
def xR(f:CF)(p:Pr):Bool:=decide (p.l∈dO f)&&decide (p.r∈dO f)&&!sM f p.l p.r
def EH(f:CF):CF:={ f with ap:=f.ap.filter (xR f) }
def ii(ms:List Nat)(c:Nat):List Nat:=if c∈ms then ms else ms++[c]
def Ar(ms:List Nat)(c:Nat):Nat:=if c∈ms then ms.idxOf c+1 else 0
def xj(f:CF)(k:Nat)(ms:List Nat):List Nat :=
 match er f.ow (ms.getD k 0) with
 |some i=>ii ms (f.ow.getD i aE).r
 |none=>ms
def mX(f:CF):Nat->Nat->List Nat->List Nat
 |0,_,ms=>ms
 |n+1,k,ms=>if k<ms.length then mX f n (k+1) (xj f k ms) else ms
def wY(f:CF)(ms:List Nat)(p:Pr):List Nat:=mX f 25 ms.length (ii ms p.l)
def t0(f:CF):List Nat:=f.ow.foldl (wY f) (mX f 25 0 ((kg f).foldl ii []))
def wO(ms:List Nat)(p:Pr):Pr:=⟨p.k,ms.idxOf p.l,ms.idxOf p.r⟩
def Jo(f:CF):CF:=⟨(kg f).map (λc=>(t0 f).idxOf c),f.ap.map (wO (t0 f)),f.ow.map (wO (t0 f))⟩
def dW(ms:List Nat):Prop:=ms.Nodup/\∀c∈ms,c<24
theorem dW.len{ms:List Nat}(h:dW ms):ms.length<=24:=by
 have:=List.Nodup.length_le_of_subset h.1 (l₂:=range 24) (λc hc=>by simpa using h.2 c hc);simpa using this
theorem dW.nil:dW []:=⟨nodup_nil,λc hc=>by simp at hc⟩
theorem dW.me{ms:List Nat}(h:dW ms){c:Nat}(hc:c<24):dW (ii ms c):=by
 unfold ii;split
 .exact h
 .rename_i hn;refine⟨?_,λd hd=>?_⟩
  .rw[nodup_append];exact⟨h.1,by simp,λa ha b hb e=>by simp only[mem_singleton]at hb;subst hb;subst e;exact hn ha⟩
  .rw[mem_append,mem_singleton]at hd;rcases hd with hd|rfl
   .exact h.2 d hd
   .exact hc
theorem rV{ms:List Nat}{c d:Nat}(h:d∈ms):d∈ii ms c:=by unfold ii;split;exact h;exact mem_append_left _ h
theorem yL(ms:List Nat)(c:Nat):c∈ii ms c:=by unfold ii;split;assumption;simp
theorem Ru(ms:List Nat)(c:Nat):ms.length<=(ii ms c).length:=by unfold ii;split <;> simp
theorem FM{ms:List Nat}{c k:Nat}(hk:k<ms.length):(ii ms c).getD k 0=ms.getD k 0:=by
 unfold ii;split
 .rfl
 .simp[getD_eq_getElem?_getD,getElem?_append_left hk]
theorem gg:∀{l:List Pr} {c i:Nat},er l c=some i->i<l.length/\(l.getD i aE).l=c
 |[],_,_,h=>by simp[er]at h
 |p::r,c,i,h=>by
  unfold er at h;split at h
  .injection h with h;subst h;rename_i e;exact⟨by simp,by simpa using e⟩
  .obtain⟨j,hj,rfl⟩:=Option.map_eq_some_iff.1 h;obtain⟨h1,h2⟩:=gg hj;exact⟨by simp only[length_cons];omega,by rw[getD_cons_succ];exact h2⟩
theorem xJ{l:List Pr}{c i:Nat}(h:er l c=some i):l.getD i aE∈l:=by
 obtain⟨h1,-⟩:=gg h;rw[getD_eq_getElem?_getD,getElem?_eq_getElem h1];exact getElem_mem h1
def Eh(l:List Pr):Prop:=(l.map (·.l)).Nodup
theorem Vd{l:List Pr}{p:Pr}(hN:Eh l)(hp:p∈l):∃i,er l p.l=some i/\l.getD i aE=p:=by
 induction l with
 |nil=>simp at hp
 |cons q r ih =>
  unfold Eh at hN;rw[map_cons,nodup_cons]at hN;rcases mem_cons.1 hp with rfl|hp
  .exact⟨0,by simp[er],by simp⟩
  .obtain⟨i,h1,h2⟩:=ih hN.2 hp;have aY:¬ (q.l=p.l):=λe=>hN.1 (by rw[e];exact mem_map_of_mem (f:=(·.l)) hp);exact⟨i+1,by unfold er;rw[if_neg aY,h1];rfl,by simpa using h2⟩
section
variable {f:CF}
theorem NV(hO:∀p∈f.ow,p.l<24/\p.r<24){k:Nat}{ms:List Nat}(h:dW ms):dW (xj f k ms):=by
 unfold xj;split
 .rename_i i hi;exact h.me (hO _ (xJ hi)).2
 .exact h
theorem Sj{k:Nat}{ms:List Nat}{d:Nat}(h:d∈ms):d∈xj f k ms:=by unfold xj;split;exact rV h;exact h
theorem Gq(f:CF)(k:Nat)(ms:List Nat):ms.length<=(xj f k ms).length:=by unfold xj;split;exact Ru _ _;exact zq4 _
theorem Gp{k:Nat}{ms:List Nat}{j:Nat}(h:j<ms.length):(xj f k ms).getD j 0=ms.getD j 0:=by unfold xj;split;exact FM h;rfl
theorem DT(hO:∀p∈f.ow,p.l<24/\p.r<24):∀(n k:Nat) {ms:List Nat},dW ms->dW (mX f n k ms)
 |0,_,_,h=>h
 |n+1,k,ms,h=>by
  unfold mX;split
  .exact DT hO n (k+1) (NV hO h)
  .exact h
theorem mI:∀(n k:Nat) {ms:List Nat} {d:Nat},d∈ms->d∈mX f n k ms
 |0,_,_,_,h=>h
 |n+1,k,ms,d,h=>by
  unfold mX;split
  .exact mI n (k+1) (Sj h)
  .exact h
theorem ze:∀(n k:Nat) {ms:List Nat} {j:Nat},j<ms.length->j<(mX f n k ms).length/\(mX f n k ms).getD j 0=ms.getD j 0
 |0,_,_,_,h=>⟨h,rfl⟩
 |n+1,k,ms,j,h=>by
  unfold mX;split
  .obtain⟨h1,h2⟩:=ze n (k+1) (ms:=xj f k ms) (j:=j) (zq6 h (Gq f k ms));exact⟨h1,h2.trans (Gp h)⟩
  .exact⟨h,rfl⟩
theorem Gn(hO:∀p∈f.ow,p.l<24/\p.r<24):∀(n k:Nat) {ms:List Nat},dW ms->24<n+k->∀j,k<=j->j<(mX f n k ms).length->∀i,er f.ow ((mX f n k ms).getD j 0)=some i->(f.ow.getD i aE).r∈mX f n k ms
 |0,k,ms,h,hk,j,hj,hl,i,hi=>by
  have:=h.len;unfold mX at hl;omega
 |n+1,k,ms,h,hk,j,hj,hl,i,hi=>by
  unfold mX at hl hi ⊢;split at hl
  .rename_i ar;rw[if_pos ar]at hi ⊢;by_cases e:k=j
   .subst e;obtain⟨-,h2⟩:=ze (f:=f) n (k+1) (ms:=xj f k ms) (j:=k) (zq6 ar (Gq f k ms));rw[h2,Gp ar]at hi;refine mI n (k+1) ?_;unfold xj;rw[hi];exact yL _ _
   .exact Gn hO n (k+1) (NV hO h) (by omega) j (by omega) hl i hi
  .rename_i ar;omega
def YP(f:CF)(ms:List Nat):Prop:=∀c∈ms,∀i,er f.ow c=some i->(f.ow.getD i aE).r∈ms
theorem Ka(hO:∀p∈f.ow,p.l<24/\p.r<24){n k:Nat}{ms:List Nat}(h:dW ms)(hk:24<n+k)(hc:∀j,j<k->j<ms.length->∀i,er f.ow (ms.getD j 0)=some i->(f.ow.getD i aE).r∈ms):YP f (mX f n k ms):=by
 intro c hc' i hi;obtain⟨j,hj,rfl⟩:=mem_iff_getElem.1 hc';have e:(mX f n k ms).getD j 0=(mX f n k ms)[j]:=by rw[getD_eq_getElem?_getD,getElem?_eq_getElem hj];rfl
 by_cases ar:k<=j
 .exact Gn hO n k h hk j ar hj i (by rw[e];exact hi)
 .by_cases qM:j<ms.length
  .obtain⟨-,h2⟩:=ze (f:=f) n k qM;exact mI n k (hc j (by omega) qM i (by rw[<-h2,e];exact hi))
  .exfalso;cases n with
   |zero=>unfold mX at hj;omega
   |succ n =>
    unfold mX at hj;rw[if_neg (by omega)]at hj;omega
theorem Yg(hO:∀p∈f.ow,p.l<24/\p.r<24){ms:List Nat}{p:Pr}(hp:p∈f.ow)(h:dW ms)(hc:YP f ms):dW (wY f ms p)/\YP f (wY f ms p)/\p.l∈wY f ms p/\∀d∈ms,d∈wY f ms p:=by
 have h1:=h.me (hO p hp).1;refine⟨DT hO _ _ h1,Ka hO h1 (by omega) (λj hj _ i hi=>?_),mI _ _ (yL _ _),λd hd=>mI _ _ (rV hd)⟩;rw[FM hj]at hi;refine rV (hc _ ?_ i hi);rw[getD_eq_getElem?_getD,getElem?_eq_getElem hj];exact getElem_mem hj
theorem NK(hO:∀p∈f.ow,p.l<24/\p.r<24):∀(l:List Pr) {ms:List Nat},(∀p∈l,p∈f.ow)->dW ms->YP f ms->dW (l.foldl (wY f) ms)/\YP f (l.foldl (wY f) ms)/\(∀p∈l,p.l∈l.foldl (wY f) ms)/\∀d∈ms,d∈l.foldl (wY f) ms
 |[],ms,_,h,hc=>⟨h,hc,λp hp=>by simp at hp,λd hd=>hd⟩
 |p::r,ms,hl,h,hc=>by
  obtain⟨h1,h2,h3,h4⟩:=Yg hO (hl p (by simp)) h hc;obtain⟨g1,g2,g3,g4⟩:=NK hO r (λq hq=>hl q (by simp[hq])) h1 h2;rw[foldl_cons];exact⟨g1,g2,λq hq=>by
   rcases mem_cons.1 hq with rfl|hq
   .exact g4 _ h3
   .exact g3 q hq,λd hd=>g4 d (h4 d hd)⟩
theorem Dv:∀(l:List Nat) {ms:List Nat},(∀c∈l,c<24)->dW ms->dW (l.foldl ii ms)/\(∀c∈l,c∈l.foldl ii ms)/\∀d∈ms,d∈l.foldl ii ms
 |[],ms,_,h=>⟨h,λc hc=>by simp at hc,λd hd=>hd⟩
 |c::r,ms,hl,h=>by
  obtain⟨g1,g2,g3⟩:=Dv r (λd hd=>hl d (by simp[hd])) (h.me (hl c (by simp)));rw[foldl_cons];exact⟨g1,λd hd=>by
   rcases mem_cons.1 hd with rfl|hd
   .exact g3 _ (yL _ _)
   .exact g2 d hd,λd hd=>g3 d (rV hd)⟩
theorem pD(hO:∀p∈f.ow,p.l<24/\p.r<24)(hC:∀c∈kg f,c<24):dW (t0 f)/\YP f (t0 f)/\(∀c∈kg f,c∈t0 f)/\∀p∈f.ow,p.l∈t0 f:=by
 obtain⟨h1,h2,-⟩:=Dv (kg f) hC dW.nil;have h3:=Ka hO (n:=25) (k:=0) h1 (by omega) (λj hj=>by omega);obtain⟨g1,g2,g3,g4⟩:=NK hO f.ow (λp hp=>hp) (DT hO 25 0 h1) h3;exact⟨g1,g2,λc hc=>g4 c (mI _ _ (h2 c hc)),g3⟩
theorem ua(hO:∀p∈f.ow,p.l<24/\p.r<24)(hC:∀c∈kg f,c<24)(hN:Eh f.ow):∀c∈dO f,c∈t0 f:=by
 obtain⟨-,g2,g3,g4⟩:=pD hO hC;intro c hc;unfold dO at hc;rw[mem_append,mem_flatMap]at hc;rcases hc with hc|⟨p,hp,hc⟩
 .exact g3 c hc
 .simp only[mem_cons,not_mem_nil,or_false]at hc;rcases hc with rfl|rfl
  .exact g4 p hp
  .obtain⟨i,h1,h2⟩:=Vd hN hp;have:=g2 _ (g4 p hp) i h1;rwa [h2]at this
end
def zm(p:Pr)(l:List Pr):Nat->Nat
 |0=>0
 |k+1=>if I5 p (l.getD k aE)=true then zm p l k else k+1
def eP(l:List Pr)(p:Pr):List Pr:=l.take (zm p l l.length)++p::l.drop (zm p l l.length)
def Bu(p q:Pr):Bool:=decide (p.k=q.k)&&decide (p.l=q.l)&&decide (p.r=q.r)
def kw(a:List Pr)(p:Pr):List Pr:=if a=[]\/Bu p (a.getD (a.length-1) aE)=false then a++[p] else a
def mY(l:List Pr):List Pr:=(l.foldl eP []).foldl kw []
theorem yW{p q:Pr}:Bu p q=true↔p=q:=by
 unfold Bu;cases p;cases q
 simp[and_assoc]
theorem DY(p:Pr)(l:List Pr):∀k,zm p l k<=k
 |0=>zq4 _
 |k+1=>by
  unfold zm;split
  .exact Nat.le_succ_of_le (DY p l k)
  .exact zq4 _
theorem Ou(p:Pr)(l:List Pr):∀k j,zm p l k<=j->j<k->I5 p (l.getD j aE)=true
 |0,j,_,h=>by omega
 |k+1,j,h1,h2=>by
  unfold zm at h1;split at h1
  .rename_i h;by_cases e:j=k
   .rw[e];exact h
   .exact Ou p l k j h1 (by omega)
  .omega
theorem Ot(p:Pr)(l:List Pr):∀k,0<zm p l k->I5 p (l.getD (zm p l k-1) aE)=false
 |0,h=>by simp[zm]at h
 |k+1,h=>by
  unfold zm at h ⊢;split
  .rename_i hb;rw[if_pos hb]at h;exact Ot p l k h
  .rename_i hb;simpa using hb
def zJ(p q:Pr):Prop:=p.l<q.l\/(p.l=q.l/\p.r<=q.r)
def Cf(p q:Pr):Prop:=p.l<q.l\/(p.l=q.l/\p.r<q.r)
theorem Et{p q:Pr}:I5 p q=true↔Cf p q:=by simp[I5,Cf]
theorem PM{p q:Pr}:I5 p q=false↔zJ q p:=by
 rw[<-Bool.not_eq_true,Et];unfold Cf zJ;omega
theorem wJ{p q r:Pr}(h1:zJ p q)(h2:zJ q r):zJ p r:=by unfold zJ at *;omega
theorem adu{p q:Pr}(h:Cf p q):zJ p q:=by unfold Cf zJ at *;omega
theorem Ix{p q r:Pr}(h1:Cf p q)(h2:Cf q r):Cf p r:=by unfold Cf at *;omega
theorem dl{l:List Pr}{j:Nat}(h:j<l.length):l.getD j aE∈l:=by
 rw[getD_eq_getElem?_getD,getElem?_eq_getElem h];exact getElem_mem h
theorem gx{l:List Pr}{j:Nat}(h:j<l.length):l.getD j aE=l[j]:=by
 rw[getD_eq_getElem?_getD,getElem?_eq_getElem h];rfl
theorem Mx{l:List Pr}{p q:Pr}:q∈eP l p↔q=p\/q∈l:=by
 unfold eP;rw[mem_append,mem_cons];constructor
 .rintro(h|h|h)
  .exact zq1 (mem_of_mem_take h)
  .exact zq0 h
  .exact zq1 (mem_of_mem_drop h)
 .rintro(h|h)
  .exact zq1 (zq0 h)
  .rw[<-take_append_drop (zm p l l.length) l,mem_append]at h;rcases h with h|h
   .exact zq0 h
   .exact zq1 (zq1 h)
theorem Mw(l:List Pr)(p:Pr):(eP l p).length=l.length+1:=by
 unfold eP;have:=DY p l l.length;simp only[length_append,length_take,length_cons,length_drop];omega
theorem My{l:List Pr}{p:Pr}(h:l.Pairwise zJ):(eP l p).Pairwise zJ:=by
 have lm:=DY p l l.length;have ar:=Ou p l l.length;have cq:=Ot p l l.length;unfold eP;generalize hk:zm p l l.length=k at *;have hd:∀q∈l.drop k,zJ p q:=by
  intro q hq;obtain⟨j,hj,rfl⟩:=mem_iff_getElem.1 hq;rw[length_drop]at hj;rw[getElem_drop,<-gx (by omega)];exact adu (Et.1 (ar (k+j) (by omega) (by omega)))
 have ht:∀q∈l.take k,zJ q p:=by
  intro q hq;obtain⟨j,hj,rfl⟩:=mem_iff_getElem.1 hq;rw[length_take]at hj;have h1:=PM.1 (cq (by omega));rw[getElem_take];by_cases e:j=k-1
  .rw[gx (by omega)]at h1;subst e;exact h1
  .refine wJ ?_ h1;rw[gx (by omega)];exact pairwise_iff_getElem.1 h j (k-1) (by omega) (by omega) (by omega)
 rw[pairwise_append,pairwise_cons];refine⟨h.sublist (take_sublist _ _),⟨hd,h.sublist (drop_sublist _ _)⟩,?_⟩;intro a ha b hb;rcases mem_cons.1 hb with rfl|hb
 .exact ht a ha
 .exact wJ (ht a ha) (hd b hb)
theorem oP:∀(l:List Pr) {a:List Pr},a.Pairwise zJ->(l.foldl eP a).Pairwise zJ/\(∀q,q∈l.foldl eP a↔q∈a\/q∈l)/\(l.foldl eP a).length=a.length+l.length
 |[],a,h=>⟨h,λq=>by simp,by simp⟩
 |p::r,a,h=>by
  obtain⟨h1,h2,h3⟩:=oP r (My (p:=p) h);rw[foldl_cons];refine⟨h1,λq=>?_,?_⟩
  .rw[h2,Mx,mem_cons];constructor
   .rintro((h|h)|h)
    .exact zq1 (zq0 h)
    .exact zq0 h
    .exact zq1 (zq1 h)
   .rintro(h|h|h)
    .exact zq0 (zq1 h)
    .exact zq0 (zq0 h)
    .exact zq1 h
  .rw[h3,Mw,length_cons];omega
theorem Km{a:List Pr}{p:Pr}:p∈kw a p:=by
 unfold kw;split
 .simp
 .rename_i h;rw[not_or]at h;have h1:Bu p (a.getD (a.length-1) aE)=true:=by simpa using h.2
  rw[yW]at h1;rw[h1];exact dl (by have:=length_pos_iff.2 h.1;omega)
theorem PX{a:List Pr}{p q:Pr}(h:q∈a):q∈kw a p:=by unfold kw;split;exact mem_append_left _ h;exact h
theorem EC:∀(l:List Pr) {a:List Pr} {q:Pr},q∈l.foldl kw a↔q∈a\/q∈l
 |[],a,q=>by simp
 |p::r,a,q=>by
  rw[foldl_cons,EC r,mem_cons];constructor
  .rintro(h|h)
   .unfold kw at h;split at h
    .rw[mem_append,mem_singleton]at h;rcases h with h|h
     .exact zq0 h
     .exact zq1 (zq0 h)
    .exact zq0 h
   .exact zq1 (zq1 h)
  .rintro(h|rfl|h)
   .exact zq0 (PX h)
   .exact zq0 Km
   .exact zq1 h
theorem mK{l:List Pr}{q:Pr}:q∈mY l↔q∈l:=by
 unfold mY;rw[EC,(oP l (a:=[]) List.Pairwise.nil).2.1];simp
theorem xN{K:Nat}:∀(l:List Pr) {a:List Pr},a.Pairwise Cf->l.Pairwise zJ->(∀p∈a,∀q∈l,zJ p q)->(∀p∈a,p.k=K)->(∀p∈l,p.k=K)->(l.foldl kw a).Pairwise Cf
 |[],a,h,_,_,_,_=>h
 |p::r,a,h,hl,nM,ha,hk=>by
  rw[foldl_cons];have h1:=pairwise_cons.1 hl;by_cases hn:a=[]\/Bu p (a.getD (a.length-1) aE)=false
  .have e:kw a p=a++[p]:=(by unfold kw;rw[if_pos hn]);rw[e];refine xN (K:=K) r ?_ h1.2 ?_ ?_ (λq hq=>hk q (by simp[hq]))
   .rw[pairwise_append];refine⟨h,by simp,λx hx y hy=>?_⟩;rw[mem_singleton]at hy;subst hy;have Cc:=nM x hx y (by simp);rcases hn with hn|hn
    .subst hn;simp at hx
    .obtain⟨j,hj,rfl⟩:=mem_iff_getElem.1 hx;have hz:zJ (a.getD (a.length-1) aE) y:=nM _ (dl (by omega)) y (by simp);have hzl:Cf (a.getD (a.length-1) aE) y:=by
      have LY:y.k=K:=hk y (by simp);have ll:=ha _ (dl (l:=a) (j:=a.length-1) (by omega));generalize a.getD (a.length-1) aE=z at hn hz ll;have aY:y≠z:=λe=>by rw[yW.2 e]at hn;cases hn
      unfold zJ at hz;unfold Cf;rcases hz with h|⟨h,h'⟩
      .exact zq0 h
      .right;refine⟨h,?_⟩;by_cases hr:z.r=y.r
       .exfalso;apply aY;cases y;cases z
        simp_all
       .omega
     by_cases e:j=a.length-1
     .subst e;rwa [gx (by omega)]at hzl
     .refine Ix ?_ hzl;rw[gx (by omega)];exact pairwise_iff_getElem.1 h j (a.length-1) hj (by omega) (by omega)
   .intro x hx y hy;rw[mem_append,mem_singleton]at hx;rcases hx with hx|rfl
    .exact nM x hx y (by simp[hy])
    .exact h1.1 y hy
   .intro x hx;rw[mem_append,mem_singleton]at hx;rcases hx with hx|rfl
    .exact ha x hx
    .exact hk x (by simp)
  .have e:kw a p=a:=(by unfold kw;rw[if_neg hn]);rw[e];exact xN (K:=K) r h h1.2 (λx hx y hy=>nM x hx y (by simp[hy])) ha (λq hq=>hk q (by simp[hq]))
theorem Sk{K:Nat}{l:List Pr}(hk:∀p∈l,p.k=K):(mY l).Pairwise Cf:=by
 obtain⟨h1,h2,-⟩:=oP l (a:=[]) List.Pairwise.nil;refine xN (K:=K) _ List.Pairwise.nil h1 (λp hp=>by simp at hp) (λp hp=>by simp at hp) (λp hp=>hk p ?_);have:=(h2 p).1 hp;simpa using this
theorem Kj:∀(l:List Pr) {a:List Pr},Eh (a++l)->l.foldl kw a=a++l
 |[],a,_=>by simp
 |p::r,a,h=>by
  have e:kw a p=a++[p]:=by
   unfold kw;rw[if_pos];by_cases ha:a=[]
   .exact zq0 ha
   .right;cases hx:Bu p (a.getD (a.length-1) aE) with
    |false=>rfl
    |true =>
     exfalso;rw[yW]at hx;have hm:=dl (l:=a) (j:=a.length-1) (by have:=length_pos_iff.2 ha;omega);rw[<-hx]at hm;unfold Eh at h;rw[map_append,nodup_append]at h;exact h.2.2 p.l (mem_map_of_mem (f:=(·.l)) hm) p.l (by simp) rfl
  rw[foldl_cons,e,Kj r (by rw[append_assoc];exact h),append_assoc];rfl
theorem Ir(l:List Pr)(p:Pr):(eP l p).Perm (p::l):=by
 unfold eP;refine perm_middle.trans ?_;rw[take_append_drop]
theorem wG:∀(l:List Pr) {a:List Pr},(l.foldl eP a).Perm (a++l)
 |[],a=>by simp
 |p::r,a=>by
  rw[foldl_cons];refine(wG r).trans ?_;refine((Ir a p).append_right r).trans ?_;exact(perm_middle (l₁:=a) (l₂:=r) (a:=p)).symm
theorem NY{l:List Pr}(h:Eh l):(mY l).Perm l:=by
 unfold mY;have h1:=wG l (a:=[]);rw[Kj _ (by unfold Eh at h ⊢;rw[nil_append];exact((h1.map (·.l)).nodup_iff).2 (by simpa using h)),nil_append];simpa using h1
theorem Sl{l:List Pr}(h:l.Pairwise Cf)(hb:∀p∈l,p.l<24/\p.r<24):l.length<=576:=by
 have h1:(l.map (λp=>p.l*24+p.r)).Nodup:=by
  unfold List.Nodup;rw[pairwise_map];refine List.Pairwise.imp_of_mem ?_ h;intro a b ha uI uH e;have:=hb a ha;have:=hb b uI;unfold Cf at uH;omega
 have:=List.Nodup.length_le_of_subset h1 (l₂:=range 576) (λc hc=>by
  obtain⟨p,hp,rfl⟩:=mem_map.1 hc;have:=hb p hp;rw[mem_range];omega)
 simpa using this
def kj(p:Pr):Pr:=if p.r<p.l then ⟨p.k,p.r,p.l⟩ else p
def orF(f:CF):CF:=⟨f.cl,mY (f.ap.map kj),mY f.ow⟩
def bR(f:CF):CF:=orF (Jo (EH f))
structure au(f:CF):Prop where
 c5:f.cl.length=5
 cl:∀c∈kg f,c<24
 ow:∀p∈f.ow,p.l<24/\p.r<24
 ap:∀p∈f.ap,p.l<24/\p.r<24
 lf:Eh f.ow
 kd:∀p∈f.ap,p.k=2
theorem au.owLen{f:CF}(h:au f):f.ow.length<=24:=by
 have h0:dW (f.ow.map (·.l)):=⟨h.lf,λc hc=>by obtain⟨p,hp,rfl⟩:=mem_map.1 hc;exact(h.ow p hp).1⟩;simpa using h0.len
theorem Yf(f:CF):t0 (EH f)=t0 f:=by
 have e:∀k ms,xj (EH f) k ms=xj f k ms:=λk ms=>rfl;have e2:∀n k ms,mX (EH f) n k ms=mX f n k ms:=by
  intro n;induction n with
  |zero=>intro k ms;rfl
  |succ n ih=>intro k ms;unfold mX;rw[e,ih]
 have e3:wY (EH f)=wY f:=by funext ms p;unfold wY;rw[e2]
 unfold t0;rw[e2,e3];rfl
theorem au.fg{f:CF}(h:au f):au (EH f):=⟨h.c5,h.cl,h.ow,λp hp=>h.ap p ((mem_filter.1 hp).1),h.lf,λp hp=>h.kd p ((mem_filter.1 hp).1)⟩
theorem rK{f:CF}{p:Pr}(hp:p∈(EH f).ap):p.l∈dO (EH f)/\p.r∈dO (EH f):=by
 have:=(mem_filter.1 hp).2;unfold xR at this;simp only[Bool.and_eq_true,decide_eq_true_eq]at this;exact this.1
theorem lP{ms:List Nat}(h:dW ms){c:Nat}(hc:c∈ms):ms.idxOf c<24:=zq6 (idxOf_lt_length_iff.2 hc) h.len
theorem Q1{ms:List Nat}{c d:Nat}(hc:c∈ms)(hd:d∈ms)(e:ms.idxOf c=ms.idxOf d):c=d:=by
 have h1:=getElem_idxOf (idxOf_lt_length_iff.2 hc);have h2:=getElem_idxOf (idxOf_lt_length_iff.2 hd);rw[<-h1,<-h2];simp only[e]
theorem Ez{f:CF}(g:Nat->Nat)(ap ow:List Pr):kg ⟨(kg f).map g,ap,ow⟩=(kg f).map g:=rfl
theorem au.rn{f:CF}(h:au f)(hl:∀p∈f.ap,p.l∈dO f/\p.r∈dO f):au (Jo f):=by
 have hM:=(pD h.ow h.cl).1;have hL:=ua h.ow h.cl h.lf;refine⟨rfl,?_,?_,?_,?_,?_⟩
 .intro c hc;unfold Jo at hc;rw[Ez]at hc;obtain⟨d,hd,rfl⟩:=mem_map.1 hc;exact lP hM (hL d (mem_append_left _ hd))
 .intro p hp;obtain⟨q,hq,rfl⟩:=mem_map.1 hp;have ZC:q.l∈dO f:=mem_append_right _ (mem_flatMap.2 ⟨q,hq,by simp⟩);have hq2:q.r∈dO f:=mem_append_right _ (mem_flatMap.2 ⟨q,hq,by simp⟩);exact⟨lP hM (hL _ ZC),lP hM (hL _ hq2)⟩
 .intro p hp;obtain⟨q,hq,rfl⟩:=mem_map.1 hp;exact⟨lP hM (hL _ (hl q hq).1),lP hM (hL _ (hl q hq).2)⟩
 .have h2:=h.lf;unfold Eh Jo at *;simp only[map_map];have e:((λx:Pr=>x.l) ∘ wO (t0 f))=(λc=>(t0 f).idxOf c) ∘ (λx:Pr=>x.l):=rfl;rw[e,<-map_map];unfold List.Nodup at h2 ⊢;rw[pairwise_map];refine List.Pairwise.imp_of_mem ?_ h2;intro a b ha hb uH e2;obtain⟨p,hp,rfl⟩:=mem_map.1 ha;obtain⟨q,hq,rfl⟩:=mem_map.1 hb;exact uH (Q1 (hL _ (mem_append_right _ (mem_flatMap.2 ⟨p,hp,by simp⟩))) (hL _ (mem_append_right _ (mem_flatMap.2 ⟨q,hq,by simp⟩))) e2)
 .intro p hp;obtain⟨q,hq,rfl⟩:=mem_map.1 hp;exact h.kd q hq
theorem Uh(p:Pr):(kj p).k=p.k:=by unfold kj;split <;> rfl
theorem Yy{p:Pr}(h:p.l<24/\p.r<24):(kj p).l<24/\(kj p).r<24:=by unfold kj;split;exact⟨h.2,h.1⟩;exact h
theorem au.or{f:CF}(h:au f):au (orF f):=by
 refine⟨h.c5,h.cl,λp hp=>h.ow p (mK.1 hp),?_,?_,?_⟩
 .intro p hp;obtain⟨q,hq,rfl⟩:=mem_map.1 (mK.1 hp);exact Yy (h.ap q hq)
 .have:=(NY h.lf).map (·.l);exact this.nodup_iff.2 h.lf
 .intro p hp;obtain⟨q,hq,rfl⟩:=mem_map.1 (mK.1 hp);rw[Uh];exact h.kd q hq
theorem au.td{f:CF}(h:au f):au (bR f):=(h.fg.rn (λ_ hp=>rK hp)).or
theorem RI{f:CF}(h:au f):(orF f).ap.length<=576:=by
 refine Sl (Sk (K:=2) ?_) (h.or).ap;intro p hp;obtain⟨q,hq,rfl⟩:=mem_map.1 hp;rw[Uh];exact h.kd q hq
theorem St{f:CF}(h:au f):(bR f).ap.length<=576:=RI (h.fg.rn (λ_ hp=>rK hp))
def qx(s:List Nat)(p:Pr):List Nat:=if p.l∈s/\p.r ∉ s then s++[p.r] else s
def vG(f:CF)(s:List Nat):List Nat:=f.ow.foldl qx s
def X4(f:CF):Nat->List Nat->List Nat
 |0,s=>s
 |n+1,s=>if (vG f s).length=s.length then s else X4 f n (vG f s)
def Uf(f:CF):List Nat:=[f.cl.getD 1 0,f.cl.getD 2 0,f.cl.getD 3 0,f.cl.getD 4 0].foldl ii []
def nX(f:CF):List Nat:=X4 f 25 (Uf f)
def Cj(f:CF):List Bool:=(range 24).map (λc=>decide (c∈nX f))
theorem X5{s:List Nat}{p:Pr}(h:dW s)(hp:p.r<24):dW (qx s p):=by
 unfold qx;split
 .rename_i hc;have:=h.me hp;unfold ii at this;rwa [if_neg hc.2]at this
 .exact h
theorem Gj(s:List Nat)(p:Pr):s.length<=(qx s p).length:=by unfold qx;split <;> simp
theorem NA:∀(l:List Pr) {s:List Nat},dW s->(∀p∈l,p.r<24)->dW (l.foldl qx s)/\s.length<=(l.foldl qx s).length
 |[],s,h,_=>⟨h,zq4 _⟩
 |p::r,s,h,hl=>by
  obtain⟨h1,h2⟩:=NA r (X5 h (hl p (by simp))) (λq hq=>hl q (by simp[hq]));exact⟨h1,zq3 (Gj s p) h2⟩
theorem X3{f:CF}(h:∀c∈kg f,c<24):dW (Uf f):=(Dv _ (λc hc=>h c (by unfold kg;simp at hc ⊢;rcases hc with h|h|h|h <;> simp[h])) dW.nil).1
