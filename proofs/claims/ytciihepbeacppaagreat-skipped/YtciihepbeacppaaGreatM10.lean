import Derived.Test.YtciihepbeacppaaGreatM09
set_option maxRecDepth 100000
set_option maxHeartbeats 0
namespace Go.Proofs.YtciihepbeacppaaGreat
open Tryz Go.RowKit List World Below
set_option linter.unusedVariables false
def EQ(f:CF)(p:Pr):Bool:=!(SO f p.l||decide (p.r=p.l))&&decide (Ce f.ow p.l=1)
def xg(f:CF):Option Nat:=f.ow.findIdx? (EQ f)
theorem Zl{l:List Pr}{P:Pr->Bool}{k:Nat}(hk:k<l.length)(hn:∀j,j<k->P (l.getD j ay)=false)(h:P (l.getD k ay)=true):l.findIdx? P=some k:=by
 rw[findIdx?_eq_some_iff_getElem];refine⟨hk,by rw[<-jZ hk];exact h,λj hj=>?_⟩;have:=hn j hj;rw[jZ (by omega)]at this;simpa using this
theorem TW{l:List Pr}{P:Pr->Bool}(hn:∀j,j<l.length->P (l.getD j ay)=false):l.findIdx? P=none:=by
 rw[findIdx?_eq_none_iff];intro x hx;obtain⟨k,hk,rfl⟩:=mem_iff_getElem.1 hx;have:=hn k hk;rwa [jZ hk]at this
section
variable {w:World} {A:Nat} {f:CF} {av ov:Value}
theorem D5(h:eP w A f av ov)(ho:f.ow.length<=100000):Calls prog 250 #[.pointer (some ⟨A,0,none⟩)] w λe w'=>e=.returned (.int .i64 (fU (xg f)))/\Below w.heap.size w w':=by
 obtain⟨oa,oc,gw,hoc,hom⟩:=am h.ow;subst gw;have H:=ab h;have J0:=ab (Below.refl w.heap.size w);clear h;go_enter func250,ntmps250;go_wp2_with fail
 go_loopw [3] (λi wx=>∃(k:Nat),k<=f.ow.length/\i=.int .i64 k/\Hid (Below w.heap.size w wx)/\Hid (∀j,j<k->EQ f (f.ow.getD j ay)=false)) (λi _=>f.ow.length-(intOf i).toNat)
 case atStart=>exact⟨0,zq5 _,rfl,J0,ab (λ_ h=>absurd h (by omega))⟩
 case round =>
  clear J0;obtain⟨k,hk,rfl,hb,hn⟩:=hrel;have hF:=(uh H).below (uh hb);have c6:=hF.c6;by_cases au:k<f.ow.length
  .have hd:decide ((k:Int)<(f.ow.length:Int))=true:=(by simp;omega);obtain⟨g,cap,dE,-,-⟩:=aE hF.ow au;simp only[Value.slice.injEq,true_and]at dE;obtain⟨rfl,rfl⟩:=dE;obtain⟨x0,x1,x2⟩:=aB hF.ow au;obtain⟨p,hp⟩:∃p,p=f.ow.getD k ay:=⟨_,rfl⟩;rw[<-hp]at x0 x1 x2;have Sc:=ab (Lr hF p.l);have MI:Hid (Calls prog 262 #[.pointer (some ⟨A,0,none⟩),.int .i64 p.l] wr λe w'=>e=.returned (.int .i64 (Ce f.ow p.l:Nat))/\Below w.heap.size w w'):=ab ((N3 hF ho p.l).mono (by
    rintro e w' ⟨rfl,aW⟩;exact⟨rfl,(uh hb).trans (aW.mono (uh hb).size)⟩))
   have v7:EQ f p=(!(SO f p.l||decide (p.r=p.l))&&decide (Ce f.ow p.l=1)):=rfl;have qn:Hid (EQ f p=false->∀j,j<k+1->EQ f (f.ow.getD j ay)=false):=ab (λh0 j hj=>by
    by_cases e:j=k
    .rw[e,<-hp];exact h0
    .exact uh hn j (by omega))
   have HHT:Hid (EQ f p=true->fU (xg f)=(k:Int)):=ab (λh1=>by unfold xg;rw[Zl au (uh hn) (by rw[<-hp];exact h1)];rfl);have i1:(0:Int)<=(k:Int):=(by omega);have i2:(k:Int)<(f.ow.length:Int):=(by omega);obtain⟨b,Ay⟩:∃b,b=SO f p.l:=⟨_,rfl⟩;obtain⟨m,hm⟩:∃m,m=Ce f.ow p.l:=⟨_,rfl⟩;have fI:m<=100000:=(by rw[hm];exact zq3 (N0 _ _) ho);rw[<-Ay]at v7 Sc;rw[<-hm]at v7 MI;have HSM:=ab v7;clear hF hp v7 Ay hm;go_wp2_with fail
   refine(uh Sc).mono ?_;rintro e w1 ⟨rfl,rfl⟩;clear Sc;cases b with
   |true =>
    have HE:Hid (EQ f p=false):=ab (by rw[uh HSM];simp);go_wp2_with fail
    go_roundw
    case rel=>exact⟨k+1,by omega,by go_num,hb,ab (uh qn (uh HE))⟩
    case measure=>simp[intOf];omega
   |false =>
    by_cases e1:p.r=p.l
    .have b1:((p.r:Int)==(p.l:Int))=true:=(by simp[e1]);have HE:Hid (EQ f p=false):=ab (by rw[uh HSM];simp[e1]);clear e1;go_wp2_with fail
     go_roundw
     case rel=>exact⟨k+1,by omega,by go_num,hb,ab (uh qn (uh HE))⟩
     case measure=>simp[intOf];omega
    .have b1:((p.r:Int)==(p.l:Int))=false:=(by simp;omega);have HE0:Hid (EQ f p=decide (m=1)):=ab (by rw[uh HSM];simp[e1]);clear e1;go_wp2_with fail
     refine(uh MI).mono ?_;rintro e w2 ⟨rfl,aW⟩;have eO:=ab aW;clear aW MI;by_cases e2:m=1
     .have b2:((m:Int)==(1:Int))=true:=(by simp[e2]);have HE:Hid (fU (xg f)=(k:Int)):=ab (uh HHT (by rw[uh HE0];simp[e2]));clear e2;go_wp2_with fail
      go_ret;exact⟨bi (uh HE).symm,uh eO⟩
     .have b2:((m:Int)==(1:Int))=false:=(by simp;omega);have HE:Hid (EQ f p=false):=ab (by rw[uh HE0];simp[e2]);clear e2;go_wp2_with fail
      go_roundw
      case rel=>exact⟨k+1,by omega,by go_num,eO,ab (uh qn (uh HE))⟩
      case measure=>simp[intOf];omega
  .have hd:decide ((k:Int)<(f.ow.length:Int))=false:=(by simp;omega);have HE:Hid (fU (xg f)=-1):=ab (by unfold xg;rw[TW (λj hj=>uh hn j (by omega))];rfl);clear hF;go_wp2_with fail
   go_ret;exact⟨bi (uh HE).symm,uh hb⟩
end
def bI(g:Pr->Pr)(l:List Pr)(k:Nat):List Pr:=(l.take k).map g++l.drop k
theorem jS(g:Pr->Pr)(l:List Pr)(k:Nat):(bI g l k).length=l.length:=by simp[bI];omega
theorem lx{g:Pr->Pr}{l:List Pr}{k:Nat}(hk:k<l.length):(bI g l k).getD k ay=l.getD k ay:=by
 rw[jZ hk];unfold bI;rw[getD_eq_getElem?_getD,getElem?_append_right (by simp;omega)];simp[hk,Nat.min_eq_left (Nat.le_of_lt hk)]
theorem lz{g:Pr->Pr}{l:List Pr}{k:Nat}(hk:k<l.length):bI g l (k+1)=(bI g l k).set k (g (l.getD k ay)):=by
 rw[jZ hk];unfold bI;have e:l.drop k=l[k]::l.drop (k+1):=drop_eq_getElem_cons hk;have e2:(l.take (k+1)).map g=(l.take k).map g++[g l[k]]:=by
  rw[take_add_one,getElem?_eq_getElem hk,map_append];rfl
 have e3:((l.take k).map g).length=k:=by simp;omega
 rw[e2,e,set_append_right _ _ (by omega),e3,Nat.sub_self,set_cons_zero,append_assoc];rfl
theorem wt{g:Pr->Pr}{l:List Pr}{k:Nat}(hk:l.length<=k):bI g l k=l.map g:=by
 unfold bI;rw[take_of_length_le hk,drop_eq_nil_of_le hk,append_nil]
theorem zJ{l:List Pr}{k:Nat}(hk:k<l.length):l.set k (l.getD k ay)=l:=by
 rw[jZ hk,set_getElem_self]
def fo1(m e:Nat)(p:Pr):Pr:=if p.r=m then ⟨4,p.l,e⟩ else p
def kk(f:CF)(k:Nat):CF:={ f with ow:=iQ (f.ow.map (fo1 (f.ow.getD k ay).l (f.ow.getD k ay).r)) k }
def eE:Nat->CF->CF
 |0,f=>f
 |n+1,f=>match xg f with|none=>f|some k=>eE n (kk f k)
def As(f:CF):CF:=eE f.ow.length f
theorem RD(l:List Pr)(i k:Nat):(ry l i k).length=if i<k then k-1 else k:=by
 induction k with
 |zero=>simp[ry]
 |succ k ih =>
  rw[xy,length_append,ih];by_cases h:k=i
  .rw[if_pos h,if_neg (by omega),if_pos (by omega)];simp
  .rw[if_neg h];by_cases h2:i<k
   .rw[if_pos h2,if_pos (by omega)];simp;omega
   .rw[if_neg h2,if_neg (by omega)];simp
theorem Wh{l:List Pr}{k:Nat}(hk:k<l.length):(iQ l k).length=l.length-1:=by
 unfold iQ;rw[RD,if_pos hk]
theorem abZ{f:CF}{k:Nat}(h:xg f=some k):k<f.ow.length:=by
 unfold xg at h;rw[findIdx?_eq_some_iff_getElem]at h;exact h.1
section
variable {w:World} {A:Nat} {f:CF} {av ov:Value}
theorem Ox(h:Fm w A f av ov)(ho:f.ow.length<=100000):Calls prog 228 #[.pointer (some ⟨A,0,none⟩)] w λe w'=>e=.returned (.tuple #[])/\∃ov',Fm w' A (As f) av ov'/\ar (aG A av ov) w (aG A av ov') w':=by
 have sP:=ab (D5 h.is ho);have H:=ab h;clear h;go_enter func228,ntmps228;go_wp2_with fail
 refine(uh sP).mono ?_;rintro e w1 ⟨rfl,bz⟩;have cF:Hid (Fm w1 A f av ov/\ar (aG A av ov) w (aG A av ov) w1/\eE f.ow.length f=As f):=ab ⟨(uh H).below bz,ar.ofBw bz,rfl⟩;clear bz sP;go_wp2_with fail
 go_loopg [2] f.ow.length (λgn kv wx=>∃(F:CF) (ov':Value),F.ow.length=gn/\gn<=f.ow.length/\kv=.int .i64 (fU (xg F))/\Hid (Fm wx A F av ov'/\ar (aG A av ov) w (aG A av ov') wx/\eE gn F=As f))
 case atStart=>exact⟨f,ov,rfl,zq4 _,rfl,cF⟩
 case round =>
  clear cF;obtain⟨F,ov',dN,hgn,rfl,hI⟩:=hrel;obtain⟨G,hG⟩:∃G,G=gk:=⟨_,rfl⟩;cases v7:xg F with
  |none =>
   have HE:Hid (F=As f):=ab (by
    have:=(uh hI).2.2;rw[<-this];cases gk with
    |zero=>rfl
    |succ n=>simp[eE,v7])
   clear v7;go_wp2_with fail
   go_end0
   exact⟨rfl,ov',by rw[<-uh HE];exact(uh hI).1,(uh hI).2.1⟩
  |some k =>
   have gJ:=abZ v7;have qn:Hid (eE (gk-1) (kk F k)=As f):=ab (by
    have h1:=(uh hI).2.2;rw[<-h1,show gk=gk-1+1 by omega];simp[eE,v7])
   obtain⟨p,hp⟩:∃p,p=F.ow.getD k ay:=⟨_,rfl⟩;have LX:Hid (kk F k={ F with ow:=iQ (F.ow.map (fo1 p.l p.r)) k }):=ab (by unfold kk;rw[<-hp]);obtain⟨g,cap,dE,oT,kD⟩:=aE (uh hI).1.is.ow gJ;subst dE;have c6:=(uh hI).1.is.c6;obtain⟨-,x1,x2⟩:=aB (uh hI).1.is.ow gJ;rw[<-hp]at x1 x2;have d0:decide ((0:Int)<=(k:Int))=true:=(by simp);have i1:(0:Int)<=(k:Int):=(by omega);have i2:(k:Int)<(F.ow.length:Int):=(by omega);have fG:Hid (Fm wr A { F with ow:=bI (fo1 p.l p.r) F.ow 0 } av (.slice (some ⟨g,0,none⟩) F.ow.length cap)/\ar (aG A av ov) w (aG A av (.slice (some ⟨g,0,none⟩) F.ow.length cap)) wr):=ab ⟨by simpa[bI] using (uh hI).1,(uh hI).2.1⟩;have HLN:=ab dN;clear v7 hp hI dN;rw[show fU (some k)=(k:Int) from rfl];go_wp2_with fail
   go_loopg [5] F.ow.length (λgn i wx=>∃(j:Nat),j+gn=F.ow.length/\i=.int .i64 j/\Hid (Fm wx A { F with ow:=bI (fo1 p.l p.r) F.ow j } av (.slice (some ⟨g,0,none⟩) F.ow.length cap)/\ar (aG A av ov) w (aG A av (.slice (some ⟨g,0,none⟩) F.ow.length cap)) wx))
   case atStart=>exact⟨0,by omega,rfl,fG⟩
   case round =>
    clear fG x1 x2 c6;obtain⟨j,Co,rfl,hJ⟩:=hrel;obtain⟨G2,FB⟩:∃G2,G2=gk:=⟨_,rfl⟩;have c6:=(uh hJ).1.is.c6;have fI:=jS (fo1 p.l p.r) F.ow j;by_cases au:j<F.ow.length
    .have hd:decide ((j:Int)<(F.ow.length:Int))=true:=(by simp;omega);have bp:wr.ownsRow 0 182 3 (.slice (some ⟨g,0,none⟩) F.ow.length cap) F.ow.length (af (bI (fo1 p.l p.r) F.ow j)):=by
      have:=(uh hJ).1.is.ow;rwa [show({ F with ow:=bI (fo1 p.l p.r) F.ow j }:CF).ow.length=F.ow.length from fI]at this
     have vY:wr.ownsRow 0 182 3 (.slice (some ⟨g,0,none⟩) (bI (fo1 p.l p.r) F.ow j).length cap) (bI (fo1 p.l p.r) F.ow j).length (af (bI (fo1 p.l p.r) F.ow j)):=(by rw[fI];exact bp);obtain⟨y0,-,y2⟩:=aB vY (i:=j) (by omega);obtain⟨q,hq⟩:∃q,q=F.ow.getD j ay:=⟨_,rfl⟩;rw[lx au,<-hq]at y0 y2;have z0:=bp.frozenAt (j*3);have k1:(0:Int)<=(j:Int):=(by omega);have k2:(j:Int)<(F.ow.length:Int):=(by omega);by_cases e1:q.r=p.l
     .have b1:((q.r:Int)==(p.l:Int))=true:=(by simp[e1]);have r1:=(bp.stored (j*3) (.int .i64 4)).1;rw[show(Value.int .i64 4)=Value.int .i64 ((4:Nat):Int) from rfl,mi (by omega),lx au,<-hq]at r1;have z2:(wr.setCell ⟨g,j*3,none⟩ (.int .i64 4)).frozen? ⟨g,j*3+2,none⟩=false:=r1.frozenAt (j*3+2);have y2':(wr.setCell ⟨g,j*3,none⟩ (.int .i64 4)).cell? ⟨g,j*3+2,none⟩=some (.int .i64 (q.r:Int)):=(by rw[cell?_setCell_other _ _ _ _ (by simp)];exact y2);have r2:=(r1.stored (j*3+2) (.int .i64 (p.r:Int))).1;rw[fx (by simp;omega)]at r2;have e2:((bI (fo1 p.l p.r) F.ow j).set j ⟨4,q.l,q.r⟩).set j ⟨(((bI (fo1 p.l p.r) F.ow j).set j ⟨4,q.l,q.r⟩).getD j ay).k,(((bI (fo1 p.l p.r) F.ow j).set j ⟨4,q.l,q.r⟩).getD j ay).l,p.r⟩=bI (fo1 p.l p.r) F.ow (j+1):=by
       rw[lz au,<-hq,set_set];have:((bI (fo1 p.l p.r) F.ow j).set j ⟨4,q.l,q.r⟩).getD j ay=⟨4,q.l,q.r⟩:=by
        rw[getD_eq_getElem?_getD,getElem?_set_self (by omega)];rfl
       rw[this];unfold fo1;rw[if_pos e1]
      rw[e2]at r2;have hs:ar (Value.slice (some ⟨g,0,none⟩) F.ow.length cap).ownBlock.toList wr (Value.slice (some ⟨g,0,none⟩) F.ow.length cap).ownBlock.toList ((wr.setCell ⟨g,j*3,none⟩ (.int .i64 4)).setCell ⟨g,j*3+2,none⟩ (.int .i64 (p.r:Int))):=((ar.refl _ _).setCell (p:=⟨g,j*3,none⟩) (zq0 (by simp[Value.ownBlock])) _).setCell (p:=⟨g,j*3+2,none⟩) (zq0 (by simp[Value.ownBlock])) _;have hN:=(uh hJ).1.newRow (ow':=bI (fo1 p.l p.r) F.ow (j+1)) (by rw[jS,jS]) (by rw[show({ F with ow:=bI (fo1 p.l p.r) F.ow j }:CF).ow.length=F.ow.length from fI];exact r2) hs;have c6':(wr.setCell ⟨g,j*3,none⟩ (.int .i64 4)).cell? ⟨A,6,none⟩=some (.slice (some ⟨g,0,none⟩) F.ow.length cap):=by
       rw[cell?_setCell_other _ _ _ _ (by intro e;have:=(uh hJ).1.nds.2.1;simp at e;exact this (by rw[e.1];rfl))];exact c6
      have HN:Hid (Fm ((wr.setCell ⟨g,j*3,none⟩ (.int .i64 4)).setCell ⟨g,j*3+2,none⟩ (.int .i64 (p.r:Int))) A { F with ow:=bI (fo1 p.l p.r) F.ow (j+1) } av (.slice (some ⟨g,0,none⟩) F.ow.length cap)/\ar (aG A av ov) w (aG A av (.slice (some ⟨g,0,none⟩) F.ow.length cap)) ((wr.setCell ⟨g,j*3,none⟩ (.int .i64 4)).setCell ⟨g,j*3+2,none⟩ (.int .i64 (p.r:Int)))):=ab ⟨hN.1,(uh hJ).2.trans hN.2⟩;clear e1 r1 r2 e2 hs hN bp vY hq fI hJ;go_wp2_with fail
      go_roundg (G2-1)
      case rel=>exact⟨j+1,by omega,by go_num,HN⟩
      case measure=>omega
     .have b1:((q.r:Int)==(p.l:Int))=false:=(by simp;omega);have HE:Hid (bI (fo1 p.l p.r) F.ow (j+1)=bI (fo1 p.l p.r) F.ow j):=ab (by
       rw[lz au,<-hq,show fo1 p.l p.r q=q from if_neg e1];have h1:=zJ (l:=bI (fo1 p.l p.r) F.ow j) (k:=j) (by omega);rw[lx au,<-hq]at h1;exact h1)
      clear e1 bp vY hq fI;go_wp2_with fail
      go_roundg (G2-1)
      case rel=>exact⟨j+1,by omega,by go_num,ab (by rw[uh HE];exact uh hJ)⟩
      case measure=>omega
    .have hd:decide ((j:Int)<(F.ow.length:Int))=false:=(by simp;omega);have hF:Fm wr A { F with ow:=F.ow.map (fo1 p.l p.r) } av (.slice (some ⟨g,0,none⟩) F.ow.length cap):=by
      have:=(uh hJ).1;rwa [wt (by omega)]at this
     have HT:=ab (zc hF (by simp;have:=uh HLN;omega) k);have dh:=ab (uh hJ).2;clear hF fI hJ;go_wp2_with fail
     refine(uh HT).mono ?_;rintro e w2 ⟨rfl,ov2,pp,gS⟩;have ym:(iQ (F.ow.map (fo1 p.l p.r)) k).length=F.ow.length-1:=(by rw[Wh (by simpa using gJ)];simp);have dg:=ab (D5 pp.is (by show(iQ (F.ow.map (fo1 p.l p.r)) k).length<=100000;have:=uh HLN;omega));have xZ:=ab pp;have Tj:=ab ((uh dh).trans gS);have HL2:=ab ym;clear pp gS ym HT c6;go_wp2_with fail
     refine(uh dg).mono ?_;rintro e w3 ⟨rfl,dx⟩;have HF3:Hid (Fm w3 A (kk F k) av ov2/\ar (aG A av ov) w (aG A av ov2) w3):=ab ⟨by rw[uh LX];exact(uh xZ).below dx,(uh Tj).trans (ar.ofBw dx)⟩;clear dx dg;go_wp2_with fail
     go_roundg (G-1)
     case rel =>
      have h1:=uh HLN;refine⟨kk F k,ov2,?_,by omega,by rw[uh LX],ab ⟨(uh HF3).1,(uh HF3).2,?_⟩⟩
      .rw[uh LX];show(iQ (F.ow.map (fo1 p.l p.r)) k).length=_;rw[uh HL2];omega
      .rw[hG];exact uh qn
     case measure=>have:=uh HLN;omega
end
def Mb(p q:Pr):Bool:=decide (p.l<q.l)||(decide (p.l=q.l)&&decide (p.r<q.r))
def prV(p:Pr):Value:=.agg #[.int .i64 (p.k:Int),.int .i64 (p.l:Int),.int .i64 (p.r:Int)]
section
variable {w:World}
theorem Fa(p q:Pr):Calls prog 249 #[prV p,prV q] w λe w'=>e=.returned (.bool (Mb p q))/\Below w.heap.size w w':=by
 have HB:Hid (Below w.heap.size w ((w.alloc (.cells #[.int .i64 (p.k:Int),.int .i64 (p.l:Int),.int .i64 (p.r:Int)] 182)).alloc (.cells #[.int .i64 (q.k:Int),.int .i64 (q.l:Int),.int .i64 (q.r:Int)] 182))):=ab (((Below.refl _ _).alloc (zq4 _) _).alloc (by simp) _);unfold prV;obtain⟨b,hb⟩:∃b,b=Mb p q:=⟨_,rfl⟩;rw[<-hb];unfold Mb at hb;obtain⟨pk,pl,pr⟩:=p;obtain⟨qk,ql,qr⟩:=q;simp only at hb ⊢;by_cases h1:pl<ql
 .have HE:Hid (b=true):=ab (by rw[hb];simp[h1]);clear hb;go_enter func249,ntmps249;go_wp2_with fail
  go_ret;exact⟨aC (uh HE).symm,uh HB⟩
 .by_cases h2:pl=ql
  .subst h2;have HE:Hid (b=decide (pr<qr)):=ab (by rw[hb];simp);clear hb h1;go_enter func249,ntmps249;go_wp2_with fail
   go_ret;exact⟨aC (uh HE).symm,uh HB⟩
  .have HE:Hid (b=false):=ab (by rw[hb];simp[h1,h2]);have h3:ql<pl:=(by omega);clear hb h1;go_enter func249,ntmps249;go_wp2_with fail
   go_ret;exact⟨aC (by rw[uh HE];simp;omega),uh HB⟩
theorem CZ(a b:Nat):Calls prog 265 #[.int .i64 a,.int .i64 b] w λe w'=>e=.returned (.int .i64 (max a b:Nat))/\w'=w:=by
 by_cases h:b<a
 .have HE:Hid (max a b=a):=ab (by omega);go_enter func265,ntmps265;go_wp2_with fail
  go_ret;exact⟨bi (by rw[uh HE]),rfl⟩
 .have HE:Hid (max a b=b):=ab (by omega);go_enter func265,ntmps265;go_wp2_with fail
  go_ret;exact⟨bi (by rw[uh HE]),rfl⟩
end
def rb(m:Nat)(l:List Pr):Nat:=l.foldl (λm p=>max (max m p.l) p.r) m
def qs(f:CF):Nat:=max (max (max (max (max 0 (f.cl.getD 0 0)) (f.cl.getD 1 0)) (f.cl.getD 2 0)) (f.cl.getD 3 0)) (f.cl.getD 4 0)
def aw(f:CF):Nat:=rb (rb (qs f) f.ow) f.ap+1
theorem DJ{m:Nat}{l:List Pr}{k:Nat}(hk:k<l.length):rb m (l.take (k+1))=max (max (rb m (l.take k)) (l.getD k ay).l) (l.getD k ay).r:=by
 rw[jZ hk];unfold rb;rw[take_add_one,getElem?_eq_getElem hk,foldl_append];rfl
section
variable {w:World} {A:Nat} {f:CF} {av ov:Value}
theorem vJ(h:eP w A f av ov)(ha:f.ap.length<=100000)(ho:f.ow.length<=100000)(hm:aw f<=100000):Calls prog 258 #[.pointer (some ⟨A,0,none⟩)] w λe w'=>e=.returned (.int .i64 (aw f:Nat))/\Below w.heap.size w w':=by
 obtain⟨oa,oc,gw,-,-⟩:=am h.ow;subst gw;obtain⟨aa,ac,ko,-,-⟩:=am h.ap;subst ko;have x0:=h.cls (i:=0) (by omega);have x1:=h.cls (i:=1) (by omega);have x2:=h.cls (i:=2) (by omega);have x3:=h.cls (i:=3) (by omega);have x4:=h.cls (i:=4) (by omega);unfold gZ at x0 x1 x2 x3 x4;obtain⟨y0,e0⟩:∃y,y=f.cl.getD 0 0:=⟨_,rfl⟩;obtain⟨y1,e1⟩:∃y,y=f.cl.getD 1 0:=⟨_,rfl⟩;obtain⟨y2,e2⟩:∃y,y=f.cl.getD 2 0:=⟨_,rfl⟩;obtain⟨y3,e3⟩:∃y,y=f.cl.getD 3 0:=⟨_,rfl⟩;obtain⟨y4,e4⟩:∃y,y=f.cl.getD 4 0:=⟨_,rfl⟩;have HC:Hid (qs f=max (max (max (max (max 0 y0) y1) y2) y3) y4):=ab (by unfold qs;rw[e0,e1,e2,e3,e4]);rw[<-e0]at x0;rw[<-e1]at x1;rw[<-e2]at x2;rw[<-e3]at x3;rw[<-e4]at x4;have j0:=AO (.int .i64 (y0:Int)) (.int .i64 (y1:Int)) (.int .i64 (y2:Int)) (.int .i64 (y3:Int)) (.int .i64 (y4:Int));have j1:=AP (.int .i64 (y0:Int)) (.int .i64 (y1:Int)) (.int .i64 (y2:Int)) (.int .i64 (y3:Int)) (.int .i64 (y4:Int));have j2:=AQ (.int .i64 (y0:Int)) (.int .i64 (y1:Int)) (.int .i64 (y2:Int)) (.int .i64 (y3:Int)) (.int .i64 (y4:Int));have j3:=AR (.int .i64 (y0:Int)) (.int .i64 (y1:Int)) (.int .i64 (y2:Int)) (.int .i64 (y3:Int)) (.int .i64 (y4:Int));have j4:=AS (.int .i64 (y0:Int)) (.int .i64 (y1:Int)) (.int .i64 (y2:Int)) (.int .i64 (y3:Int)) (.int .i64 (y4:Int));have c6:=h.c6;have c5:=h.c5;have H:=ab h;have HM:=ab hm;have HG:Hid (∀(W:World) (a b:Nat),Calls prog 265 #[.int .i64 a,.int .i64 b] W λe w'=>e=.returned (.int .i64 (max a b:Nat))/\w'=W):=ab (λW a b=>CZ a b);clear h e0 e1 e2 e3 e4 hm;go_enter func258,ntmps258;go_wp2_with fail
 go_loop [3,14] (λm i=>∃(k:Nat),k<=5/\i=.int .i64 k/\m=.int .i64 ((([y0,y1,y2,y3,y4].take k).foldl max 0:Nat):Int)) (λ_ i=>5-(intOf i).toNat)
 case atStart=>exact⟨0,zq5 _,rfl,rfl⟩
 case round =>
  obtain⟨k,hk,rfl,rfl⟩:=hrel;obtain⟨m,Cq⟩:∃m,m=([y0,y1,y2,y3,y4].take k).foldl max 0:=⟨_,rfl⟩;rw[<-Cq];have MM:=ab Cq;clear Cq;have vP:k=0\/k=1\/k=2\/k=3\/k=4\/k=5:=by omega
  rcases vP with rfl|rfl|rfl|rfl|rfl|rfl
  .go_wp2_with fail
   refine(uh HG _ _ _).mono ?_;rintro e w1 ⟨rfl,rfl⟩;go_wp2_with fail
   go_round
   case rel=>exact⟨1,by omega,by go_num,by rw[uh MM];rfl⟩
   case measure=>simp[intOf]
  .go_wp2_with fail
   refine(uh HG _ _ _).mono ?_;rintro e w1 ⟨rfl,rfl⟩;go_wp2_with fail
   go_round
   case rel=>exact⟨2,by omega,by go_num,by rw[uh MM];rfl⟩
   case measure=>simp[intOf]
  .go_wp2_with fail
   refine(uh HG _ _ _).mono ?_;rintro e w1 ⟨rfl,rfl⟩;go_wp2_with fail
   go_round
   case rel=>exact⟨3,by omega,by go_num,by rw[uh MM];rfl⟩
   case measure=>simp[intOf]
  .go_wp2_with fail
   refine(uh HG _ _ _).mono ?_;rintro e w1 ⟨rfl,rfl⟩;go_wp2_with fail
   go_round
   case rel=>exact⟨4,by omega,by go_num,by rw[uh MM];rfl⟩
   case measure=>simp[intOf]
  .go_wp2_with fail
   refine(uh HG _ _ _).mono ?_;rintro e w1 ⟨rfl,rfl⟩;go_wp2_with fail
   go_round
   case rel=>exact⟨5,by omega,by go_num,by rw[uh MM];rfl⟩
   case measure=>simp[intOf]
  .have hmc:m=qs f:=(by rw[uh MM,uh HC];rfl);have J0:=ab (Below.refl w.heap.size w);have dh:Hid (m=rb (qs f) (f.ow.take 0)):=ab (by rw[hmc];rfl);clear MM hmc j0 j1 j2 j3 j4 x0 x1 x2 x3 x4 HC;go_wp2_with fail
   go_loopw [3,26] (λmv i wx=>∃(k:Nat),k<=f.ow.length/\i=.int .i64 k/\mv=.int .i64 (rb (qs f) (f.ow.take k):Nat)/\Hid (Below w.heap.size w wx)) (λ_ i _=>f.ow.length-(intOf i).toNat)
   case atStart=>exact⟨0,zq5 _,rfl,by rw[<-uh dh],J0⟩
   case round =>
    clear dh J0;obtain⟨k,hk,rfl,rfl,hb⟩:=hrel;obtain⟨m,Cq⟩:∃m,m=rb (qs f) (f.ow.take k):=⟨_,rfl⟩;rw[<-Cq];have hF:=(uh H).below (uh hb);by_cases au:k<f.ow.length
    .have hd:decide ((k:Int)<(f.ow.length:Int))=true:=(by simp;omega);obtain⟨g,cap,dE,-,-⟩:=aE hF.ow au;simp only[Value.slice.injEq,true_and]at dE;obtain⟨rfl,rfl⟩:=dE;obtain⟨x0,x1,x2⟩:=aB hF.ow au;have aP:=DJ (m:=qs f) au;obtain⟨p,hp⟩:∃p,p=f.ow.getD k ay:=⟨_,rfl⟩;rw[<-hp]at x0 x1 x2 aP;rw[<-Cq]at aP;have dh:=ab aP;have f8:Hid (Below w.heap.size w (wr.alloc (.cells #[.int .i64 (p.k:Int),.int .i64 (p.l:Int),.int .i64 (p.r:Int)] 182))):=ab ((uh hb).alloc (uh hb).size _);have i1:(0:Int)<=(k:Int):=(by omega);have i2:(k:Int)<(f.ow.length:Int):=(by omega);clear hF hp aP Cq;go_wp2_with fail
     refine(uh HG _ _ _).mono ?_;rintro e w1 ⟨rfl,rfl⟩;go_wp2_with fail
     refine(uh HG _ _ _).mono ?_;rintro e w1 ⟨rfl,rfl⟩;go_wp2_with fail
     go_roundw
     case rel=>exact⟨k+1,by omega,by go_num,by rw[uh dh,Nat.max_assoc],f8⟩
     case measure=>simp[intOf];omega
    .have hd:decide ((k:Int)<(f.ow.length:Int))=false:=(by simp;omega);have kE:m=rb (rb (qs f) f.ow) (f.ap.take 0):=(by rw[Cq,take_of_length_le (by omega)];rfl);have WB:=ab kE;have c5':=hF.c5;clear hF Cq kE;go_wp2_with fail
     go_loopw [3,44] (λmv i wx=>∃(k:Nat),k<=f.ap.length/\i=.int .i64 k/\mv=.int .i64 (rb (rb (qs f) f.ow) (f.ap.take k):Nat)/\Hid (Below w.heap.size w wx)) (λ_ i _=>f.ap.length-(intOf i).toNat)
     case atStart=>exact⟨0,zq5 _,rfl,by rw[<-uh WB],hb⟩
     case round =>
      clear WB hb;obtain⟨k2,mK,rfl,rfl,hb⟩:=hrel;obtain⟨m2,Cq⟩:∃m,m=rb (rb (qs f) f.ow) (f.ap.take k2):=⟨_,rfl⟩;rw[<-Cq];have hF:=(uh H).below (uh hb);by_cases b7:k2<f.ap.length
      .have kY:decide ((k2:Int)<(f.ap.length:Int))=true:=(by simp;omega);obtain⟨g,cap,dE,-,-⟩:=aE hF.ap b7;simp only[Value.slice.injEq,true_and]at dE;obtain⟨rfl,rfl⟩:=dE;obtain⟨x0,x1,x2⟩:=aB hF.ap b7;have aP:=DJ (m:=rb (qs f) f.ow) b7;obtain⟨p,hp⟩:∃p,p=f.ap.getD k2 ay:=⟨_,rfl⟩;rw[<-hp]at x0 x1 x2 aP;rw[<-Cq]at aP;have dh:=ab aP;have f8:Hid (Below w.heap.size w (wr.alloc (.cells #[.int .i64 (p.k:Int),.int .i64 (p.l:Int),.int .i64 (p.r:Int)] 182))):=ab ((uh hb).alloc (uh hb).size _);have i1:(0:Int)<=(k2:Int):=(by omega);have i2:(k2:Int)<(f.ap.length:Int):=(by omega);clear hF hp aP Cq;go_wp2_with fail
       refine(uh HG _ _ _).mono ?_;rintro e w1 ⟨rfl,rfl⟩;go_wp2_with fail
       refine(uh HG _ _ _).mono ?_;rintro e w1 ⟨rfl,rfl⟩;go_wp2_with fail
       go_roundw
       case rel=>exact⟨k2+1,by omega,by go_num,by rw[uh dh,Nat.max_assoc],f8⟩
       case measure=>simp[intOf];omega
      .have kY:decide ((k2:Int)<(f.ap.length:Int))=false:=(by simp;omega);have hE:m2+1=aw f:=(by unfold aw;rw[Cq,take_of_length_le (by omega)]);have fI:m2<=100000:=(by have:=uh HM;omega);have HE:=ab hE;clear hF Cq hE;go_wp2_with fail
       go_ret;exact⟨bi (by rw[<-uh HE];go_num),uh hb⟩
end
def kj(f:CF):List Nat:=[f.cl.getD 0 0,f.cl.getD 1 0,f.cl.getD 2 0,f.cl.getD 3 0,f.cl.getD 4 0]
def bL(f:CF):List Nat:=kj f++f.ow.flatMap (λp=>[p.l,p.r])
def yd(f:CF)(p:Pr):Bool:=decide (p.l∈bL f)&&decide (p.r∈bL f)&&!mG f p.l p.r
def cJ(f:CF):CF:={ f with ap:=f.ap.filter (yd f) }
def iS(ms:List Nat)(c:Nat):List Nat:=if c∈ms then ms else ms++[c]
def CY(ms:List Nat)(c:Nat):Nat:=if c∈ms then ms.idxOf c+1 else 0
def zN(f:CF)(k:Nat)(ms:List Nat):List Nat :=
 match cD f.ow (ms.getD k 0) with
 |some i=>iS ms (f.ow.getD i ay).r
 |none=>ms
def pi(f:CF):Nat->Nat->List Nat->List Nat
 |0,_,ms=>ms
 |n+1,k,ms=>if k<ms.length then pi f n (k+1) (zN f k ms) else ms
def zF(f:CF)(ms:List Nat)(p:Pr):List Nat:=pi f 25 ms.length (iS ms p.l)
def df(f:CF):List Nat:=f.ow.foldl (zF f) (pi f 25 0 ((kj f).foldl iS []))
def jk(ms:List Nat)(p:Pr):Pr:=⟨p.k,ms.idxOf p.l,ms.idxOf p.r⟩
def wU(f:CF):CF:=⟨(kj f).map (λc=>(df f).idxOf c),f.ap.map (jk (df f)),f.ow.map (jk (df f))⟩
def ep(ms:List Nat):Prop:=ms.Nodup/\∀c∈ms,c<24
theorem ep.len{ms:List Nat}(h:ep ms):ms.length<=24:=by
 have:=List.Nodup.length_le_of_subset h.1 (l₂:=range 24) (λc hc=>by simpa using h.2 c hc);simpa using this
theorem ep.nil:ep []:=⟨nodup_nil,λc hc=>by simp at hc⟩
theorem ep.me{ms:List Nat}(h:ep ms){c:Nat}(hc:c<24):ep (iS ms c):=by
 unfold iS;split
 .exact h
 .rename_i hn;refine⟨?_,λd hd=>?_⟩
  .rw[nodup_append];exact⟨h.1,by simp,λa ha b hb e=>by simp only[mem_singleton]at hb;subst hb;subst e;exact hn ha⟩
  .rw[mem_append,mem_singleton]at hd;rcases hd with hd|rfl
   .exact h.2 d hd
   .exact hc
theorem uw{ms:List Nat}{c d:Nat}(h:d∈ms):d∈iS ms c:=by unfold iS;split;exact h;exact mem_append_left _ h
theorem Bp(ms:List Nat)(c:Nat):c∈iS ms c:=by unfold iS;split;assumption;simp
theorem Vk(ms:List Nat)(c:Nat):ms.length<=(iS ms c).length:=by unfold iS;split <;> simp
theorem Je{ms:List Nat}{c k:Nat}(hk:k<ms.length):(iS ms c).getD k 0=ms.getD k 0:=by
 unfold iS;split
 .rfl
 .simp[getD_eq_getElem?_getD,getElem?_append_left hk]
theorem eT:∀{l:List Pr} {c i:Nat},cD l c=some i->i<l.length/\(l.getD i ay).l=c
 |[],_,_,h=>by simp[cD]at h
 |p::r,c,i,h=>by
  unfold cD at h;split at h
  .injection h with h;subst h;rename_i e;exact⟨by simp,by simpa using e⟩
  .obtain⟨j,hj,rfl⟩:=Option.map_eq_some_iff.1 h;obtain⟨h1,h2⟩:=eT hj;exact⟨by simp only[length_cons];omega,by rw[getD_cons_succ];exact h2⟩
theorem t0{l:List Pr}{c i:Nat}(h:cD l c=some i):l.getD i ay∈l:=by
 obtain⟨h1,-⟩:=eT h;rw[getD_eq_getElem?_getD,getElem?_eq_getElem h1];exact getElem_mem h1
def lO(l:List Pr):Prop:=(l.map (·.l)).Nodup
theorem pL{l:List Pr}{p:Pr}(hN:lO l)(hp:p∈l):∃i,cD l p.l=some i/\l.getD i ay=p:=by
 induction l with
 |nil=>simp at hp
 |cons q r ih =>
  unfold lO at hN;rw[map_cons,nodup_cons]at hN;rcases mem_cons.1 hp with rfl|hp
  .exact⟨0,by simp[cD],by simp⟩
  .obtain⟨i,h1,h2⟩:=ih hN.2 hp;have aH:¬ (q.l=p.l):=λe=>hN.1 (by rw[e];exact mem_map_of_mem (f:=(·.l)) hp);exact⟨i+1,by unfold cD;rw[if_neg aH,h1];rfl,by simpa using h2⟩
section
variable {f:CF}
theorem Rp(hO:∀p∈f.ow,p.l<24/\p.r<24){k:Nat}{ms:List Nat}(h:ep ms):ep (zN f k ms):=by
 unfold zN;split
 .rename_i i hi;exact h.me (hO _ (t0 hi)).2
 .exact h
theorem V5{k:Nat}{ms:List Nat}{d:Nat}(h:d∈ms):d∈zN f k ms:=by unfold zN;split;exact uw h;exact h
theorem JK(f:CF)(k:Nat)(ms:List Nat):ms.length<=(zN f k ms).length:=by unfold zN;split;exact Vk _ _;exact zq4 _
theorem JJ{k:Nat}{ms:List Nat}{j:Nat}(h:j<ms.length):(zN f k ms).getD j 0=ms.getD j 0:=by unfold zN;split;exact Je h;rfl
theorem GK(hO:∀p∈f.ow,p.l<24/\p.r<24):∀(n k:Nat) {ms:List Nat},ep ms->ep (pi f n k ms)
 |0,_,_,h=>h
 |n+1,k,ms,h=>by
  unfold pi;split
  .exact GK hO n (k+1) (Rp hO h)
  .exact h
theorem oC:∀(n k:Nat) {ms:List Nat} {d:Nat},d∈ms->d∈pi f n k ms
 |0,_,_,_,h=>h
 |n+1,k,ms,d,h=>by
  unfold pi;split
  .exact oC n (k+1) (V5 h)
  .exact h
theorem BS:∀(n k:Nat) {ms:List Nat} {j:Nat},j<ms.length->j<(pi f n k ms).length/\(pi f n k ms).getD j 0=ms.getD j 0
 |0,_,_,_,h=>⟨h,rfl⟩
 |n+1,k,ms,j,h=>by
  unfold pi;split
  .obtain⟨h1,h2⟩:=BS n (k+1) (ms:=zN f k ms) (j:=j) (zq6 h (JK f k ms));exact⟨h1,h2.trans (JJ h)⟩
  .exact⟨h,rfl⟩
theorem JI(hO:∀p∈f.ow,p.l<24/\p.r<24):∀(n k:Nat) {ms:List Nat},ep ms->24<n+k->∀j,k<=j->j<(pi f n k ms).length->∀i,cD f.ow ((pi f n k ms).getD j 0)=some i->(f.ow.getD i ay).r∈pi f n k ms
 |0,k,ms,h,hk,j,hj,hl,i,hi=>by
  have:=h.len;unfold pi at hl;omega
 |n+1,k,ms,h,hk,j,hj,hl,i,hi=>by
  unfold pi at hl hi ⊢;split at hl
  .rename_i au;rw[if_pos au]at hi ⊢;by_cases e:k=j
   .subst e;obtain⟨-,h2⟩:=BS (f:=f) n (k+1) (ms:=zN f k ms) (j:=k) (zq6 au (JK f k ms));rw[h2,JJ au]at hi;refine oC n (k+1) ?_;unfold zN;rw[hi];exact Bp _ _
   .exact JI hO n (k+1) (Rp hO h) (by omega) j (by omega) hl i hi
  .rename_i au;omega
def Clo(f:CF)(ms:List Nat):Prop:=∀c∈ms,∀i,cD f.ow c=some i->(f.ow.getD i ay).r∈ms
theorem Nw(hO:∀p∈f.ow,p.l<24/\p.r<24){n k:Nat}{ms:List Nat}(h:ep ms)(hk:24<n+k)(hc:∀j,j<k->j<ms.length->∀i,cD f.ow (ms.getD j 0)=some i->(f.ow.getD i ay).r∈ms):Clo f (pi f n k ms):=by
 intro c KP i hi;obtain⟨j,hj,rfl⟩:=mem_iff_getElem.1 KP;have e:(pi f n k ms).getD j 0=(pi f n k ms)[j]:=by rw[getD_eq_getElem?_getD,getElem?_eq_getElem hj];rfl
 by_cases au:k<=j
 .exact JI hO n k h hk j au hj i (by rw[e];exact hi)
 .by_cases s9:j<ms.length
  .obtain⟨-,h2⟩:=BS (f:=f) n k s9;exact oC n k (hc j (by omega) s9 i (by rw[<-h2,e];exact hi))
  .exfalso;cases n with
   |zero=>unfold pi at hj;omega
   |succ n =>
    unfold pi at hj;rw[if_neg (by omega)]at hj;omega
theorem abL(hO:∀p∈f.ow,p.l<24/\p.r<24){ms:List Nat}{p:Pr}(hp:p∈f.ow)(h:ep ms)(hc:Clo f ms):ep (zF f ms p)/\Clo f (zF f ms p)/\p.l∈zF f ms p/\∀d∈ms,d∈zF f ms p:=by
 have h1:=h.me (hO p hp).1;refine⟨GK hO _ _ h1,Nw hO h1 (by omega) (λj hj _ i hi=>?_),oC _ _ (Bp _ _),λd hd=>oC _ _ (uw hd)⟩;rw[Je hj]at hi;refine uw (hc _ ?_ i hi);rw[getD_eq_getElem?_getD,getElem?_eq_getElem hj];exact getElem_mem hj
theorem Q8(hO:∀p∈f.ow,p.l<24/\p.r<24):∀(l:List Pr) {ms:List Nat},(∀p∈l,p∈f.ow)->ep ms->Clo f ms->ep (l.foldl (zF f) ms)/\Clo f (l.foldl (zF f) ms)/\(∀p∈l,p.l∈l.foldl (zF f) ms)/\∀d∈ms,d∈l.foldl (zF f) ms
 |[],ms,_,h,hc=>⟨h,hc,λp hp=>by simp at hp,λd hd=>hd⟩
 |p::r,ms,hl,h,hc=>by
  obtain⟨h1,h2,h3,h4⟩:=abL hO (hl p (by simp)) h hc;obtain⟨g1,g2,g3,g4⟩:=Q8 hO r (λq hq=>hl q (by simp[hq])) h1 h2;rw[foldl_cons];exact⟨g1,g2,λq hq=>by
   rcases mem_cons.1 hq with rfl|hq
   .exact g4 _ h3
   .exact g3 q hq,λd hd=>g4 d (h4 d hd)⟩
theorem Bm:∀(l:List Nat) {ms:List Nat},(∀c∈l,c<24)->ep ms->ep (l.foldl iS ms)/\(∀c∈l,c∈l.foldl iS ms)/\∀d∈ms,d∈l.foldl iS ms
 |[],ms,_,h=>⟨h,λc hc=>by simp at hc,λd hd=>hd⟩
 |c::r,ms,hl,h=>by
  obtain⟨g1,g2,g3⟩:=Bm r (λd hd=>hl d (by simp[hd])) (h.me (hl c (by simp)));rw[foldl_cons];exact⟨g1,λd hd=>by
   rcases mem_cons.1 hd with rfl|hd
   .exact g3 _ (Bp _ _)
   .exact g2 d hd,λd hd=>g3 d (uw hd)⟩
theorem rp(hO:∀p∈f.ow,p.l<24/\p.r<24)(hC:∀c∈kj f,c<24):ep (df f)/\Clo f (df f)/\(∀c∈kj f,c∈df f)/\∀p∈f.ow,p.l∈df f:=by
 obtain⟨h1,h2,-⟩:=Bm (kj f) hC ep.nil;have h3:=Nw hO (n:=25) (k:=0) h1 (by omega) (λj hj=>by omega);obtain⟨g1,g2,g3,g4⟩:=Q8 hO f.ow (λp hp=>hp) (GK hO 25 0 h1) h3;exact⟨g1,g2,λc hc=>g4 c (oC _ _ (h2 c hc)),g3⟩
theorem lG(hO:∀p∈f.ow,p.l<24/\p.r<24)(hC:∀c∈kj f,c<24)(hN:lO f.ow):∀c∈bL f,c∈df f:=by
 obtain⟨-,g2,g3,g4⟩:=rp hO hC;intro c hc;unfold bL at hc;rw[mem_append,mem_flatMap]at hc;rcases hc with hc|⟨p,hp,hc⟩
 .exact g3 c hc
 .simp only[mem_cons,not_mem_nil,or_false]at hc;rcases hc with rfl|rfl
  .exact g4 p hp
  .obtain⟨i,h1,h2⟩:=pL hN hp;have:=g2 _ (g4 p hp) i h1;rwa [h2]at this
end
def BY(p:Pr)(l:List Pr):Nat->Nat
 |0=>0
 |k+1=>if Mb p (l.getD k ay)=true then BY p l k else k+1
def fW(l:List Pr)(p:Pr):List Pr:=l.take (BY p l l.length)++p::l.drop (BY p l l.length)
def DW(p q:Pr):Bool:=decide (p.k=q.k)&&decide (p.l=q.l)&&decide (p.r=q.r)
def l5(a:List Pr)(p:Pr):List Pr:=if a=[]\/DW p (a.getD (a.length-1) ay)=false then a++[p] else a
def mm(l:List Pr):List Pr:=(l.foldl fW []).foldl l5 []
theorem uH{p q:Pr}:DW p q=true↔p=q:=by
 unfold DW;cases p;cases q
 simp[and_assoc]
theorem GQ(p:Pr)(l:List Pr):∀k,BY p l k<=k
 |0=>zq4 _
 |k+1=>by
  unfold BY;split
  .exact Nat.le_succ_of_le (GQ p l k)
  .exact zq4 _
theorem RU(p:Pr)(l:List Pr):∀k j,BY p l k<=j->j<k->Mb p (l.getD j ay)=true
 |0,j,_,h=>by omega
 |k+1,j,h1,h2=>by
  unfold BY at h1;split at h1
  .rename_i h;by_cases e:j=k
   .rw[e];exact h
   .exact RU p l k j h1 (by omega)
  .omega
theorem RT(p:Pr)(l:List Pr):∀k,0<BY p l k->Mb p (l.getD (BY p l k-1) ay)=false
 |0,h=>by simp[BY]at h
 |k+1,h=>by
  unfold BY at h ⊢;split
  .rename_i hb;rw[if_pos hb]at h;exact RT p l k h
  .rename_i hb;simpa using hb
def Cv(p q:Pr):Prop:=p.l<q.l\/(p.l=q.l/\p.r<=q.r)
def EL(p q:Pr):Prop:=p.l<q.l\/(p.l=q.l/\p.r<q.r)
theorem Hs{p q:Pr}:Mb p q=true↔EL p q:=by simp[Mb,EL]
theorem Tw{p q:Pr}:Mb p q=false↔Cv q p:=by
 rw[<-Bool.not_eq_true,Hs];unfold EL Cv;omega
theorem zr{p q r:Pr}(h1:Cv p q)(h2:Cv q r):Cv p r:=by unfold Cv at *;omega
theorem ahd{p q:Pr}(h:EL p q):Cv p q:=by unfold EL Cv at *;omega
theorem Ll{p q r:Pr}(h1:EL p q)(h2:EL q r):EL p r:=by unfold EL at *;omega
theorem aY{l:List Pr}{j:Nat}(h:j<l.length):l.getD j ay∈l:=by
 rw[getD_eq_getElem?_getD,getElem?_eq_getElem h];exact getElem_mem h
theorem bX{l:List Pr}{j:Nat}(h:j<l.length):l.getD j ay=l[j]:=by
 rw[getD_eq_getElem?_getD,getElem?_eq_getElem h];rfl
theorem PR{l:List Pr}{p q:Pr}:q∈fW l p↔q=p\/q∈l:=by
 unfold fW;rw[mem_append,mem_cons];constructor
 .rintro(h|h|h)
  .exact zq1 (mem_of_mem_take h)
  .exact zq0 h
  .exact zq1 (mem_of_mem_drop h)
 .rintro(h|h)
  .exact zq1 (zq0 h)
  .rw[<-take_append_drop (BY p l l.length) l,mem_append]at h;rcases h with h|h
   .exact zq0 h
   .exact zq1 (zq1 h)
theorem PQ(l:List Pr)(p:Pr):(fW l p).length=l.length+1:=by
 unfold fW;have:=GQ p l l.length;simp only[length_append,length_take,length_cons,length_drop];omega
theorem PT{l:List Pr}{p:Pr}(h:l.Pairwise Cv):(fW l p).Pairwise Cv:=by
 have m8:=GQ p l l.length;have au:=RU p l l.length;have cW:=RT p l l.length;unfold fW;generalize hk:BY p l l.length=k at *;have hd:∀q∈l.drop k,Cv p q:=by
  intro q hq;obtain⟨j,hj,rfl⟩:=mem_iff_getElem.1 hq;rw[length_drop]at hj;rw[getElem_drop,<-bX (by omega)];exact ahd (Hs.1 (au (k+j) (by omega) (by omega)))
 have ht:∀q∈l.take k,Cv q p:=by
  intro q hq;obtain⟨j,hj,rfl⟩:=mem_iff_getElem.1 hq;rw[length_take]at hj;have h1:=Tw.1 (cW (by omega));rw[getElem_take];by_cases e:j=k-1
  .rw[bX (by omega)]at h1;subst e;exact h1
  .refine zr ?_ h1;rw[bX (by omega)];exact pairwise_iff_getElem.1 h j (k-1) (by omega) (by omega) (by omega)
 rw[pairwise_append,pairwise_cons];refine⟨h.sublist (take_sublist _ _),⟨hd,h.sublist (drop_sublist _ _)⟩,?_⟩;intro a ha b hb;rcases mem_cons.1 hb with rfl|hb
 .exact ht a ha
 .exact zr (ht a ha) (hd b hb)
theorem qP:∀(l:List Pr) {a:List Pr},a.Pairwise Cv->(l.foldl fW a).Pairwise Cv/\(∀q,q∈l.foldl fW a↔q∈a\/q∈l)/\(l.foldl fW a).length=a.length+l.length
 |[],a,h=>⟨h,λq=>by simp,by simp⟩
 |p::r,a,h=>by
  obtain⟨h1,h2,h3⟩:=qP r (PT (p:=p) h);rw[foldl_cons];refine⟨h1,λq=>?_,?_⟩
  .rw[h2,PR,mem_cons];constructor
   .rintro((h|h)|h)
    .exact zq1 (zq0 h)
    .exact zq0 h
    .exact zq1 (zq1 h)
   .rintro(h|h|h)
    .exact zq0 (zq1 h)
    .exact zq0 (zq0 h)
    .exact zq1 h
  .rw[h3,PQ,length_cons];omega
theorem NJ{a:List Pr}{p:Pr}:p∈l5 a p:=by
 unfold l5;split
 .simp
 .rename_i h;rw[not_or]at h;have h1:DW p (a.getD (a.length-1) ay)=true:=by simpa using h.2
  rw[uH]at h1;rw[h1];exact aY (by have:=length_pos_iff.2 h.1;omega)
theorem TJ{a:List Pr}{p q:Pr}(h:q∈a):q∈l5 a p:=by unfold l5;split;exact mem_append_left _ h;exact h
theorem Ia:∀(l:List Pr) {a:List Pr} {q:Pr},q∈l.foldl l5 a↔q∈a\/q∈l
 |[],a,q=>by simp
 |p::r,a,q=>by
  rw[foldl_cons,Ia r,mem_cons];constructor
  .rintro(h|h)
   .unfold l5 at h;split at h
    .rw[mem_append,mem_singleton]at h;rcases h with h|h
     .exact zq0 h
     .exact zq1 (zq0 h)
    .exact zq0 h
   .exact zq1 (zq1 h)
  .rintro(h|rfl|h)
   .exact zq0 (TJ h)
   .exact zq0 NJ
   .exact zq1 h
theorem dG{l:List Pr}{q:Pr}:q∈mm l↔q∈l:=by
 unfold mm;rw[Ia,(qP l (a:=[]) List.Pairwise.nil).2.1];simp
theorem Am{K:Nat}:∀(l:List Pr) {a:List Pr},a.Pairwise EL->l.Pairwise Cv->(∀p∈a,∀q∈l,Cv p q)->(∀p∈a,p.k=K)->(∀p∈l,p.k=K)->(l.foldl l5 a).Pairwise EL
 |[],a,h,_,_,_,_=>h
 |p::r,a,h,hl,m0,ha,hk=>by
  rw[foldl_cons];have h1:=pairwise_cons.1 hl;by_cases hn:a=[]\/DW p (a.getD (a.length-1) ay)=false
  .have e:l5 a p=a++[p]:=(by unfold l5;rw[if_pos hn]);rw[e];refine Am (K:=K) r ?_ h1.2 ?_ ?_ (λq hq=>hk q (by simp[hq]))
   .rw[pairwise_append];refine⟨h,by simp,λx hx y hy=>?_⟩;rw[mem_singleton]at hy;subst hy;have EI:=m0 x hx y (by simp);rcases hn with hn|hn
    .subst hn;simp at hx
    .obtain⟨j,hj,rfl⟩:=mem_iff_getElem.1 hx;have hz:Cv (a.getD (a.length-1) ay) y:=m0 _ (aY (by omega)) y (by simp);have hzl:EL (a.getD (a.length-1) ay) y:=by
      have Pm:y.k=K:=hk y (by simp);have mK:=ha _ (aY (l:=a) (j:=a.length-1) (by omega));generalize a.getD (a.length-1) ay=z at hn hz mK;have aH:y≠z:=λe=>by rw[uH.2 e]at hn;cases hn
      unfold Cv at hz;unfold EL;rcases hz with h|⟨h,h'⟩
      .exact zq0 h
      .right;refine⟨h,?_⟩;by_cases hr:z.r=y.r
       .exfalso;apply aH;cases y;cases z
        simp_all
       .omega
     by_cases e:j=a.length-1
     .subst e;rwa [bX (by omega)]at hzl
     .refine Ll ?_ hzl;rw[bX (by omega)];exact pairwise_iff_getElem.1 h j (a.length-1) hj (by omega) (by omega)
   .intro x hx y hy;rw[mem_append,mem_singleton]at hx;rcases hx with hx|rfl
    .exact m0 x hx y (by simp[hy])
    .exact h1.1 y hy
   .intro x hx;rw[mem_append,mem_singleton]at hx;rcases hx with hx|rfl
    .exact ha x hx
    .exact hk x (by simp)
  .have e:l5 a p=a:=(by unfold l5;rw[if_neg hn]);rw[e];exact Am (K:=K) r h h1.2 (λx hx y hy=>m0 x hx y (by simp[hy])) ha (λq hq=>hk q (by simp[hq]))
theorem V6{K:Nat}{l:List Pr}(hk:∀p∈l,p.k=K):(mm l).Pairwise EL:=by
 obtain⟨h1,h2,-⟩:=qP l (a:=[]) List.Pairwise.nil;refine Am (K:=K) _ List.Pairwise.nil h1 (λp hp=>by simp at hp) (λp hp=>by simp at hp) (λp hp=>hk p ?_);have:=(h2 p).1 hp;simpa using this
theorem NF:∀(l:List Pr) {a:List Pr},lO (a++l)->l.foldl l5 a=a++l
 |[],a,_=>by simp
 |p::r,a,h=>by
  have e:l5 a p=a++[p]:=by
   unfold l5;rw[if_pos];by_cases ha:a=[]
   .exact zq0 ha
   .right;cases hx:DW p (a.getD (a.length-1) ay) with
    |false=>rfl
    |true =>
     exfalso;rw[uH]at hx;have hm:=aY (l:=a) (j:=a.length-1) (by have:=length_pos_iff.2 ha;omega);rw[<-hx]at hm;unfold lO at h;rw[map_append,nodup_append]at h;exact h.2.2 p.l (mem_map_of_mem (f:=(·.l)) hm) p.l (by simp) rfl
  rw[foldl_cons,e,NF r (by rw[append_assoc];exact h),append_assoc];rfl
theorem Lf(l:List Pr)(p:Pr):(fW l p).Perm (p::l):=by
 unfold fW;refine perm_middle.trans ?_;rw[take_append_drop]
theorem zo:∀(l:List Pr) {a:List Pr},(l.foldl fW a).Perm (a++l)
 |[],a=>by simp
 |p::r,a=>by
  rw[foldl_cons];refine(zo r).trans ?_;refine((Lf a p).append_right r).trans ?_;exact(perm_middle (l₁:=a) (l₂:=r) (a:=p)).symm
theorem rt{l:List Pr}(h:lO l):(mm l).Perm l:=by
 unfold mm;have h1:=zo l (a:=[]);rw[NF _ (by unfold lO at h ⊢;rw[nil_append];exact((h1.map (·.l)).nodup_iff).2 (by simpa using h)),nil_append];simpa using h1
theorem V7{l:List Pr}(h:l.Pairwise EL)(hb:∀p∈l,p.l<24/\p.r<24):l.length<=576:=by
 have h1:(l.map (λp=>p.l*24+p.r)).Nodup:=by
  unfold List.Nodup;rw[pairwise_map];refine List.Pairwise.imp_of_mem ?_ h;intro a b ha xN se e;have:=hb a ha;have:=hb b xN;unfold EL at se;omega
 have:=List.Nodup.length_le_of_subset h1 (l₂:=range 576) (λc hc=>by
  obtain⟨p,hp,rfl⟩:=mem_map.1 hc;have:=hb p hp;rw[mem_range];omega)
 simpa using this
def jd(p:Pr):Pr:=if p.r<p.l then ⟨p.k,p.r,p.l⟩ else p
def orF(f:CF):CF:=⟨f.cl,mm (f.ap.map jd),mm f.ow⟩
def aQ(f:CF):CF:=orF (wU (cJ f))
structure aj(f:CF):Prop where
 c5:f.cl.length=5
 cl:∀c∈kj f,c<24
 ow:∀p∈f.ow,p.l<24/\p.r<24
 ap:∀p∈f.ap,p.l<24/\p.r<24
 lf:lO f.ow
 kd:∀p∈f.ap,p.k=2
theorem aj.owLen{f:CF}(h:aj f):f.ow.length<=24:=by
 have h0:ep (f.ow.map (·.l)):=⟨h.lf,λc hc=>by obtain⟨p,hp,rfl⟩:=mem_map.1 hc;exact(h.ow p hp).1⟩;simpa using h0.len
theorem GE(f:CF):df (cJ f)=df f:=by
 have e:∀k ms,zN (cJ f) k ms=zN f k ms:=λk ms=>rfl;have e2:∀n k ms,pi (cJ f) n k ms=pi f n k ms:=by
  intro n;induction n with
  |zero=>intro k ms;rfl
  |succ n ih=>intro k ms;unfold pi;rw[e,ih]
 have e3:zF (cJ f)=zF f:=by funext ms p;unfold zF;rw[e2]
 unfold df;rw[e2,e3];rfl
theorem aj.fg{f:CF}(h:aj f):aj (cJ f):=⟨h.c5,h.cl,h.ow,λp hp=>h.ap p ((mem_filter.1 hp).1),h.lf,λp hp=>h.kd p ((mem_filter.1 hp).1)⟩
theorem iz{f:CF}{p:Pr}(hp:p∈(cJ f).ap):p.l∈bL (cJ f)/\p.r∈bL (cJ f):=by
 have:=(mem_filter.1 hp).2;unfold yd at this;simp only[Bool.and_eq_true,decide_eq_true_eq]at this;exact this.1
theorem m9{ms:List Nat}(h:ep ms){c:Nat}(hc:c∈ms):ms.idxOf c<24:=zq6 (idxOf_lt_length_iff.2 hc) h.len
theorem AT{ms:List Nat}{c d:Nat}(hc:c∈ms)(hd:d∈ms)(e:ms.idxOf c=ms.idxOf d):c=d:=by
 have h1:=getElem_idxOf (idxOf_lt_length_iff.2 hc);have h2:=getElem_idxOf (idxOf_lt_length_iff.2 hd);rw[<-h1,<-h2];simp only[e]
theorem Hx{f:CF}(g:Nat->Nat)(ap ow:List Pr):kj ⟨(kj f).map g,ap,ow⟩=(kj f).map g:=rfl
theorem aj.rn{f:CF}(h:aj f)(hl:∀p∈f.ap,p.l∈bL f/\p.r∈bL f):aj (wU f):=by
 have hM:=(rp h.ow h.cl).1;have hL:=lG h.ow h.cl h.lf;refine⟨rfl,?_,?_,?_,?_,?_⟩
 .intro c hc;unfold wU at hc;rw[Hx]at hc;obtain⟨d,hd,rfl⟩:=mem_map.1 hc;exact m9 hM (hL d (mem_append_left _ hd))
 .intro p hp;obtain⟨q,hq,rfl⟩:=mem_map.1 hp;have hq1:q.l∈bL f:=mem_append_right _ (mem_flatMap.2 ⟨q,hq,by simp⟩);have hq2:q.r∈bL f:=mem_append_right _ (mem_flatMap.2 ⟨q,hq,by simp⟩);exact⟨m9 hM (hL _ hq1),m9 hM (hL _ hq2)⟩
 .intro p hp;obtain⟨q,hq,rfl⟩:=mem_map.1 hp;exact⟨m9 hM (hL _ (hl q hq).1),m9 hM (hL _ (hl q hq).2)⟩
 .have h2:=h.lf;unfold lO wU at *;simp only[map_map];have e:((λx:Pr=>x.l) ∘ jk (df f))=(λc=>(df f).idxOf c) ∘ (λx:Pr=>x.l):=rfl;rw[e,<-map_map];unfold List.Nodup at h2 ⊢;rw[pairwise_map];refine List.Pairwise.imp_of_mem ?_ h2;intro a b ha hb se e2;obtain⟨p,hp,rfl⟩:=mem_map.1 ha;obtain⟨q,hq,rfl⟩:=mem_map.1 hb;exact se (AT (hL _ (mem_append_right _ (mem_flatMap.2 ⟨p,hp,by simp⟩))) (hL _ (mem_append_right _ (mem_flatMap.2 ⟨q,hq,by simp⟩))) e2)
 .intro p hp;obtain⟨q,hq,rfl⟩:=mem_map.1 hp;exact h.kd q hq
theorem X3(p:Pr):(jd p).k=p.k:=by unfold jd;split <;> rfl
theorem ab6{p:Pr}(h:p.l<24/\p.r<24):(jd p).l<24/\(jd p).r<24:=by unfold jd;split;exact⟨h.2,h.1⟩;exact h
theorem aj.or{f:CF}(h:aj f):aj (orF f):=by
 refine⟨h.c5,h.cl,λp hp=>h.ow p (dG.1 hp),?_,?_,?_⟩
 .intro p hp;obtain⟨q,hq,rfl⟩:=mem_map.1 (dG.1 hp);exact ab6 (h.ap q hq)
 .have:=(rt h.lf).map (·.l);exact this.nodup_iff.2 h.lf
 .intro p hp;obtain⟨q,hq,rfl⟩:=mem_map.1 (dG.1 hp);rw[X3];exact h.kd q hq
theorem aj.td{f:CF}(h:aj f):aj (aQ f):=(h.fg.rn (λ_ hp=>iz hp)).or
theorem Vy{f:CF}(h:aj f):(orF f).ap.length<=576:=by
 refine V7 (V6 (K:=2) ?_) (h.or).ap;intro p hp;obtain⟨q,hq,rfl⟩:=mem_map.1 hp;rw[X3];exact h.kd q hq
theorem Wc{f:CF}(h:aj f):(aQ f).ap.length<=576:=Vy (h.fg.rn (λ_ hp=>iz hp))
def mM(s:List Nat)(p:Pr):List Nat:=if p.l∈s/\p.r ∉ s then s++[p.r] else s
def wS(f:CF)(s:List Nat):List Nat:=f.ow.foldl mM s
def LI(f:CF):Nat->List Nat->List Nat
 |0,s=>s
 |n+1,s=>if (wS f s).length=s.length then s else LI f n (wS f s)
def QT(f:CF):List Nat:=[f.cl.getD 1 0,f.cl.getD 2 0,f.cl.getD 3 0,f.cl.getD 4 0].foldl iS []
def jx(f:CF):List Nat:=LI f 25 (QT f)
def EP(f:CF):List Bool:=(range 24).map (λc=>decide (c∈jx f))
theorem abB{s:List Nat}{p:Pr}(h:ep s)(hp:p.r<24):ep (mM s p):=by
 unfold mM;split
 .rename_i hc;have:=h.me hp;unfold iS at this;rwa [if_neg hc.2]at this
 .exact h
theorem BJ(s:List Nat)(p:Pr):s.length<=(mM s p).length:=by unfold mM;split <;> simp
theorem GA:∀(l:List Pr) {s:List Nat},ep s->(∀p∈l,p.r<24)->ep (l.foldl mM s)/\s.length<=(l.foldl mM s).length
 |[],s,h,_=>⟨h,zq4 _⟩
 |p::r,s,h,hl=>by
  obtain⟨h1,h2⟩:=GA r (abB h (hl p (by simp))) (λq hq=>hl q (by simp[hq]));exact⟨h1,zq3 (BJ s p) h2⟩
theorem abw{f:CF}(h:∀c∈kj f,c<24):ep (QT f):=(Bm _ (λc hc=>h c (by unfold kj;simp at hc ⊢;rcases hc with h|h|h|h <;> simp[h])) ep.nil).1
