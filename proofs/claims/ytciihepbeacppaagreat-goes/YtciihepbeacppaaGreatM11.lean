import Derived.Test.YtciihepbeacppaaGreatM10
set_option maxRecDepth 100000
set_option maxHeartbeats 0
namespace Go.Proofs.YtciihepbeacppaaGreat
open Tryz Go.RowKit List World Below
set_option linter.unusedVariables false
def br(g:Pr->Pr)(l:List Pr)(k:Nat):List Pr:=(l.take k).map g++l.drop k
theorem iE(g:Pr->Pr)(l:List Pr)(k:Nat):(br g l k).length=l.length:=by simp[br];omega
theorem jE{g:Pr->Pr}{l:List Pr}{k:Nat}(hk:k<l.length):(br g l k).getD k az=l.getD k az:=by
 rw[iI hk];unfold br;rw[getD_eq_getElem?_getD,getElem?_append_right (by simp;omega)];simp[hk,Nat.min_eq_left (Nat.le_of_lt hk)]
theorem jF{g:Pr->Pr}{l:List Pr}{k:Nat}(hk:k<l.length):br g l (k+1)=(br g l k).set k (g (l.getD k az)):=by
 rw[iI hk];unfold br;have e:l.drop k=l[k]::l.drop (k+1):=drop_eq_getElem_cons hk;have e2:(l.take (k+1)).map g=(l.take k).map g++[g l[k]]:=by
  rw[take_add_one,getElem?_eq_getElem hk,map_append];rfl
 have e3:((l.take k).map g).length=k:=by simp;omega
 rw[e2,e,set_append_right _ _ (by omega),e3,Nat.sub_self,set_cons_zero,append_assoc];rfl
theorem tM{g:Pr->Pr}{l:List Pr}{k:Nat}(hk:l.length<=k):br g l k=l.map g:=by
 unfold br;rw[take_of_length_le hk,drop_eq_nil_of_le hk,append_nil]
theorem xB{l:List Pr}{k:Nat}(hk:k<l.length):l.set k (l.getD k az)=l:=by
 rw[iI hk,set_getElem_self]
def fo1(m e:Nat)(p:Pr):Pr:=if p.r=m then ⟨4,p.l,e⟩ else p
def yo(f:CF)(k:Nat):CF:={ f with ow:=qD (f.ow.map (fo1 (f.ow.getD k az).l (f.ow.getD k az).r)) k }
def kk:Nat->CF->CF
 |0,f=>f
 |n+1,f=>match JS f with|none=>f|some k=>kk n (yo f k)
def Mi(f:CF):CF:=kk f.ow.length f
theorem Ph(l:List Pr)(i k:Nat):(oU l i k).length=if i<k then k-1 else k:=by
 induction k with
 |zero=>simp[oU]
 |succ k ih =>
  rw[ux,length_append,ih];by_cases h:k=i
  .rw[if_pos h,if_neg (by omega),if_pos (by omega)];simp
  .rw[if_neg h];by_cases h2:i<k
   .rw[if_pos h2,if_pos (by omega)];simp;omega
   .rw[if_neg h2,if_neg (by omega)];simp
theorem Uv{l:List Pr}{k:Nat}(hk:k<l.length):(qD l k).length=l.length-1:=by
 unfold qD;rw[Ph,if_pos hk]
theorem Z3{f:CF}{k:Nat}(h:JS f=some k):k<f.ow.length:=by
 unfold JS at h;rw[findIdx?_eq_some_iff_getElem]at h;exact h.1
section
variable {w:World} {A:Nat} {f:CF} {av ov:Value}
theorem Ml(h:Fm w A f av ov)(ho:f.ow.length<=100000):Calls prog 228 #[.pointer (some ⟨A,0,none⟩)] w λe w'=>e=.returned (.tuple #[])/\∃ov',Fm w' A (Mi f) av ov'/\am (aG A av ov) w (aG A av ov') w':=by
 have qe:=ab (B8 h.is ho);have H:=ab h;clear h;go_enter func228,ntmps228;go_wp2_with fail
 refine(uh qe).mono ?_;rintro e w1 ⟨rfl,aO⟩;have bR:Hid (Fm w1 A f av ov/\am (aG A av ov) w (aG A av ov) w1/\kk f.ow.length f=Mi f):=ab ⟨(uh H).below aO,am.ofBw aO,rfl⟩;clear aO qe;go_wp2_with fail
 go_loopg [2] f.ow.length (λgn kv wx=>∃(F:CF) (ov':Value),F.ow.length=gn/\gn<=f.ow.length/\kv=.int .i64 (eH (JS F))/\Hid (Fm wx A F av ov'/\am (aG A av ov) w (aG A av ov') wx/\kk gn F=Mi f))
 case atStart=>exact⟨f,ov,rfl,zq4 _,rfl,bR⟩
 case round =>
  clear bR;obtain⟨F,ov',dg,hgn,rfl,hI⟩:=hrel;obtain⟨G,hG⟩:∃G,G=gk:=⟨_,rfl⟩;cases rJ:JS F with
  |none =>
   have HE:Hid (F=Mi f):=ab (by
    have:=(uh hI).2.2;rw[<-this];cases gk with
    |zero=>rfl
    |succ n=>simp[kk,rJ])
   clear rJ;go_wp2_with fail
   go_end0
   exact⟨rfl,ov',by rw[<-uh HE];exact(uh hI).1,(uh hI).2.1⟩
  |some k =>
   have gy:=Z3 rJ;have nz:Hid (kk (gk-1) (yo F k)=Mi f):=ab (by
    have h1:=(uh hI).2.2;rw[<-h1,show gk=gk-1+1 by omega];simp[kk,rJ])
   obtain⟨p,hp⟩:∃p,p=F.ow.getD k az:=⟨_,rfl⟩;have J3:Hid (yo F k={ F with ow:=qD (F.ow.map (fo1 p.l p.r)) k }):=ab (by unfold yo;rw[<-hp]);obtain⟨g,cap,cM,iw,fs⟩:=aC (uh hI).1.is.ow gy;subst cM;have c6:=(uh hI).1.is.c6;obtain⟨-,x1,x2⟩:=aA (uh hI).1.is.ow gy;rw[<-hp]at x1 x2;have d0:decide ((0:Int)<=(k:Int))=true:=(by simp);have i1:(0:Int)<=(k:Int):=(by omega);have i2:(k:Int)<(F.ow.length:Int):=(by omega);have dy:Hid (Fm wr A { F with ow:=br (fo1 p.l p.r) F.ow 0 } av (.slice (some ⟨g,0,none⟩) F.ow.length cap)/\am (aG A av ov) w (aG A av (.slice (some ⟨g,0,none⟩) F.ow.length cap)) wr):=ab ⟨by simpa[br] using (uh hI).1,(uh hI).2.1⟩;have HLN:=ab dg;clear rJ hp hI dg;rw[show eH (some k)=(k:Int) from rfl];go_wp2_with fail
   go_loopg [5] F.ow.length (λgn i wx=>∃(j:Nat),j+gn=F.ow.length/\i=.int .i64 j/\Hid (Fm wx A { F with ow:=br (fo1 p.l p.r) F.ow j } av (.slice (some ⟨g,0,none⟩) F.ow.length cap)/\am (aG A av ov) w (aG A av (.slice (some ⟨g,0,none⟩) F.ow.length cap)) wx))
   case atStart=>exact⟨0,by omega,rfl,dy⟩
   case round =>
    clear dy x1 x2 c6;obtain⟨j,wU,rfl,hJ⟩:=hrel;obtain⟨G2,AY⟩:∃G2,G2=gk:=⟨_,rfl⟩;have c6:=(uh hJ).1.is.c6;have dl:=iE (fo1 p.l p.r) F.ow j;by_cases ar:j<F.ow.length
    .have hd:decide ((j:Int)<(F.ow.length:Int))=true:=(by simp;omega);have aF:wr.ownsRow 0 182 3 (.slice (some ⟨g,0,none⟩) F.ow.length cap) F.ow.length (aj (br (fo1 p.l p.r) F.ow j)):=by
      have:=(uh hJ).1.is.ow;rwa [show({ F with ow:=br (fo1 p.l p.r) F.ow j }:CF).ow.length=F.ow.length from dl]at this
     have tz:wr.ownsRow 0 182 3 (.slice (some ⟨g,0,none⟩) (br (fo1 p.l p.r) F.ow j).length cap) (br (fo1 p.l p.r) F.ow j).length (aj (br (fo1 p.l p.r) F.ow j)):=(by rw[dl];exact aF);obtain⟨y0,-,y2⟩:=aA tz (i:=j) (by omega);obtain⟨q,hq⟩:∃q,q=F.ow.getD j az:=⟨_,rfl⟩;rw[jE ar,<-hq]at y0 y2;have z0:=aF.frozenAt (j*3);have k1:(0:Int)<=(j:Int):=(by omega);have k2:(j:Int)<(F.ow.length:Int):=(by omega);by_cases e1:q.r=p.l
     .have b1:((q.r:Int)==(p.l:Int))=true:=(by simp[e1]);have r1:=(aF.stored (j*3) (.int .i64 4)).1;rw[show(Value.int .i64 4)=Value.int .i64 ((4:Nat):Int) from rfl,j7 (by omega),jE ar,<-hq]at r1;have z2:(wr.setCell ⟨g,j*3,none⟩ (.int .i64 4)).frozen? ⟨g,j*3+2,none⟩=false:=r1.frozenAt (j*3+2);have y2':(wr.setCell ⟨g,j*3,none⟩ (.int .i64 4)).cell? ⟨g,j*3+2,none⟩=some (.int .i64 (q.r:Int)):=(by rw[cell?_setCell_other _ _ _ _ (by simp)];exact y2);have r2:=(r1.stored (j*3+2) (.int .i64 (p.r:Int))).1;rw[ej (by simp;omega)]at r2;have e2:((br (fo1 p.l p.r) F.ow j).set j ⟨4,q.l,q.r⟩).set j ⟨(((br (fo1 p.l p.r) F.ow j).set j ⟨4,q.l,q.r⟩).getD j az).k,(((br (fo1 p.l p.r) F.ow j).set j ⟨4,q.l,q.r⟩).getD j az).l,p.r⟩=br (fo1 p.l p.r) F.ow (j+1):=by
       rw[jF ar,<-hq,set_set];have:((br (fo1 p.l p.r) F.ow j).set j ⟨4,q.l,q.r⟩).getD j az=⟨4,q.l,q.r⟩:=by
        rw[getD_eq_getElem?_getD,getElem?_set_self (by omega)];rfl
       rw[this];unfold fo1;rw[if_pos e1]
      rw[e2]at r2;have hs:am (Value.slice (some ⟨g,0,none⟩) F.ow.length cap).ownBlock.toList wr (Value.slice (some ⟨g,0,none⟩) F.ow.length cap).ownBlock.toList ((wr.setCell ⟨g,j*3,none⟩ (.int .i64 4)).setCell ⟨g,j*3+2,none⟩ (.int .i64 (p.r:Int))):=((am.refl _ _).setCell (p:=⟨g,j*3,none⟩) (zq0 (by simp[Value.ownBlock])) _).setCell (p:=⟨g,j*3+2,none⟩) (zq0 (by simp[Value.ownBlock])) _;have hN:=(uh hJ).1.newRow (ow':=br (fo1 p.l p.r) F.ow (j+1)) (by rw[iE,iE]) (by rw[show({ F with ow:=br (fo1 p.l p.r) F.ow j }:CF).ow.length=F.ow.length from dl];exact r2) hs;have c6':(wr.setCell ⟨g,j*3,none⟩ (.int .i64 4)).cell? ⟨A,6,none⟩=some (.slice (some ⟨g,0,none⟩) F.ow.length cap):=by
       rw[cell?_setCell_other _ _ _ _ (by intro e;have:=(uh hJ).1.nds.2.1;simp at e;exact this (by rw[e.1];rfl))];exact c6
      have HN:Hid (Fm ((wr.setCell ⟨g,j*3,none⟩ (.int .i64 4)).setCell ⟨g,j*3+2,none⟩ (.int .i64 (p.r:Int))) A { F with ow:=br (fo1 p.l p.r) F.ow (j+1) } av (.slice (some ⟨g,0,none⟩) F.ow.length cap)/\am (aG A av ov) w (aG A av (.slice (some ⟨g,0,none⟩) F.ow.length cap)) ((wr.setCell ⟨g,j*3,none⟩ (.int .i64 4)).setCell ⟨g,j*3+2,none⟩ (.int .i64 (p.r:Int)))):=ab ⟨hN.1,(uh hJ).2.trans hN.2⟩;clear e1 r1 r2 e2 hs hN aF tz hq dl hJ;go_wp2_with fail
      go_roundg (G2-1)
      case rel=>exact⟨j+1,by omega,by go_num,HN⟩
      case measure=>omega
     .have b1:((q.r:Int)==(p.l:Int))=false:=(by simp;omega);have HE:Hid (br (fo1 p.l p.r) F.ow (j+1)=br (fo1 p.l p.r) F.ow j):=ab (by
       rw[jF ar,<-hq,show fo1 p.l p.r q=q from if_neg e1];have h1:=xB (l:=br (fo1 p.l p.r) F.ow j) (k:=j) (by omega);rw[jE ar,<-hq]at h1;exact h1)
      clear e1 aF tz hq dl;go_wp2_with fail
      go_roundg (G2-1)
      case rel=>exact⟨j+1,by omega,by go_num,ab (by rw[uh HE];exact uh hJ)⟩
      case measure=>omega
    .have hd:decide ((j:Int)<(F.ow.length:Int))=false:=(by simp;omega);have hF:Fm wr A { F with ow:=F.ow.map (fo1 p.l p.r) } av (.slice (some ⟨g,0,none⟩) F.ow.length cap):=by
      have:=(uh hJ).1;rwa [tM (by omega)]at this
     have HT:=ab (wJ hF (by simp;have:=uh HLN;omega) k);have bA:=ab (uh hJ).2;clear hF dl hJ;go_wp2_with fail
     refine(uh HT).mono ?_;rintro e w2 ⟨rfl,ov2,mE,ce⟩;have uQ:(qD (F.ow.map (fo1 p.l p.r)) k).length=F.ow.length-1:=(by rw[Uv (by simpa using gy)];simp);have bz:=ab (B8 mE.is (by show(qD (F.ow.map (fo1 p.l p.r)) k).length<=100000;have:=uh HLN;omega));have se:=ab mE;have QM:=ab ((uh bA).trans ce);have HL2:=ab uQ;clear mE ce uQ HT c6;go_wp2_with fail
     refine(uh bz).mono ?_;rintro e w3 ⟨rfl,bF⟩;have WE:Hid (Fm w3 A (yo F k) av ov2/\am (aG A av ov) w (aG A av ov2) w3):=ab ⟨by rw[uh J3];exact(uh se).below bF,(uh QM).trans (am.ofBw bF)⟩;clear bF bz;go_wp2_with fail
     go_roundg (G-1)
     case rel =>
      have h1:=uh HLN;refine⟨yo F k,ov2,?_,by omega,by rw[uh J3],ab ⟨(uh WE).1,(uh WE).2,?_⟩⟩
      .rw[uh J3];show(qD (F.ow.map (fo1 p.l p.r)) k).length=_;rw[uh HL2];omega
      .rw[hG];exact uh nz
     case measure=>have:=uh HLN;omega
end
def Kc(p q:Pr):Bool:=decide (p.l<q.l)||(decide (p.l=q.l)&&decide (p.r<q.r))
def prV(p:Pr):Value:=.agg #[.int .i64 (p.k:Int),.int .i64 (p.l:Int),.int .i64 (p.r:Int)]
section
variable {w:World}
theorem Dm(p q:Pr):Calls prog 249 #[prV p,prV q] w λe w'=>e=.returned (.bool (Kc p q))/\Below w.heap.size w w':=by
 have HB:Hid (Below w.heap.size w ((w.alloc (.cells #[.int .i64 (p.k:Int),.int .i64 (p.l:Int),.int .i64 (p.r:Int)] 182)).alloc (.cells #[.int .i64 (q.k:Int),.int .i64 (q.l:Int),.int .i64 (q.r:Int)] 182))):=ab (((Below.refl _ _).alloc (zq4 _) _).alloc (by simp) _);unfold prV;obtain⟨b,hb⟩:∃b,b=Kc p q:=⟨_,rfl⟩;rw[<-hb];unfold Kc at hb;obtain⟨pk,pl,pr⟩:=p;obtain⟨qk,ql,qr⟩:=q;simp only at hb ⊢;by_cases h1:pl<ql
 .have HE:Hid (b=true):=ab (by rw[hb];simp[h1]);clear hb;go_enter func249,ntmps249;go_wp2_with fail
  go_ret;exact⟨aw (uh HE).symm,uh HB⟩
 .by_cases h2:pl=ql
  .subst h2;have HE:Hid (b=decide (pr<qr)):=ab (by rw[hb];simp);clear hb h1;go_enter func249,ntmps249;go_wp2_with fail
   go_ret;exact⟨aw (uh HE).symm,uh HB⟩
  .have HE:Hid (b=false):=ab (by rw[hb];simp[h1,h2]);have h3:ql<pl:=(by omega);clear hb h1;go_enter func249,ntmps249;go_wp2_with fail
   go_ret;exact⟨aw (by rw[uh HE];simp;omega),uh HB⟩
theorem AW(a b:Nat):Calls prog 265 #[.int .i64 a,.int .i64 b] w λe w'=>e=.returned (.int .i64 (max a b:Nat))/\w'=w:=by
 by_cases h:b<a
 .have HE:Hid (max a b=a):=ab (by omega);go_enter func265,ntmps265;go_wp2_with fail
  go_ret;exact⟨aQ (by rw[uh HE]),rfl⟩
 .have HE:Hid (max a b=b):=ab (by omega);go_enter func265,ntmps265;go_wp2_with fail
  go_ret;exact⟨aQ (by rw[uh HE]),rfl⟩
end
def oF(m:Nat)(l:List Pr):Nat:=l.foldl (λm p=>max (max m p.l) p.r) m
def nF(f:CF):Nat:=max (max (max (max (max 0 (f.cl.getD 0 0)) (f.cl.getD 1 0)) (f.cl.getD 2 0)) (f.cl.getD 3 0)) (f.cl.getD 4 0)
def aD(f:CF):Nat:=oF (oF (nF f) f.ow) f.ap+1
theorem BP{m:Nat}{l:List Pr}{k:Nat}(hk:k<l.length):oF m (l.take (k+1))=max (max (oF m (l.take k)) (l.getD k az).l) (l.getD k az).r:=by
 rw[iI hk];unfold oF;rw[take_add_one,getElem?_eq_getElem hk,foldl_append];rfl
section
variable {w:World} {A:Nat} {f:CF} {av ov:Value}
theorem sW(h:dm w A f av ov)(ha:f.ap.length<=100000)(ho:f.ow.length<=100000)(hm:aD f<=100000):Calls prog 258 #[.pointer (some ⟨A,0,none⟩)] w λe w'=>e=.returned (.int .i64 (aD f:Nat))/\Below w.heap.size w w':=by
 obtain⟨oa,oc,dB,-,-⟩:=ah h.ow;subst dB;obtain⟨aa,ac,eS,-,-⟩:=ah h.ap;subst eS;have x0:=h.cls (i:=0) (by omega);have x1:=h.cls (i:=1) (by omega);have x2:=h.cls (i:=2) (by omega);have x3:=h.cls (i:=3) (by omega);have x4:=h.cls (i:=4) (by omega);unfold eR at x0 x1 x2 x3 x4;obtain⟨y0,e0⟩:∃y,y=f.cl.getD 0 0:=⟨_,rfl⟩;obtain⟨y1,e1⟩:∃y,y=f.cl.getD 1 0:=⟨_,rfl⟩;obtain⟨y2,e2⟩:∃y,y=f.cl.getD 2 0:=⟨_,rfl⟩;obtain⟨y3,e3⟩:∃y,y=f.cl.getD 3 0:=⟨_,rfl⟩;obtain⟨y4,e4⟩:∃y,y=f.cl.getD 4 0:=⟨_,rfl⟩;have HC:Hid (nF f=max (max (max (max (max 0 y0) y1) y2) y3) y4):=ab (by unfold nF;rw[e0,e1,e2,e3,e4]);rw[<-e0]at x0;rw[<-e1]at x1;rw[<-e2]at x2;rw[<-e3]at x3;rw[<-e4]at x4;have j0:=yI (.int .i64 (y0:Int)) (.int .i64 (y1:Int)) (.int .i64 (y2:Int)) (.int .i64 (y3:Int)) (.int .i64 (y4:Int));have j1:=yJ (.int .i64 (y0:Int)) (.int .i64 (y1:Int)) (.int .i64 (y2:Int)) (.int .i64 (y3:Int)) (.int .i64 (y4:Int));have j2:=yK (.int .i64 (y0:Int)) (.int .i64 (y1:Int)) (.int .i64 (y2:Int)) (.int .i64 (y3:Int)) (.int .i64 (y4:Int));have j3:=yL (.int .i64 (y0:Int)) (.int .i64 (y1:Int)) (.int .i64 (y2:Int)) (.int .i64 (y3:Int)) (.int .i64 (y4:Int));have j4:=yN (.int .i64 (y0:Int)) (.int .i64 (y1:Int)) (.int .i64 (y2:Int)) (.int .i64 (y3:Int)) (.int .i64 (y4:Int));have c6:=h.c6;have c5:=h.c5;have H:=ab h;have HM:=ab hm;have HG:Hid (∀(W:World) (a b:Nat),Calls prog 265 #[.int .i64 a,.int .i64 b] W λe w'=>e=.returned (.int .i64 (max a b:Nat))/\w'=W):=ab (λW a b=>AW a b);clear h e0 e1 e2 e3 e4 hm;go_enter func258,ntmps258;go_wp2_with fail
 go_loop [3,14] (λm i=>∃(k:Nat),k<=5/\i=.int .i64 k/\m=.int .i64 ((([y0,y1,y2,y3,y4].take k).foldl max 0:Nat):Int)) (λ_ i=>5-(intOf i).toNat)
 case atStart=>exact⟨0,zq5 _,rfl,rfl⟩
 case round =>
  obtain⟨k,hk,rfl,rfl⟩:=hrel;obtain⟨m,zX⟩:∃m,m=([y0,y1,y2,y3,y4].take k).foldl max 0:=⟨_,rfl⟩;rw[<-zX];have If:=ab zX;clear zX;have th:k=0\/k=1\/k=2\/k=3\/k=4\/k=5:=by omega
  rcases th with rfl|rfl|rfl|rfl|rfl|rfl
  .go_wp2_with fail
   refine(uh HG _ _ _).mono ?_;rintro e w1 ⟨rfl,rfl⟩;go_wp2_with fail
   go_round
   case rel=>exact⟨1,by omega,by go_num,by rw[uh If];rfl⟩
   case measure=>simp[intOf]
  .go_wp2_with fail
   refine(uh HG _ _ _).mono ?_;rintro e w1 ⟨rfl,rfl⟩;go_wp2_with fail
   go_round
   case rel=>exact⟨2,by omega,by go_num,by rw[uh If];rfl⟩
   case measure=>simp[intOf]
  .go_wp2_with fail
   refine(uh HG _ _ _).mono ?_;rintro e w1 ⟨rfl,rfl⟩;go_wp2_with fail
   go_round
   case rel=>exact⟨3,by omega,by go_num,by rw[uh If];rfl⟩
   case measure=>simp[intOf]
  .go_wp2_with fail
   refine(uh HG _ _ _).mono ?_;rintro e w1 ⟨rfl,rfl⟩;go_wp2_with fail
   go_round
   case rel=>exact⟨4,by omega,by go_num,by rw[uh If];rfl⟩
   case measure=>simp[intOf]
  .go_wp2_with fail
   refine(uh HG _ _ _).mono ?_;rintro e w1 ⟨rfl,rfl⟩;go_wp2_with fail
   go_round
   case rel=>exact⟨5,by omega,by go_num,by rw[uh If];rfl⟩
   case measure=>simp[intOf]
  .have hmc:m=nF f:=(by rw[uh If,uh HC];rfl);have Ia:=ab (Below.refl w.heap.size w);have bA:Hid (m=oF (nF f) (f.ow.take 0)):=ab (by rw[hmc];rfl);clear If hmc j0 j1 j2 j3 j4 x0 x1 x2 x3 x4 HC;go_wp2_with fail
   go_loopw [3,26] (λmv i wx=>∃(k:Nat),k<=f.ow.length/\i=.int .i64 k/\mv=.int .i64 (oF (nF f) (f.ow.take k):Nat)/\Hid (Below w.heap.size w wx)) (λ_ i _=>f.ow.length-(intOf i).toNat)
   case atStart=>exact⟨0,zq5 _,rfl,by rw[<-uh bA],Ia⟩
   case round =>
    clear bA Ia;obtain⟨k,hk,rfl,rfl,hb⟩:=hrel;obtain⟨m,zX⟩:∃m,m=oF (nF f) (f.ow.take k):=⟨_,rfl⟩;rw[<-zX];have hF:=(uh H).below (uh hb);by_cases ar:k<f.ow.length
    .have hd:decide ((k:Int)<(f.ow.length:Int))=true:=(by simp;omega);obtain⟨g,cap,cM,-,-⟩:=aC hF.ow ar;simp only[Value.slice.injEq,true_and]at cM;obtain⟨rfl,rfl⟩:=cM;obtain⟨x0,x1,x2⟩:=aA hF.ow ar;have aE:=BP (m:=nF f) ar;obtain⟨p,hp⟩:∃p,p=f.ow.getD k az:=⟨_,rfl⟩;rw[<-hp]at x0 x1 x2 aE;rw[<-zX]at aE;have bA:=ab aE;have cY:Hid (Below w.heap.size w (wr.alloc (.cells #[.int .i64 (p.k:Int),.int .i64 (p.l:Int),.int .i64 (p.r:Int)] 182))):=ab ((uh hb).alloc (uh hb).size _);have i1:(0:Int)<=(k:Int):=(by omega);have i2:(k:Int)<(f.ow.length:Int):=(by omega);clear hF hp aE zX;go_wp2_with fail
     refine(uh HG _ _ _).mono ?_;rintro e w1 ⟨rfl,rfl⟩;go_wp2_with fail
     refine(uh HG _ _ _).mono ?_;rintro e w1 ⟨rfl,rfl⟩;go_wp2_with fail
     go_roundw
     case rel=>exact⟨k+1,by omega,by go_num,by rw[uh bA,Nat.max_assoc],cY⟩
     case measure=>simp[intOf];omega
    .have hd:decide ((k:Int)<(f.ow.length:Int))=false:=(by simp;omega);have iz:m=oF (oF (nF f) f.ow) (f.ap.take 0):=(by rw[zX,take_of_length_le (by omega)];rfl);have UW:=ab iz;have c5':=hF.c5;clear hF zX iz;go_wp2_with fail
     go_loopw [3,44] (λmv i wx=>∃(k:Nat),k<=f.ap.length/\i=.int .i64 k/\mv=.int .i64 (oF (oF (nF f) f.ow) (f.ap.take k):Nat)/\Hid (Below w.heap.size w wx)) (λ_ i _=>f.ap.length-(intOf i).toNat)
     case atStart=>exact⟨0,zq5 _,rfl,by rw[<-uh UW],hb⟩
     case round =>
      clear UW hb;obtain⟨k2,kH,rfl,rfl,hb⟩:=hrel;obtain⟨m2,zX⟩:∃m,m=oF (oF (nF f) f.ow) (f.ap.take k2):=⟨_,rfl⟩;rw[<-zX];have hF:=(uh H).below (uh hb);by_cases bf:k2<f.ap.length
      .have gx:decide ((k2:Int)<(f.ap.length:Int))=true:=(by simp;omega);obtain⟨g,cap,cM,-,-⟩:=aC hF.ap bf;simp only[Value.slice.injEq,true_and]at cM;obtain⟨rfl,rfl⟩:=cM;obtain⟨x0,x1,x2⟩:=aA hF.ap bf;have aE:=BP (m:=oF (nF f) f.ow) bf;obtain⟨p,hp⟩:∃p,p=f.ap.getD k2 az:=⟨_,rfl⟩;rw[<-hp]at x0 x1 x2 aE;rw[<-zX]at aE;have bA:=ab aE;have cY:Hid (Below w.heap.size w (wr.alloc (.cells #[.int .i64 (p.k:Int),.int .i64 (p.l:Int),.int .i64 (p.r:Int)] 182))):=ab ((uh hb).alloc (uh hb).size _);have i1:(0:Int)<=(k2:Int):=(by omega);have i2:(k2:Int)<(f.ap.length:Int):=(by omega);clear hF hp aE zX;go_wp2_with fail
       refine(uh HG _ _ _).mono ?_;rintro e w1 ⟨rfl,rfl⟩;go_wp2_with fail
       refine(uh HG _ _ _).mono ?_;rintro e w1 ⟨rfl,rfl⟩;go_wp2_with fail
       go_roundw
       case rel=>exact⟨k2+1,by omega,by go_num,by rw[uh bA,Nat.max_assoc],cY⟩
       case measure=>simp[intOf];omega
      .have gx:decide ((k2:Int)<(f.ap.length:Int))=false:=(by simp;omega);have hE:m2+1=aD f:=(by unfold aD;rw[zX,take_of_length_le (by omega)]);have dl:m2<=100000:=(by have:=uh HM;omega);have HE:=ab hE;clear hF zX hE;go_wp2_with fail
       go_ret;exact⟨aQ (by rw[<-uh HE];go_num),uh hb⟩
end
def jM(f:CF):List Nat:=[f.cl.getD 0 0,f.cl.getD 1 0,f.cl.getD 2 0,f.cl.getD 3 0,f.cl.getD 4 0]
def dC(f:CF):List Nat:=jM f++f.ow.flatMap (λp=>[p.l,p.r])
def yk(f:CF)(p:Pr):Bool:=decide (p.l∈dC f)&&decide (p.r∈dC f)&&!qJ f p.l p.r
def DF(f:CF):CF:={ f with ap:=f.ap.filter (yk f) }
def gB(ms:List Nat)(c:Nat):List Nat:=if c∈ms then ms else ms++[c]
def AV(ms:List Nat)(c:Nat):Nat:=if c∈ms then ms.idxOf c+1 else 0
def xD(f:CF)(k:Nat)(ms:List Nat):List Nat :=
 match dJ f.ow (ms.getD k 0) with
 |some i=>gB ms (f.ow.getD i az).r
 |none=>ms
def my(f:CF):Nat->Nat->List Nat->List Nat
 |0,_,ms=>ms
 |n+1,k,ms=>if k<ms.length then my f n (k+1) (xD f k ms) else ms
def xt(f:CF)(ms:List Nat)(p:Pr):List Nat:=my f 25 ms.length (gB ms p.l)
def ku(f:CF):List Nat:=f.ow.foldl (xt f) (my f 25 0 ((jM f).foldl gB []))
def uW(ms:List Nat)(p:Pr):Pr:=⟨p.k,ms.idxOf p.l,ms.idxOf p.r⟩
def B1(f:CF):CF:=⟨(jM f).map (λc=>(ku f).idxOf c),f.ap.map (uW (ku f)),f.ow.map (uW (ku f))⟩
def dY(ms:List Nat):Prop:=ms.Nodup/\∀c∈ms,c<24
theorem dY.len{ms:List Nat}(h:dY ms):ms.length<=24:=by
 have:=List.Nodup.length_le_of_subset h.1 (l₂:=range 24) (λc hc=>by simpa using h.2 c hc);simpa using this
theorem dY.nil:dY []:=⟨nodup_nil,λc hc=>by simp at hc⟩
theorem dY.me{ms:List Nat}(h:dY ms){c:Nat}(hc:c<24):dY (gB ms c):=by
 unfold gB;split
 .exact h
 .rename_i hn;refine⟨?_,λd hd=>?_⟩
  .rw[nodup_append];exact⟨h.1,by simp,λa ha b hb e=>by simp only[mem_singleton]at hb;subst hb;subst e;exact hn ha⟩
  .rw[mem_append,mem_singleton]at hd;rcases hd with hd|rfl
   .exact h.2 d hd
   .exact hc
theorem rO{ms:List Nat}{c d:Nat}(h:d∈ms):d∈gB ms c:=by unfold gB;split;exact h;exact mem_append_left _ h
theorem yZ(ms:List Nat)(c:Nat):c∈gB ms c:=by unfold gB;split;assumption;simp
theorem Tt(ms:List Nat)(c:Nat):ms.length<=(gB ms c).length:=by unfold gB;split <;> simp
theorem GU{ms:List Nat}{c k:Nat}(hk:k<ms.length):(gB ms c).getD k 0=ms.getD k 0:=by
 unfold gB;split
 .rfl
 .simp[getD_eq_getElem?_getD,getElem?_append_left hk]
theorem eW:∀{l:List Pr} {c i:Nat},dJ l c=some i->i<l.length/\(l.getD i az).l=c
 |[],_,_,h=>by simp[dJ]at h
 |p::r,c,i,h=>by
  unfold dJ at h;split at h
  .injection h with h;subst h;rename_i e;exact⟨by simp,by simpa using e⟩
  .obtain⟨j,hj,rfl⟩:=Option.map_eq_some_iff.1 h;obtain⟨h1,h2⟩:=eW hj;exact⟨by simp only[length_cons];omega,by rw[getD_cons_succ];exact h2⟩
theorem xV{l:List Pr}{c i:Nat}(h:dJ l c=some i):l.getD i az∈l:=by
 obtain⟨h1,-⟩:=eW h;rw[getD_eq_getElem?_getD,getElem?_eq_getElem h1];exact getElem_mem h1
def Fq(l:List Pr):Prop:=(l.map (·.l)).Nodup
theorem Dp{l:List Pr}{p:Pr}(hN:Fq l)(hp:p∈l):∃i,dJ l p.l=some i/\l.getD i az=p:=by
 induction l with
 |nil=>simp at hp
 |cons q r ih =>
  unfold Fq at hN;rw[map_cons,nodup_cons]at hN;rcases mem_cons.1 hp with rfl|hp
  .exact⟨0,by simp[dJ],by simp⟩
  .obtain⟨i,h1,h2⟩:=ih hN.2 hp;have aM:¬ (q.l=p.l):=λe=>hN.1 (by rw[e];exact mem_map_of_mem (f:=(·.l)) hp);exact⟨i+1,by unfold dJ;rw[if_neg aM,h1];rfl,by simpa using h2⟩
section
variable {f:CF}
theorem O4(hO:∀p∈f.ow,p.l<24/\p.r<24){k:Nat}{ms:List Nat}(h:dY ms):dY (xD f k ms):=by
 unfold xD;split
 .rename_i i hi;exact h.me (hO _ (xV hi)).2
 .exact h
theorem Ue{k:Nat}{ms:List Nat}{d:Nat}(h:d∈ms):d∈xD f k ms:=by unfold xD;split;exact rO h;exact h
theorem Hp(f:CF)(k:Nat)(ms:List Nat):ms.length<=(xD f k ms).length:=by unfold xD;split;exact Tt _ _;exact zq4 _
theorem Ho{k:Nat}{ms:List Nat}{j:Nat}(h:j<ms.length):(xD f k ms).getD j 0=ms.getD j 0:=by unfold xD;split;exact GU h;rfl
theorem E1(hO:∀p∈f.ow,p.l<24/\p.r<24):∀(n k:Nat) {ms:List Nat},dY ms->dY (my f n k ms)
 |0,_,_,h=>h
 |n+1,k,ms,h=>by
  unfold my;split
  .exact E1 hO n (k+1) (O4 hO h)
  .exact h
theorem lZ:∀(n k:Nat) {ms:List Nat} {d:Nat},d∈ms->d∈my f n k ms
 |0,_,_,_,h=>h
 |n+1,k,ms,d,h=>by
  unfold my;split
  .exact lZ n (k+1) (Ue h)
  .exact h
theorem zt:∀(n k:Nat) {ms:List Nat} {j:Nat},j<ms.length->j<(my f n k ms).length/\(my f n k ms).getD j 0=ms.getD j 0
 |0,_,_,_,h=>⟨h,rfl⟩
 |n+1,k,ms,j,h=>by
  unfold my;split
  .obtain⟨h1,h2⟩:=zt n (k+1) (ms:=xD f k ms) (j:=j) (zq6 h (Hp f k ms));exact⟨h1,h2.trans (Ho h)⟩
  .exact⟨h,rfl⟩
theorem Hm(hO:∀p∈f.ow,p.l<24/\p.r<24):∀(n k:Nat) {ms:List Nat},dY ms->24<n+k->∀j,k<=j->j<(my f n k ms).length->∀i,dJ f.ow ((my f n k ms).getD j 0)=some i->(f.ow.getD i az).r∈my f n k ms
 |0,k,ms,h,hk,j,hj,hl,i,hi=>by
  have:=h.len;unfold my at hl;omega
 |n+1,k,ms,h,hk,j,hj,hl,i,hi=>by
  unfold my at hl hi ⊢;split at hl
  .rename_i ar;rw[if_pos ar]at hi ⊢;by_cases e:k=j
   .subst e;obtain⟨-,h2⟩:=zt (f:=f) n (k+1) (ms:=xD f k ms) (j:=k) (zq6 ar (Hp f k ms));rw[h2,Ho ar]at hi;refine lZ n (k+1) ?_;unfold xD;rw[hi];exact yZ _ _
   .exact Hm hO n (k+1) (O4 hO h) (by omega) j (by omega) hl i hi
  .rename_i ar;omega
def Clo(f:CF)(ms:List Nat):Prop:=∀c∈ms,∀i,dJ f.ow c=some i->(f.ow.getD i az).r∈ms
theorem Lm(hO:∀p∈f.ow,p.l<24/\p.r<24){n k:Nat}{ms:List Nat}(h:dY ms)(hk:24<n+k)(hc:∀j,j<k->j<ms.length->∀i,dJ f.ow (ms.getD j 0)=some i->(f.ow.getD i az).r∈ms):Clo f (my f n k ms):=by
 intro c hc' i hi;obtain⟨j,hj,rfl⟩:=mem_iff_getElem.1 hc';have e:(my f n k ms).getD j 0=(my f n k ms)[j]:=by rw[getD_eq_getElem?_getD,getElem?_eq_getElem hj];rfl
 by_cases ar:k<=j
 .exact Hm hO n k h hk j ar hj i (by rw[e];exact hi)
 .by_cases qp:j<ms.length
  .obtain⟨-,h2⟩:=zt (f:=f) n k qp;exact lZ n k (hc j (by omega) qp i (by rw[<-h2,e];exact hi))
  .exfalso;cases n with
   |zero=>unfold my at hj;omega
   |succ n =>
    unfold my at hj;rw[if_neg (by omega)]at hj;omega
theorem ZY(hO:∀p∈f.ow,p.l<24/\p.r<24){ms:List Nat}{p:Pr}(hp:p∈f.ow)(h:dY ms)(hc:Clo f ms):dY (xt f ms p)/\Clo f (xt f ms p)/\p.l∈xt f ms p/\∀d∈ms,d∈xt f ms p:=by
 have h1:=h.me (hO p hp).1;refine⟨E1 hO _ _ h1,Lm hO h1 (by omega) (λj hj _ i hi=>?_),lZ _ _ (yZ _ _),λd hd=>lZ _ _ (rO hd)⟩;rw[GU hj]at hi;refine rO (hc _ ?_ i hi);rw[getD_eq_getElem?_getD,getElem?_eq_getElem hj];exact getElem_mem hj
theorem OU(hO:∀p∈f.ow,p.l<24/\p.r<24):∀(l:List Pr) {ms:List Nat},(∀p∈l,p∈f.ow)->dY ms->Clo f ms->dY (l.foldl (xt f) ms)/\Clo f (l.foldl (xt f) ms)/\(∀p∈l,p.l∈l.foldl (xt f) ms)/\∀d∈ms,d∈l.foldl (xt f) ms
 |[],ms,_,h,hc=>⟨h,hc,λp hp=>by simp at hp,λd hd=>hd⟩
 |p::r,ms,hl,h,hc=>by
  obtain⟨h1,h2,h3,h4⟩:=ZY hO (hl p (by simp)) h hc;obtain⟨g1,g2,g3,g4⟩:=OU hO r (λq hq=>hl q (by simp[hq])) h1 h2;rw[foldl_cons];exact⟨g1,g2,λq hq=>by
   rcases mem_cons.1 hq with rfl|hq
   .exact g4 _ h3
   .exact g3 q hq,λd hd=>g4 d (h4 d hd)⟩
theorem Ew:∀(l:List Nat) {ms:List Nat},(∀c∈l,c<24)->dY ms->dY (l.foldl gB ms)/\(∀c∈l,c∈l.foldl gB ms)/\∀d∈ms,d∈l.foldl gB ms
 |[],ms,_,h=>⟨h,λc hc=>by simp at hc,λd hd=>hd⟩
 |c::r,ms,hl,h=>by
  obtain⟨g1,g2,g3⟩:=Ew r (λd hd=>hl d (by simp[hd])) (h.me (hl c (by simp)));rw[foldl_cons];exact⟨g1,λd hd=>by
   rcases mem_cons.1 hd with rfl|hd
   .exact g3 _ (yZ _ _)
   .exact g2 d hd,λd hd=>g3 d (rO hd)⟩
theorem oN(hO:∀p∈f.ow,p.l<24/\p.r<24)(hC:∀c∈jM f,c<24):dY (ku f)/\Clo f (ku f)/\(∀c∈jM f,c∈ku f)/\∀p∈f.ow,p.l∈ku f:=by
 obtain⟨h1,h2,-⟩:=Ew (jM f) hC dY.nil;have h3:=Lm hO (n:=25) (k:=0) h1 (by omega) (λj hj=>by omega);obtain⟨g1,g2,g3,g4⟩:=OU hO f.ow (λp hp=>hp) (E1 hO 25 0 h1) h3;exact⟨g1,g2,λc hc=>g4 c (lZ _ _ (h2 c hc)),g3⟩
theorem oM(hO:∀p∈f.ow,p.l<24/\p.r<24)(hC:∀c∈jM f,c<24)(hN:Fq f.ow):∀c∈dC f,c∈ku f:=by
 obtain⟨-,g2,g3,g4⟩:=oN hO hC;intro c hc;unfold dC at hc;rw[mem_append,mem_flatMap]at hc;rcases hc with hc|⟨p,hp,hc⟩
 .exact g3 c hc
 .simp only[mem_cons,not_mem_nil,or_false]at hc;rcases hc with rfl|rfl
  .exact g4 p hp
  .obtain⟨i,h1,h2⟩:=Dp hN hp;have:=g2 _ (g4 p hp) i h1;rwa [h2]at this
end
def zC(p:Pr)(l:List Pr):Nat->Nat
 |0=>0
 |k+1=>if Kc p (l.getD k az)=true then zC p l k else k+1
def eJ(l:List Pr)(p:Pr):List Pr:=l.take (zC p l l.length)++p::l.drop (zC p l l.length)
def BX(p q:Pr):Bool:=decide (p.k=q.k)&&decide (p.l=q.l)&&decide (p.r=q.r)
def jV(a:List Pr)(p:Pr):List Pr:=if a=[]\/BX p (a.getD (a.length-1) az)=false then a++[p] else a
def l6(l:List Pr):List Pr:=(l.foldl eJ []).foldl jV []
theorem zi{p q:Pr}:BX p q=true↔p=q:=by
 unfold BX;cases p;cases q
 simp[and_assoc]
theorem E8(p:Pr)(l:List Pr):∀k,zC p l k<=k
 |0=>zq4 _
 |k+1=>by
  unfold zC;split
  .exact Nat.le_succ_of_le (E8 p l k)
  .exact zq4 _
theorem PE(p:Pr)(l:List Pr):∀k j,zC p l k<=j->j<k->Kc p (l.getD j az)=true
 |0,j,_,h=>by omega
 |k+1,j,h1,h2=>by
  unfold zC at h1;split at h1
  .rename_i h;by_cases e:j=k
   .rw[e];exact h
   .exact PE p l k j h1 (by omega)
  .omega
theorem PD(p:Pr)(l:List Pr):∀k,0<zC p l k->Kc p (l.getD (zC p l k-1) az)=false
 |0,h=>by simp[zC]at h
 |k+1,h=>by
  unfold zC at h ⊢;split
  .rename_i hb;rw[if_pos hb]at h;exact PD p l k h
  .rename_i hb;simpa using hb
def Ad(p q:Pr):Prop:=p.l<q.l\/(p.l=q.l/\p.r<=q.r)
def CX(p q:Pr):Prop:=p.l<q.l\/(p.l=q.l/\p.r<q.r)
theorem FF{p q:Pr}:Kc p q=true↔CX p q:=by simp[Kc,CX]
theorem Q5{p q:Pr}:Kc p q=false↔Ad q p:=by
 rw[<-Bool.not_eq_true,FF];unfold CX Ad;omega
theorem xd{p q r:Pr}(h1:Ad p q)(h2:Ad q r):Ad p r:=by unfold Ad at *;omega
theorem ae8{p q:Pr}(h:CX p q):Ad p q:=by unfold CX Ad at *;omega
theorem JC{p q r:Pr}(h1:CX p q)(h2:CX q r):CX p r:=by unfold CX at *;omega
theorem cy{l:List Pr}{j:Nat}(h:j<l.length):l.getD j az∈l:=by
 rw[getD_eq_getElem?_getD,getElem?_eq_getElem h];exact getElem_mem h
theorem dq{l:List Pr}{j:Nat}(h:j<l.length):l.getD j az=l[j]:=by
 rw[getD_eq_getElem?_getD,getElem?_eq_getElem h];rfl
theorem NI{l:List Pr}{p q:Pr}:q∈eJ l p↔q=p\/q∈l:=by
 unfold eJ;rw[mem_append,mem_cons];constructor
 .rintro(h|h|h)
  .exact zq1 (mem_of_mem_take h)
  .exact zq0 h
  .exact zq1 (mem_of_mem_drop h)
 .rintro(h|h)
  .exact zq1 (zq0 h)
  .rw[<-take_append_drop (zC p l l.length) l,mem_append]at h;rcases h with h|h
   .exact zq0 h
   .exact zq1 (zq1 h)
theorem NH(l:List Pr)(p:Pr):(eJ l p).length=l.length+1:=by
 unfold eJ;have:=E8 p l l.length;simp only[length_append,length_take,length_cons,length_drop];omega
theorem NJ{l:List Pr}{p:Pr}(h:l.Pairwise Ad):(eJ l p).Pairwise Ad:=by
 have iA:=E8 p l l.length;have ar:=PE p l l.length;have bZ:=PD p l l.length;unfold eJ;generalize hk:zC p l l.length=k at *;have hd:∀q∈l.drop k,Ad p q:=by
  intro q hq;obtain⟨j,hj,rfl⟩:=mem_iff_getElem.1 hq;rw[length_drop]at hj;rw[getElem_drop,<-dq (by omega)];exact ae8 (FF.1 (ar (k+j) (by omega) (by omega)))
 have ht:∀q∈l.take k,Ad q p:=by
  intro q hq;obtain⟨j,hj,rfl⟩:=mem_iff_getElem.1 hq;rw[length_take]at hj;have h1:=Q5.1 (bZ (by omega));rw[getElem_take];by_cases e:j=k-1
  .rw[dq (by omega)]at h1;subst e;exact h1
  .refine xd ?_ h1;rw[dq (by omega)];exact pairwise_iff_getElem.1 h j (k-1) (by omega) (by omega) (by omega)
 rw[pairwise_append,pairwise_cons];refine⟨h.sublist (take_sublist _ _),⟨hd,h.sublist (drop_sublist _ _)⟩,?_⟩;intro a ha b hb;rcases mem_cons.1 hb with rfl|hb
 .exact ht a ha
 .exact xd (ht a ha) (hd b hb)
theorem oh:∀(l:List Pr) {a:List Pr},a.Pairwise Ad->(l.foldl eJ a).Pairwise Ad/\(∀q,q∈l.foldl eJ a↔q∈a\/q∈l)/\(l.foldl eJ a).length=a.length+l.length
 |[],a,h=>⟨h,λq=>by simp,by simp⟩
 |p::r,a,h=>by
  obtain⟨h1,h2,h3⟩:=oh r (NJ (p:=p) h);rw[foldl_cons];refine⟨h1,λq=>?_,?_⟩
  .rw[h2,NI,mem_cons];constructor
   .rintro((h|h)|h)
    .exact zq1 (zq0 h)
    .exact zq0 h
    .exact zq1 (zq1 h)
   .rintro(h|h|h)
    .exact zq0 (zq1 h)
    .exact zq0 (zq0 h)
    .exact zq1 h
  .rw[h3,NH,length_cons];omega
theorem LF{a:List Pr}{p:Pr}:p∈jV a p:=by
 unfold jV;split
 .simp
 .rename_i h;rw[not_or]at h;have h1:BX p (a.getD (a.length-1) az)=true:=by simpa using h.2
  rw[zi]at h1;rw[h1];exact cy (by have:=length_pos_iff.2 h.1;omega)
theorem Ro{a:List Pr}{p q:Pr}(h:q∈a):q∈jV a p:=by unfold jV;split;exact mem_append_left _ h;exact h
theorem FM:∀(l:List Pr) {a:List Pr} {q:Pr},q∈l.foldl jV a↔q∈a\/q∈l
 |[],a,q=>by simp
 |p::r,a,q=>by
  rw[foldl_cons,FM r,mem_cons];constructor
  .rintro(h|h)
   .unfold jV at h;split at h
    .rw[mem_append,mem_singleton]at h;rcases h with h|h
     .exact zq0 h
     .exact zq1 (zq0 h)
    .exact zq0 h
   .exact zq1 (zq1 h)
  .rintro(h|rfl|h)
   .exact zq0 (Ro h)
   .exact zq0 LF
   .exact zq1 h
theorem j9{l:List Pr}{q:Pr}:q∈l6 l↔q∈l:=by
 unfold l6;rw[FM,(oh l (a:=[]) List.Pairwise.nil).2.1];simp
theorem yc{K:Nat}:∀(l:List Pr) {a:List Pr},a.Pairwise CX->l.Pairwise Ad->(∀p∈a,∀q∈l,Ad p q)->(∀p∈a,p.k=K)->(∀p∈l,p.k=K)->(l.foldl jV a).Pairwise CX
 |[],a,h,_,_,_,_=>h
 |p::r,a,h,hl,mG,ha,hk=>by
  rw[foldl_cons];have h1:=pairwise_cons.1 hl;by_cases hn:a=[]\/BX p (a.getD (a.length-1) az)=false
  .have e:jV a p=a++[p]:=(by unfold jV;rw[if_pos hn]);rw[e];refine yc (K:=K) r ?_ h1.2 ?_ ?_ (λq hq=>hk q (by simp[hq]))
   .rw[pairwise_append];refine⟨h,by simp,λx hx y hy=>?_⟩;rw[mem_singleton]at hy;subst hy;have Aa:=mG x hx y (by simp);rcases hn with hn|hn
    .subst hn;simp at hx
    .obtain⟨j,hj,rfl⟩:=mem_iff_getElem.1 hx;have hz:Ad (a.getD (a.length-1) az) y:=mG _ (cy (by omega)) y (by simp);have hzl:CX (a.getD (a.length-1) az) y:=by
      have I8:y.k=K:=hk y (by simp);have kH:=ha _ (cy (l:=a) (j:=a.length-1) (by omega));generalize a.getD (a.length-1) az=z at hn hz kH;have aM:y≠z:=λe=>by rw[zi.2 e]at hn;cases hn
      unfold Ad at hz;unfold CX;rcases hz with h|⟨h,h'⟩
      .exact zq0 h
      .right;refine⟨h,?_⟩;by_cases hr:z.r=y.r
       .exfalso;apply aM;cases y;cases z
        simp_all
       .omega
     by_cases e:j=a.length-1
     .subst e;rwa [dq (by omega)]at hzl
     .refine JC ?_ hzl;rw[dq (by omega)];exact pairwise_iff_getElem.1 h j (a.length-1) hj (by omega) (by omega)
   .intro x hx y hy;rw[mem_append,mem_singleton]at hx;rcases hx with hx|rfl
    .exact mG x hx y (by simp[hy])
    .exact h1.1 y hy
   .intro x hx;rw[mem_append,mem_singleton]at hx;rcases hx with hx|rfl
    .exact ha x hx
    .exact hk x (by simp)
  .have e:jV a p=a:=(by unfold jV;rw[if_neg hn]);rw[e];exact yc (K:=K) r h h1.2 (λx hx y hy=>mG x hx y (by simp[hy])) ha (λq hq=>hk q (by simp[hq]))
theorem Ui{K:Nat}{l:List Pr}(hk:∀p∈l,p.k=K):(l6 l).Pairwise CX:=by
 obtain⟨h1,h2,-⟩:=oh l (a:=[]) List.Pairwise.nil;refine yc (K:=K) _ List.Pairwise.nil h1 (λp hp=>by simp at hp) (λp hp=>by simp at hp) (λp hp=>hk p ?_);have:=(h2 p).1 hp;simpa using this
theorem LA:∀(l:List Pr) {a:List Pr},Fq (a++l)->l.foldl jV a=a++l
 |[],a,_=>by simp
 |p::r,a,h=>by
  have e:jV a p=a++[p]:=by
   unfold jV;rw[if_pos];by_cases ha:a=[]
   .exact zq0 ha
   .right;cases hx:BX p (a.getD (a.length-1) az) with
    |false=>rfl
    |true =>
     exfalso;rw[zi]at hx;have hm:=cy (l:=a) (j:=a.length-1) (by have:=length_pos_iff.2 ha;omega);rw[<-hx]at hm;unfold Fq at h;rw[map_append,nodup_append]at h;exact h.2.2 p.l (mem_map_of_mem (f:=(·.l)) hm) p.l (by simp) rfl
  rw[foldl_cons,e,LA r (by rw[append_assoc];exact h),append_assoc];rfl
theorem Jv(l:List Pr)(p:Pr):(eJ l p).Perm (p::l):=by
 unfold eJ;refine perm_middle.trans ?_;rw[take_append_drop]
theorem wY:∀(l:List Pr) {a:List Pr},(l.foldl eJ a).Perm (a++l)
 |[],a=>by simp
 |p::r,a=>by
  rw[foldl_cons];refine(wY r).trans ?_;refine((Jv a p).append_right r).trans ?_;exact(perm_middle (l₁:=a) (l₂:=r) (a:=p)).symm
theorem Ch{l:List Pr}(h:Fq l):(l6 l).Perm l:=by
 unfold l6;have h1:=wY l (a:=[]);rw[LA _ (by unfold Fq at h ⊢;rw[nil_append];exact((h1.map (·.l)).nodup_iff).2 (by simpa using h)),nil_append];simpa using h1
theorem Uk{l:List Pr}(h:l.Pairwise CX)(hb:∀p∈l,p.l<24/\p.r<24):l.length<=576:=by
 have h1:(l.map (λp=>p.l*24+p.r)).Nodup:=by
  unfold List.Nodup;rw[pairwise_map];refine List.Pairwise.imp_of_mem ?_ h;intro a b ha m6 qo e;have:=hb a ha;have:=hb b m6;unfold CX at qo;omega
 have:=List.Nodup.length_le_of_subset h1 (l₂:=range 576) (λc hc=>by
  obtain⟨p,hp,rfl⟩:=mem_map.1 hc;have:=hb p hp;rw[mem_range];omega)
 simpa using this
def jp(p:Pr):Pr:=if p.r<p.l then ⟨p.k,p.r,p.l⟩ else p
def orF(f:CF):CF:=⟨f.cl,l6 (f.ap.map jp),l6 f.ow⟩
def bJ(f:CF):CF:=orF (B1 (DF f))
structure au(f:CF):Prop where
 c5:f.cl.length=5
 cl:∀c∈jM f,c<24
 ow:∀p∈f.ow,p.l<24/\p.r<24
 ap:∀p∈f.ap,p.l<24/\p.r<24
 lf:Fq f.ow
 kd:∀p∈f.ap,p.k=2
theorem au.owLen{f:CF}(h:au f):f.ow.length<=24:=by
 have h0:dY (f.ow.map (·.l)):=⟨h.lf,λc hc=>by obtain⟨p,hp,rfl⟩:=mem_map.1 hc;exact(h.ow p hp).1⟩;simpa using h0.len
theorem ZX(f:CF):ku (DF f)=ku f:=by
 have e:∀k ms,xD (DF f) k ms=xD f k ms:=λk ms=>rfl;have e2:∀n k ms,my (DF f) n k ms=my f n k ms:=by
  intro n;induction n with
  |zero=>intro k ms;rfl
  |succ n ih=>intro k ms;unfold my;rw[e,ih]
 have e3:xt (DF f)=xt f:=by funext ms p;unfold xt;rw[e2]
 unfold ku;rw[e2,e3];rfl
theorem au.fg{f:CF}(h:au f):au (DF f):=⟨h.c5,h.cl,h.ow,λp hp=>h.ap p ((mem_filter.1 hp).1),h.lf,λp hp=>h.kd p ((mem_filter.1 hp).1)⟩
theorem lM{f:CF}{p:Pr}(hp:p∈(DF f).ap):p.l∈dC (DF f)/\p.r∈dC (DF f):=by
 have:=(mem_filter.1 hp).2;unfold yk at this;simp only[Bool.and_eq_true,decide_eq_true_eq]at this;exact this.1
theorem k8{ms:List Nat}(h:dY ms){c:Nat}(hc:c∈ms):ms.idxOf c<24:=zq6 (idxOf_lt_length_iff.2 hc) h.len
theorem S8{ms:List Nat}{c d:Nat}(hc:c∈ms)(hd:d∈ms)(e:ms.idxOf c=ms.idxOf d):c=d:=by
 have h1:=getElem_idxOf (idxOf_lt_length_iff.2 hc);have h2:=getElem_idxOf (idxOf_lt_length_iff.2 hd);rw[<-h1,<-h2];simp only[e]
theorem FI{f:CF}(g:Nat->Nat)(ap ow:List Pr):jM ⟨(jM f).map g,ap,ow⟩=(jM f).map g:=rfl
theorem au.rn{f:CF}(h:au f)(hl:∀p∈f.ap,p.l∈dC f/\p.r∈dC f):au (B1 f):=by
 have hM:=(oN h.ow h.cl).1;have hL:=oM h.ow h.cl h.lf;refine⟨rfl,?_,?_,?_,?_,?_⟩
 .intro c hc;unfold B1 at hc;rw[FI]at hc;obtain⟨d,hd,rfl⟩:=mem_map.1 hc;exact k8 hM (hL d (mem_append_left _ hd))
 .intro p hp;obtain⟨q,hq,rfl⟩:=mem_map.1 hp;have SV:q.l∈dC f:=mem_append_right _ (mem_flatMap.2 ⟨q,hq,by simp⟩);have hq2:q.r∈dC f:=mem_append_right _ (mem_flatMap.2 ⟨q,hq,by simp⟩);exact⟨k8 hM (hL _ SV),k8 hM (hL _ hq2)⟩
 .intro p hp;obtain⟨q,hq,rfl⟩:=mem_map.1 hp;exact⟨k8 hM (hL _ (hl q hq).1),k8 hM (hL _ (hl q hq).2)⟩
 .have h2:=h.lf;unfold Fq B1 at *;simp only[map_map];have e:((λx:Pr=>x.l) ∘ uW (ku f))=(λc=>(ku f).idxOf c) ∘ (λx:Pr=>x.l):=rfl;rw[e,<-map_map];unfold List.Nodup at h2 ⊢;rw[pairwise_map];refine List.Pairwise.imp_of_mem ?_ h2;intro a b ha hb qo e2;obtain⟨p,hp,rfl⟩:=mem_map.1 ha;obtain⟨q,hq,rfl⟩:=mem_map.1 hb;exact qo (S8 (hL _ (mem_append_right _ (mem_flatMap.2 ⟨p,hp,by simp⟩))) (hL _ (mem_append_right _ (mem_flatMap.2 ⟨q,hq,by simp⟩))) e2)
 .intro p hp;obtain⟨q,hq,rfl⟩:=mem_map.1 hp;exact h.kd q hq
theorem Wk(p:Pr):(jp p).k=p.k:=by unfold jp;split <;> rfl
theorem Z8{p:Pr}(h:p.l<24/\p.r<24):(jp p).l<24/\(jp p).r<24:=by unfold jp;split;exact⟨h.2,h.1⟩;exact h
theorem au.or{f:CF}(h:au f):au (orF f):=by
 refine⟨h.c5,h.cl,λp hp=>h.ow p (j9.1 hp),?_,?_,?_⟩
 .intro p hp;obtain⟨q,hq,rfl⟩:=mem_map.1 (j9.1 hp);exact Z8 (h.ap q hq)
 .have:=(Ch h.lf).map (·.l);exact this.nodup_iff.2 h.lf
 .intro p hp;obtain⟨q,hq,rfl⟩:=mem_map.1 (j9.1 hp);rw[Wk];exact h.kd q hq
theorem au.td{f:CF}(h:au f):au (bJ f):=(h.fg.rn (λ_ hp=>lM hp)).or
theorem TG{f:CF}(h:au f):(orF f).ap.length<=576:=by
 refine Uk (Ui (K:=2) ?_) (h.or).ap;intro p hp;obtain⟨q,hq,rfl⟩:=mem_map.1 hp;rw[Wk];exact h.kd q hq
theorem Ur{f:CF}(h:au f):(bJ f).ap.length<=576:=TG (h.fg.rn (λ_ hp=>lM hp))
def nG(s:List Nat)(p:Pr):List Nat:=if p.l∈s/\p.r ∉ s then s++[p.r] else s
def vP(f:CF)(s:List Nat):List Nat:=f.ow.foldl nG s
def TQ(f:CF):Nat->List Nat->List Nat
 |0,s=>s
 |n+1,s=>if (vP f s).length=s.length then s else TQ f n (vP f s)
def TP(f:CF):List Nat:=[f.cl.getD 1 0,f.cl.getD 2 0,f.cl.getD 3 0,f.cl.getD 4 0].foldl gB []
def mL(f:CF):List Nat:=TQ f 25 (TP f)
def CZ(f:CF):List Bool:=(range 24).map (λc=>decide (c∈mL f))
theorem ZQ{s:List Nat}{p:Pr}(h:dY s)(hp:p.r<24):dY (nG s p):=by
 unfold nG;split
 .rename_i hc;have:=h.me hp;unfold gB at this;rwa [if_neg hc.2]at this
 .exact h
theorem Hc(s:List Nat)(p:Pr):s.length<=(nG s p).length:=by unfold nG;split <;> simp
theorem OM:∀(l:List Pr) {s:List Nat},dY s->(∀p∈l,p.r<24)->dY (l.foldl nG s)/\s.length<=(l.foldl nG s).length
 |[],s,h,_=>⟨h,zq4 _⟩
 |p::r,s,h,hl=>by
  obtain⟨h1,h2⟩:=OM r (ZQ h (hl p (by simp))) (λq hq=>hl q (by simp[hq]));exact⟨h1,zq3 (Hc s p) h2⟩
theorem ZP{f:CF}(h:∀c∈jM f,c<24):dY (TP f):=(Ew _ (λc hc=>h c (by unfold jM;simp at hc ⊢;rcases hc with h|h|h|h <;> simp[h])) dY.nil).1
structure KN where
 nx:List CF
 ot:List CF
 nu:Bool
 da:Bool
 fu:Bool
def EI:KN:=⟨[],[],false,false,false⟩
def lK(f:CF)(k i:Nat):Nat:=if k=1 then f.cl.getD (1+i) 0 else f.cl.getD 0 0
def setC(f:CF)(i c:Nat):CF:={ f with cl:=f.cl.set i c }
def q8(f:CF)(p:Pr):CF:={ f with ow:=f.ow++[p] }
def cC(f:CF)(a b:Nat):CF:={ f with ap:=f.ap++[⟨2,a,b⟩] }
def setO(f:CF)(i:Nat)(p:Pr):CF:={ f with ow:=f.ow.set i p }
def fD(f:CF)(i:Nat):CF:={ f with ow:=qD f.ow i }
def owA(f:CF)(i:Nat):Pr:=f.ow.getD i az
def jZ(f:CF)(c i:Nat):CF:=rL f (owA f i).l c
def BJ(f:CF)(c i:Nat):CF:=q8 (setO f i ⟨(owA f i).k,(owA f i).l,c⟩) ⟨4,c,(owA f i).r⟩
def gt(f:CF)(c i:Nat):List CF:=(if ew f c (owA f i).l=true then [] else [jZ f c i])++(if (owA f i).k=4 then [BJ f c i] else [])
def mo(f:CF)(i:Nat):CF:=setO f i ⟨3,(owA f i).l,(owA f i).r⟩
def sU(f:CF)(c i:Nat):CF:=q8 (setO f i ⟨3,c,aD f⟩) ⟨4,aD f,(owA f i).r⟩
def Vo(f:CF)(c i:Nat):List CF × Bool:=if (owA f i).k=3 then ([f],false) else if 24<=aD f then ([mo f i],true) else ([mo f i,sU f c i],false)
def mC(f:CF)(c:Nat):List CF × Bool:=match dJ f.ow c with|none=>([],false)|some i=>Vo f c i
def CK(r:List CF × Bool)(g:CF)(c:Nat):List CF × Bool:=(r.1++(mC g c).1,r.2||(mC g c).2)
def xj(f:CF)(v i:Nat)(r:List CF × Bool):List CF × Bool:=(gt f (f.cl.getD (1+v) 0) i).foldl (λr g=>CK r g (g.cl.getD (1+v) 0)) r
def gR(f:CF)(v:Nat):List CF × Bool × Bool × Bool :=
 if f.cl.getD (1+v) 0=f.cl.getD 0 0 then ([],true,false,false)
 else if (dJ f.ow (f.cl.getD (1+v) 0)).isSome=true then ((mC f (f.cl.getD (1+v) 0)).1,false,false,(mC f (f.cl.getD (1+v) 0)).2)
 else
  let r:=(range f.ow.length).foldl (λr i=>xj f v i r) ([],false)
  (r.1,!ew f (f.cl.getD (1+v) 0) (f.cl.getD 0 0),true,r.2)
def nN(f:CF)(c:Nat):Nat:=(dJ f.ow c).getD 0
def gD(g:CF)(n:Nd):CF:=setC g (1+n.v) (owA g (nN g (g.cl.getD (1+n.ai) 0))).r
def q9(g:CF)(n:Nd):CF:=let i:=nN g (g.cl.getD (1+n.v) 0);setO g i ⟨(owA g i).k,(owA g i).l,lK g n.ak n.ai⟩
def rD(g:CF)(v:Nat):CF :=
 let c:=g.cl.getD (1+v) 0
 let t:=fD g (nN g c)
 t.ow.foldl (λh p=>cC h c p.l) (cC t c (t.cl.getD 0 0))
def FK(f:CF)(v:Nat):CF:=setC (q8 f ⟨3,aD f,f.cl.getD 0 0⟩) (1+v) (aD f)
def bV(r:List CF × Bool × Bool × Bool)(g:CF->CF):KN:=⟨r.1.map (λx=>bJ (g x)),[],r.2.1,r.2.2.1,r.2.2.2⟩
def kP(f:CF)(n:Nd):List CF × List CF :=
 let a:=f.cl.getD (1+n.v) 0
 let b:=lK f n.ak n.ai
 (if ew f a b=true then [] else [bJ (rL f a b)],if a=b then [] else [bJ (cC f a b)])
def d7(n:Nd)(f:CF):KN :=
 if n.op=0 then EI
 else if n.op=1 then ⟨[bJ (setC f (1+n.v) (lK f n.ak n.ai))],[],false,false,false⟩
 else if n.op=2 then bV (gR f n.ai) (λg=>gD g n)
 else if n.op=3 then bV (gR f n.v) (λg=>q9 g n)
 else if n.op=4 then (if 24<=aD f then ⟨[],[],false,false,true⟩ else ⟨[bJ (FK f n.v)],[],false,false,false⟩)
 else if n.op=5 then bV (gR f n.v) (λg=>rD g n.v)
 else if n.op=7 then ⟨[bJ f],[bJ f],false,false,false⟩
 else if n.op=8 then ⟨(kP f n).1,(kP f n).2,false,false,false⟩
 else if n.op=9 then ⟨(kP f n).2,(kP f n).1,false,false,false⟩
 else ⟨[bJ f],[],false,false,false⟩
theorem fY{f:CF}{i:Nat}(hi:i<5):f.cl.getD i 0∈jM f:=by
 have:i=0\/i=1\/i=2\/i=3\/i=4:=by omega
 rcases this with rfl|rfl|rfl|rfl|rfl <;> simp[jM]
theorem ru{f:CF}(h5:f.cl.length=5):jM f=f.cl:=by
 match hc:f.cl,h5 with
 |[a,b,c,d,e],_=>simp[jM,hc]
theorem au.mk'{f:CF}(c5:f.cl.length=5)(cl:∀c∈f.cl,c<24)(ow:∀p∈f.ow,p.l<24/\p.r<24)(ap:∀p∈f.ap,p.l<24/\p.r<24)(lf:Fq f.ow)(kd:∀p∈f.ap,p.k=2):au f:=⟨c5,by rw[ru c5];exact cl,ow,ap,lf,kd⟩
theorem au.cl'{f:CF}(h:au f):∀c∈f.cl,c<24:=by rw[<-ru h.c5];exact h.cl
theorem au.get{f:CF}(h:au f)(i:Nat):f.cl.getD i 0<24:=by
 by_cases hi:i<5
 .exact h.cl _ (fY hi)
 .rw[getD_eq_getElem?_getD,getElem?_eq_none (by have:=h.c5;omega)];decide
theorem au.cT{f:CF}(h:au f)(k i:Nat):lK f k i<24:=by unfold lK;split <;> exact h.get _
theorem au.oA{f:CF}(h:au f)(i:Nat):(owA f i).l<24/\(owA f i).r<24:=by
 unfold owA;by_cases hi:i<f.ow.length
 .exact h.ow _ (cy hi)
 .rw[getD_eq_getElem?_getD,getElem?_eq_none (by omega)];decide
theorem au.sC{f:CF}(h:au f)(i:Nat){c:Nat}(hc:c<24):au (setC f i c):=by
 refine au.mk' ?_ ?_ h.ow h.ap h.lf h.kd
 .simpa[setC] using h.c5
 .intro d hd;rcases mem_or_eq_of_mem_set hd with hd|rfl
  .exact h.cl' d hd
  .exact hc
theorem au.ly{f:CF}(h:au f){p:Pr}(h1:p.l<24)(h2:p.r<24)(hn:∀q∈f.ow,q.l≠p.l):au (q8 f p):=by
 refine au.mk' h.c5 h.cl' ?_ h.ap ?_ h.kd
 .intro q hq;rcases mem_append.1 hq with hq|hq
  .exact h.ow q hq
  .rw[mem_singleton]at hq;subst hq;exact⟨h1,h2⟩
 .have hl:=h.lf;unfold Fq at hl ⊢;show((f.ow++[p]).map (·.l)).Nodup;rw[map_append,nodup_append];refine⟨hl,by simp,?_⟩;intro a ha b hb e;obtain⟨q,hq,rfl⟩:=mem_map.1 ha;simp only[map_cons,map_nil,mem_singleton]at hb;exact hn q hq (e.trans hb)
theorem au.pa{f:CF}(h:au f){a b:Nat}(h1:a<24)(h2:b<24):au (cC f a b):=by
 refine au.mk' h.c5 h.cl' h.ow ?_ h.lf ?_
 .intro q hq;rcases mem_append.1 hq with hq|hq
  .exact h.ap q hq
  .rw[mem_singleton]at hq;subst hq;exact⟨h1,h2⟩
 .intro q hq;rcases mem_append.1 hq with hq|hq
  .exact h.kd q hq
  .rw[mem_singleton]at hq;subst hq;rfl
theorem tN{l:List Pr}{i:Nat}{p:Pr}(hp:i<l.length->p.l=(l.getD i az).l):(l.set i p).map (·.l)=l.map (·.l):=by
 rw[map_set];by_cases hi:i<l.length
 .rw[hp hi,dq hi];conv=>rhs;rw[<-@set_getElem_self _ (l.map (·.l)) i (by simpa using hi)]
  simp
 .rw[set_eq_of_length_le (by simp;omega)]
theorem au.sO{f:CF}(h:au f){i:Nat}{p:Pr}(hl:i<f.ow.length->p.l=(f.ow.getD i az).l)(h2:p.r<24)(h1:p.l<24):au (setO f i p):=by
 refine au.mk' h.c5 h.cl' ?_ h.ap ?_ h.kd
 .intro q hq;rcases mem_or_eq_of_mem_set hq with hq|rfl
  .exact h.ow q hq
  .exact⟨h1,h2⟩
 .have:=h.lf;unfold Fq at this ⊢;show((f.ow.set i p).map (·.l)).Nodup;rw[tN hl];exact this
theorem kg(l:List Pr)(i:Nat):(qD l i).Sublist l:=by
 have e:l=(range l.length).map (λj=>l.getD j az):=by
  refine ext_getElem (by simp) (λj h1 h2=>?_);rw[getElem_map,getElem_range,dq h1]
 unfold qD oU;conv=>rhs;rw[e]
 exact filter_sublist.map _
theorem au.tk{f:CF}(h:au f)(i:Nat):au (fD f i):=au.mk' h.c5 h.cl' (λp hp=>h.ow p ((kg f.ow i).subset hp)) h.ap (h.lf.sublist ((kg f.ow i).map _)) h.kd
theorem uc{k g c:Nat}(h1:k<24)(h2:c<24):jb k g c<24:=by unfold jb;split <;> assumption
theorem au.jo{f:CF}(h:au f){a b:Nat}(ha:a<24)(aM:a=b\/(∀p∈f.ow,p.l≠a)\/∀p∈f.ow,p.l≠b):au (rL f a b):=by
 refine au.mk' ?_ ?_ ?_ ?_ ?_ ?_
 .show(f.cl.map _).length=5;simpa using h.c5
 .intro c hc;obtain⟨d,hd,rfl⟩:=mem_map.1 hc;exact uc ha (h.cl' d hd)
 .intro p hp;obtain⟨q,hq,rfl⟩:=mem_map.1 hp;exact⟨uc ha (h.ow q hq).1,uc ha (h.ow q hq).2⟩
 .intro p hp;obtain⟨q,hq,rfl⟩:=mem_map.1 hp;exact⟨uc ha (h.ap q hq).1,uc ha (h.ap q hq).2⟩
 .have hl:=h.lf;unfold Fq at hl ⊢;show((f.ow.map (C1 a b)).map (·.l)).Nodup;have e:((λx:Pr=>x.l) ∘ C1 a b)=(jb a b) ∘ (λx:Pr=>x.l):=rfl;rw[map_map,e,<-map_map];unfold List.Nodup at hl ⊢;rw[pairwise_map];refine List.Pairwise.imp_of_mem ?_ hl;intro x y hx hy hxy e2;obtain⟨p,hp,rfl⟩:=mem_map.1 hx;obtain⟨q,hq,rfl⟩:=mem_map.1 hy;unfold jb at e2;rcases aM with rfl|aM|aM
  .split at e2 <;> split at e2 <;> omega
  .have:=aM p hp;have:=aM q hq;split at e2 <;> split at e2 <;> omega
  .rw[if_neg (aM p hp),if_neg (aM q hq)]at e2;exact hxy e2
 .intro p hp;obtain⟨q,hq,rfl⟩:=mem_map.1 hp;exact h.kd q hq
theorem pB:∀{l:List Pr} {c:Nat},dJ l c=none->∀p∈l,p.l≠c
 |[],_,_,p,hp=>by simp at hp
 |q::r,c,h,p,hp=>by
  unfold dJ at h;split at h
  .cases h
  .rename_i hq;rcases mem_cons.1 hp with rfl|hp
   .exact hq
   .exact pB (Option.map_eq_none_iff.1 h) p hp
theorem jt{f:CF}{a b:Nat}(h:ew f a b=false):a=b\/(∀p∈f.ow,p.l≠a)\/∀p∈f.ow,p.l≠b:=by
 unfold ew at h;split at h
 .exact zq0 (by assumption)
 .rw[Bool.or_eq_false_iff]at h;have h2:=h.2;unfold qJ at h2;right;cases ha:dJ f.ow a with
  |none=>exact zq0 (pB ha)
  |some i =>
   cases hb:dJ f.ow b with
   |none=>exact zq1 (pB hb)
   |some j=>rw[ha,hb]at h2;simp at h2
theorem gG:∀(l:List Pr) (m:Nat),m<=oF m l/\∀p∈l,p.l<=oF m l/\p.r<=oF m l
 |[],m=>⟨zq4 _,λp hp=>by simp at hp⟩
 |q::r,m=>by
  obtain⟨h1,h2⟩:=gG r (max (max m q.l) q.r);have e:oF m (q::r)=oF (max (max m q.l) q.r) r:=rfl;rw[e];refine⟨by omega,λp hp=>?_⟩;rcases mem_cons.1 hp with rfl|hp
  .exact⟨by omega,by omega⟩
  .exact h2 p hp
theorem Oa{f:CF}:∀q∈f.ow,q.l≠aD f:=by
 intro q hq;unfold aD;have h1:=((gG f.ow (nF f)).2 q hq).1;have h2:=(gG f.ap (oF (nF f) f.ow)).1;omega
theorem oG{f:CF}{i:Nat}(h:i<f.ow.length):owA f i∈f.ow:=cy h
theorem au.m1{f:CF}(h:au f){c i:Nat}(hd:ew f c (owA f i).l=false):au (jZ f c i) :=
 h.jo (h.oA i).1 (by rcases jt hd with e|e|e;exact zq0 e.symm;exact zq1 (zq1 e);exact zq1 (zq0 e))
theorem xy{f:CF}{i:Nat}{p q:Pr}(hl:i<f.ow.length->p.l=(f.ow.getD i az).l)(hq:q∈(setO f i p).ow):∃q'∈f.ow,q'.l=q.l:=by
 have e:=tN hl;have h1:q.l∈(f.ow.set i p).map (·.l):=mem_map_of_mem (f:=(·.l)) hq;rw[e]at h1;obtain⟨q',h2,h3⟩:=mem_map.1 h1;exact⟨q',h2,h3⟩
theorem au.m2{f:CF}(h:au f){c i:Nat}(hc:c<24)(hb:dJ f.ow c=none):au (BJ f c i):=by
 have h1:au (setO f i ⟨(owA f i).k,(owA f i).l,c⟩):=h.sO (λ_=>rfl) hc (h.oA i).1;refine h1.ly hc (h.oA i).2 (λq hq e=>?_);obtain⟨q',h2,h3⟩:=xy (p:=⟨(owA f i).k,(owA f i).l,c⟩) (λ_=>rfl) hq;exact pB hb q' h2 (h3.trans e)
theorem au.f1{f:CF}(h:au f)(i:Nat):au (mo f i):=h.sO (λ_=>rfl) (h.oA i).2 (h.oA i).1
theorem au.f2{f:CF}(h:au f){c i:Nat}(hi:dJ f.ow c=some i)(hn:aD f<24):au (sU f c i):=by
 obtain⟨g1,g2⟩:=eW hi;have de:c<24:=by rw[<-g2];exact(h.oA i).1
 have h1:au (setO f i ⟨3,c,aD f⟩):=h.sO (λ_=>g2.symm) hn de;refine h1.ly hn (h.oA i).2 (λq hq e=>?_);obtain⟨q',h2,h3⟩:=xy (λ_=>g2.symm) hq;exact Oa q' h2 (h3.trans e)
