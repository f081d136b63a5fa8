import Derived.Test.YtciihepbeacppaaGreatM12
import Derived.Deep.Cut
import Derived.Deep.CutRange
import Derived.Deep.DeepCutAuto
import Derived.Laws.StructEq
set_option maxRecDepth 100000
set_option maxHeartbeats 0
namespace Go.Proofs.YtciihepbeacppaaGreat
open Tryz Go.RowKit List World Below
set_option linter.unusedVariables false
theorem eu.congr{bl:List Bool}{s t:List Nat}(h:eu bl s)(he:∀c,c∈s↔c∈t):eu bl t:=⟨h.1,λc hc=>(h.2 c hc).trans (he c)⟩
structure Rng(f:CF):Prop where
 cl:∀c∈jM f,c<24
 ow:Rm f
 ap:RmA f
theorem yi(w:World):Ob (w.alloc (.cells (cK (replicate 24 false)).toArray 240)) 240 24 w.heap.size (cK (replicate 24 false)) :=
 ownsRow_lit (base:=0) (e:=240) (size:=24) w (cK (replicate 24 false)).toArray 1 (zq5 _) (by simp[maxLen]) rfl
theorem AP:eu (replicate 24 false) []:=⟨by simp,λc hc=>by rw[getD_eq_getElem?_getD,getElem?_replicate,if_pos hc];simp⟩
theorem wE{l:List Pr}{P:Pr->Bool}{k:Nat}(hk:k<l.length):(l.take (k+1)).filter P=(l.take k).filter P++(if P (l.getD k az) then [l.getD k az] else []):=by
 rw[iI hk,take_add_one,getElem?_eq_getElem hk,filter_append];congr 1;simp only[Option.toList];cases h:P l[k] <;> simp[h]
theorem IE{l:List Pr}{k:Nat}(hk:k<l.length):(l.take (k+1)).flatMap (λp=>[p.l,p.r])=(l.take k).flatMap (λp=>[p.l,p.r])++[(l.getD k az).l,(l.getD k az).r]:=by
 rw[iI hk,take_add_one,getElem?_eq_getElem hk,flatMap_append];simp
theorem Tu{S T:List Nat}{a b d:Nat}:d∈b::a::(S++T)↔d∈S++(T++[a,b]):=by
 simp only[mem_cons,mem_append,not_mem_nil,or_false];exact⟨λh=>by rcases h with h|h|h|h <;> simp[h],λh=>by rcases h with h|h|h|h <;> simp[h]⟩
section
variable {w:World} {A:Nat} {f:CF} {av ov:Value}
theorem DJ(h:Fm w A f av ov)(hR:Rng f)(ha:f.ap.length<=100000)(ho:f.ow.length<=100000):Calls prog 197 #[.pointer (some ⟨A,0,none⟩)] w λe w'=>e=.returned (.tuple #[])/\∃av',Fm w' A (DF f) av' ov/\am (aG A av ov) w (aG A av' ov) w':=by
 obtain⟨i0,iy,dG,du,ef⟩:=info_parts infoPair;obtain⟨oa,oc,dB,-,-⟩:=ah h.is.ow;subst dB;obtain⟨aa,ac,eS,-,-⟩:=ah h.is.ap;subst eS;obtain⟨w0,fS⟩:∃w0,w0=w.alloc (.cells (cK (replicate 24 false)).toArray 240):=⟨_,rfl⟩;have qP:Below w.heap.size w w0:=by rw[fS];exact af w _
 have RY:Ob w0 240 24 w.heap.size (cK (replicate 24 false)):=by rw[fS];exact yi w
 have h0:=h.is.below qP;have x0:=h0.cls (i:=0) (by omega);have x1:=h0.cls (i:=1) (by omega);have x2:=h0.cls (i:=2) (by omega);have x3:=h0.cls (i:=3) (by omega);have x4:=h0.cls (i:=4) (by omega);unfold eR at x0 x1 x2 x3 x4;have de:=hR.cl;unfold jM at de;have hcL:jM f=[f.cl.getD 0 0,f.cl.getD 1 0,f.cl.getD 2 0,f.cl.getD 3 0,f.cl.getD 4 0]:=rfl;obtain⟨y0,e0⟩:∃y,y=f.cl.getD 0 0:=⟨_,rfl⟩;obtain⟨y1,e1⟩:∃y,y=f.cl.getD 1 0:=⟨_,rfl⟩;obtain⟨y2,e2⟩:∃y,y=f.cl.getD 2 0:=⟨_,rfl⟩;obtain⟨y3,e3⟩:∃y,y=f.cl.getD 3 0:=⟨_,rfl⟩;obtain⟨y4,e4⟩:∃y,y=f.cl.getD 4 0:=⟨_,rfl⟩;rw[<-e0,<-e1,<-e2,<-e3,<-e4]at de hcL;rw[<-e0]at x0;rw[<-e1]at x1;rw[<-e2]at x2;rw[<-e3]at x3;rw[<-e4]at x4;have l0:y0<24:=de y0 (by simp);have l1:y1<24:=de y1 (by simp);have l2:y2<24:=de y2 (by simp);have l3:y3<24:=de y3 (by simp);have l4:y4<24:=de y4 (by simp);have j0:=yI (.int .i64 (y0:Int)) (.int .i64 (y1:Int)) (.int .i64 (y2:Int)) (.int .i64 (y3:Int)) (.int .i64 (y4:Int));have j1:=yJ (.int .i64 (y0:Int)) (.int .i64 (y1:Int)) (.int .i64 (y2:Int)) (.int .i64 (y3:Int)) (.int .i64 (y4:Int));have j2:=yK (.int .i64 (y0:Int)) (.int .i64 (y1:Int)) (.int .i64 (y2:Int)) (.int .i64 (y3:Int)) (.int .i64 (y4:Int));have j3:=yL (.int .i64 (y0:Int)) (.int .i64 (y1:Int)) (.int .i64 (y2:Int)) (.int .i64 (y3:Int)) (.int .i64 (y4:Int));have j4:=yN (.int .i64 (y0:Int)) (.int .i64 (y1:Int)) (.int .i64 (y2:Int)) (.int .i64 (y3:Int)) (.int .i64 (y4:Int));have H:=ab h;have qF:=ab hcL;have HR:=ab hR;have bR:Hid (Ob w0 240 24 w.heap.size (cK (replicate 24 false))/\eu (replicate 24 false) ([y0,y1,y2,y3,y4].take 0)/\Below w.heap.size w w0):=ab ⟨RY,AP,qP⟩;clear h e0 e1 e2 e3 e4 de hcL hR h0 RY qP;simp only[cK,replicate,map_cons,map_nil]at fS;go_enter func197,ntmps197;go_upto_region 1 with fail;rw[<-fS];clear fS;go_wp2_with fail
 go_loopw [14] (λi wx=>∃(k:Nat) (bl:List Bool),k<=5/\i=.int .i64 k/\Hid (Ob wx 240 24 w.heap.size (cK bl)/\eu bl ([y0,y1,y2,y3,y4].take k)/\Below w.heap.size w wx)) (λi _=>5-(intOf i).toNat)
 case atStart=>exact⟨0,_,zq5 _,rfl,bR⟩
 case round =>
  clear bR x0 x1 x2 x3 x4;obtain⟨k,bl,hk,rfl,hI⟩:=hrel;have aE:∀c,c<24->(∃u,wr.cell? ⟨w.heap.size,c,none⟩=some u)/\wr.frozen? ⟨w.heap.size,c,none⟩=false:=λc hc=>⟨⟨_,(ownsRow.cellAt (uh hI).1 c (by omega)).trans (eC (by rw[(uh hI).2.1.1];exact hc))⟩,ownsRow.frozenAt (uh hI).1 c⟩;have qu:∀c,c<24->∀t,(∀d,d∈c::([y0,y1,y2,y3,y4].take k)↔d∈t)->Ob (wr.setCell ⟨w.heap.size,c,none⟩ (.bool true)) 240 24 w.heap.size (cK (bl.set c true))/\eu (bl.set c true) t/\Below w.heap.size w (wr.setCell ⟨w.heap.size,c,none⟩ (.bool true)):=λc hc t ht =>
   ⟨by have:=(uh hI).1.stored c (.bool true);rwa [jT]at this,((uh hI).2.1.add hc).congr ht,(uh hI).2.2.setCell (p:=⟨w.heap.size,c,none⟩) (zq4 _) _⟩
  have nz:=ab qu;clear qu;have th:k=0\/k=1\/k=2\/k=3\/k=4\/k=5:=by omega
  rcases th with rfl|rfl|rfl|rfl|rfl|rfl
  .obtain⟨⟨u,hu⟩,hz⟩:=aE y0 l0;clear aE;go_wp2_with fail
   go_roundw
   case rel=>exact⟨1,_,by omega,by go_num,ab (uh nz y0 l0 _ (λd=>by simp))⟩
   case measure=>simp[intOf]
  .obtain⟨⟨u,hu⟩,hz⟩:=aE y1 l1;clear aE;go_wp2_with fail
   go_roundw
   case rel=>exact⟨2,_,by omega,by go_num,ab (uh nz y1 l1 _ (λd=>by simp;try omega))⟩
   case measure=>simp[intOf]
  .obtain⟨⟨u,hu⟩,hz⟩:=aE y2 l2;clear aE;go_wp2_with fail
   go_roundw
   case rel=>exact⟨3,_,by omega,by go_num,ab (uh nz y2 l2 _ (λd=>by simp;try omega))⟩
   case measure=>simp[intOf]
  .obtain⟨⟨u,hu⟩,hz⟩:=aE y3 l3;clear aE;go_wp2_with fail
   go_roundw
   case rel=>exact⟨4,_,by omega,by go_num,ab (uh nz y3 l3 _ (λd=>by simp;try omega))⟩
   case measure=>simp[intOf]
  .obtain⟨⟨u,hu⟩,hz⟩:=aE y4 l4;clear aE;go_wp2_with fail
   go_roundw
   case rel=>exact⟨5,_,by omega,by go_num,ab (uh nz y4 l4 _ (λd=>by simp;try omega))⟩
   case measure=>simp[intOf]
  .clear aE nz;rw[show((5:Nat):Int)=(5:Int) from rfl];have h1:=(uh H).is.below (uh hI).2.2;have c6:=h1.c6;obtain⟨D,hD⟩:∃D,D=w.heap.size:=⟨_,rfl⟩;have db:Hid (Ob wr 240 24 D (cK bl)/\eu bl ([y0,y1,y2,y3,y4]++(f.ow.take 0).flatMap (λp=>[p.l,p.r]))/\Below w.heap.size w wr):=ab ⟨by rw[hD];exact(uh hI).1,(uh hI).2.1,(uh hI).2.2⟩;have HD:=ab hD;clear hI h1 j0 j1 j2 j3 j4 l0 l1 l2 l3 l4;rw[<-hD];clear hD;go_wp2_with fail
   go_loopw [25] (λi wx=>∃(k:Nat) (bl:List Bool),k<=f.ow.length/\i=.int .i64 k/\Hid (Ob wx 240 24 D (cK bl)/\eu bl ([y0,y1,y2,y3,y4]++(f.ow.take k).flatMap (λp=>[p.l,p.r]))/\Below w.heap.size w wx)) (λi _=>f.ow.length-(intOf i).toNat)
   case atStart=>exact⟨0,bl,zq5 _,rfl,db⟩
   case round =>
    clear db c6;obtain⟨k,bl,hk,rfl,hI⟩:=hrel;have h1:=(uh H).is.below (uh hI).2.2;by_cases ar:k<f.ow.length
    .have hd:decide ((k:Int)<(f.ow.length:Int))=true:=(by simp;omega);obtain⟨g,cap,cM,-,-⟩:=aC h1.ow ar;simp only[Value.slice.injEq,true_and]at cM;obtain⟨rfl,rfl⟩:=cM;obtain⟨x0,x1,x2⟩:=aA h1.ow ar;obtain⟨er,n9⟩:=(uh HR).ow.at k;have nD:=IE ar;obtain⟨p,hp⟩:∃p,p=f.ow.getD k az:=⟨_,rfl⟩;rw[<-hp]at x0 x1 x2 er n9 nD;obtain⟨-,n1,n2⟩:=EE wr (Value.int .i64 p.k) (.int .i64 p.l) (.int .i64 p.r) 182;have RZ:D<wr.heap.size:=(ownsRow.lt (uh hI).1 D rfl).2;have o0:=(uh hI).1.alloc (.cells #[Value.int .i64 p.k,.int .i64 p.l,.int .i64 p.r] 182);obtain⟨⟨u1,hu1⟩,akJ⟩:=o0.some (j:=p.l) er;have o1:=(uh hI).1.stored p.l (.bool true);rw[jT]at o1;obtain⟨⟨u3,hu3⟩,aqT⟩:=o1.some (j:=p.r) n9;have o2:=o1.stored p.r (.bool true);rw[jT]at o2;have n2':((wr.alloc (.cells #[Value.int .i64 p.k,.int .i64 p.l,.int .i64 p.r] 182)).setCell ⟨D,p.l,none⟩ (.bool true)).cell? ⟨wr.heap.size,2,none⟩=some (.int .i64 (p.r:Int)):=by
      rw[cell?_setCell_other _ _ _ _ (by intro e;simp at e;try omega)];exact n2
     have rH:=(((uh hI).2.2.setCell (p:=⟨D,p.l,none⟩) (Nat.le_of_eq (uh HD).symm) (.bool true)).setCell (p:=⟨D,p.r,none⟩) (Nat.le_of_eq (uh HD).symm) (.bool true));have WT:=ab (o2.alloc (.cells #[Value.int .i64 p.k,.int .i64 p.l,.int .i64 p.r] 182));have Ij:Hid (eu ((bl.set p.l true).set p.r true) ([y0,y1,y2,y3,y4]++(f.ow.take (k+1)).flatMap (λp=>[p.l,p.r]))):=ab ((((uh hI).2.1.add er).add n9).congr (λd=>by rw[nD];exact Tu));have Kx:=ab (rH.alloc rH.size (.cells #[Value.int .i64 p.k,.int .i64 p.l,.int .i64 p.r] 182));have i1:(0:Int)<=(k:Int):=(by omega);have i2:(k:Int)<(f.ow.length:Int):=(by omega);clear o0 o1 o2 hp nD h1 hI rH;go_wp2_with fail
     go_roundw
     case rel=>exact⟨k+1,_,by omega,by go_num,ab ⟨uh WT,uh Ij,uh Kx⟩⟩
     case measure=>simp[intOf];omega
    .have hd:decide ((k:Int)<(f.ow.length:Int))=false:=(by simp;omega);have iz:k=f.ow.length:=(by omega);have c5:=(h1.alloc (.cells #[] 182)).c5;have Ij:Hid (eu bl (dC f)):=ab (by
      have:=(uh hI).2.1;rw[iz,take_length]at this;unfold dC;rw[uh qF];exact this)
     have HOD:=ab (uh hI).1;have Kz:=ab (uh hI).2.2;have px:Hid ((wr.alloc (.cells #[] 182)).ownsRow wr.heap.size 182 3 (.slice (some ⟨wr.heap.size,0,none⟩) 0 0) 0 []/\Below wr.heap.size wr (wr.alloc (.cells #[] 182))):=ab ⟨ownsRow_lit (base:=wr.heap.size) (e:=182) (size:=3) wr #[] 0 (zq4 _) (by simp[maxLen]) rfl,af wr _⟩;have H1:=ab h1;clear h1 hI iz;obtain⟨wz,hwz⟩:∃wz,wz=wr:=⟨_,rfl⟩;rw[<-hwz]at HOD Kz px H1 c5 ⊢;clear hwz;go_wp2_with fail
     go_loopw [7,42] (λrv j wx=>∃(k:Nat),k<=f.ap.length/\j=.int .i64 k/\Hid (wx.ownsRow wz.heap.size 182 3 rv ((f.ap.take k).filter (yk f)).length (aj ((f.ap.take k).filter (yk f)))/\Below wz.heap.size wz wx)) (λ_ j _=>f.ap.length-(intOf j).toNat)
     case atStart=>exact⟨0,zq5 _,rfl,px⟩
     case round =>
      clear px c5;obtain⟨k,hk,rfl,hI⟩:=hrel;have hF:=(uh H1).below (uh hI).2;have hdo:=(uh HOD).of_eq (w':=wr) ((uh hI).2.block D (ownsRow.lt (uh HOD) D rfl).2);obtain⟨ra,rc,Kn,-,-⟩:=ah (uh hI).1;subst Kn;by_cases ar:k<f.ap.length
      .have hd:decide ((k:Int)<(f.ap.length:Int))=true:=(by simp;omega);obtain⟨g2,cap2,cM,-,-⟩:=aC hF.ap ar;simp only[Value.slice.injEq,true_and]at cM;obtain⟨rfl,rfl⟩:=cM;obtain⟨x0,x1,x2⟩:=aA hF.ap ar;obtain⟨er,n9⟩:=(uh HR).ap (f.ap.getD k az) (by rw[iI ar];exact getElem_mem ar);have aE:=wE (P:=yk f) ar;obtain⟨p,hp⟩:∃p,p=f.ap.getD k az:=⟨_,rfl⟩;rw[<-hp]at x0 x1 x2 er n9 aE;obtain⟨-,n1,n2⟩:=EE wr (Value.int .i64 p.k) (.int .i64 p.l) (.int .i64 p.r) 182;have RZ:D<wr.heap.size:=(ownsRow.lt hdo D rfl).2;obtain⟨⟨-,-⟩,akJ⟩:=hdo.some (j:=p.l) er;have d1:=(ownsRow.cellAt hdo p.l (by omega)).trans (eC (by rw[(uh Ij).1];exact er));have d2:=(ownsRow.cellAt hdo p.r (by omega)).trans (eC (by rw[(uh Ij).1];exact n9));obtain⟨b1,aO⟩:∃b,b=bl.getD p.l false:=⟨_,rfl⟩;obtain⟨b2,ax⟩:∃b,b=bl.getD p.r false:=⟨_,rfl⟩;rw[<-aO]at d1;rw[<-ax]at d2;have e1:decide (p.l∈dC f)=b1:=(by rw[aO];have:=(uh Ij).2 p.l er;cases h:bl.getD p.l false <;> simp_all);have e2:decide (p.r∈dC f)=b2:=(by rw[ax];have:=(uh Ij).2 p.r n9;cases h:bl.getD p.r false <;> simp_all);have bA:=ab aE;have HP:Hid (yk f p=(b1&&b2&&!qJ f p.l p.r)):=ab (by unfold yk;rw[e1,e2]);have cY:=ab ((uh hI).2.alloc (uh hI).2.size (.cells #[.int .i64 (p.k:Int),.int .i64 (p.l:Int),.int .i64 (p.r:Int)] 182));have HRB:=ab ((uh hI).1.alloc (.cells #[.int .i64 (p.k:Int),.int .i64 (p.l:Int),.int .i64 (p.r:Int)] 182));have C6:=ab (hF.alloc (.cells #[.int .i64 (p.k:Int),.int .i64 (p.l:Int),.int .i64 (p.r:Int)] 182));have i1:(0:Int)<=(k:Int):=(by omega);have i2:(k:Int)<(f.ap.length:Int):=(by omega);have dg:((f.ap.take k).filter (yk f)).length<=k:=zq3 (length_filter_le _ _) (by simp;omega);obtain⟨L,hL⟩:∃L,L=(f.ap.take k).filter (yk f):=⟨_,rfl⟩;rw[<-hL]at bA HRB hI dg ⊢;clear hp aE hF hdo aO ax e1 e2 hL;have no:yk f p=false->(f.ap.take (k+1)).filter (yk f)=L:=λh=>by rw[uh bA,h];simp
       have yes:yk f p=true->(f.ap.take (k+1)).filter (yk f)=L++[p]:=λh=>by rw[uh bA,h];simp
       have NO:=ab no;have YES:=ab yes;clear no yes;cases b1
       .go_wp2_with fail
        go_roundw
        case rel=>exact⟨k+1,by omega,by go_num,ab (by rw[uh NO (by rw[uh HP];rfl)];exact⟨uh HRB,uh cY⟩)⟩
        case measure=>simp[intOf];omega
       .cases b2
        .go_wp2_with fail
         go_roundw
         case rel=>exact⟨k+1,by omega,by go_num,ab (by rw[uh NO (by rw[uh HP];rfl)];exact⟨uh HRB,uh cY⟩)⟩
         case measure=>simp[intOf];omega
        .go_wp2_with fail
         refine(ww p.l p.r (uh C6)).mono ?_;rintro e w1 ⟨rfl,rfl⟩;cases de:qJ f p.l p.r
         .have HY:=ab (uh YES (by rw[uh HP,de];rfl));clear YES NO HP de;go_wp2_with (at_builtin;refine aK _ rfl (.tmp 65) (.tmp 67) 177 rfl wz.heap.size 182 i0 _ 3 24 underlying177 iy dG du ef rfl (by decide) _ L.length (aj L) rfl ((uh HRB).alloc _) ⟨_,0,none⟩ 1 [.int .i64 (p.k:Int),.int .i64 (p.l:Int),.int .i64 (p.r:Int)] rfl rfl (aJ _ _ (by simp) [.int .i64 (p.k:Int),.int .i64 (p.l:Int),.int .i64 (p.r:Int)] _) (oJ p) (by omega) (by omega) (by have:=(uh cY).size;simp at this ⊢;omega) ?_)
          intro g4 cap4 w4 dO bU gi;have HN:Hid (w4.ownsRow wz.heap.size 182 3 (.slice (some ⟨g4,0,none⟩) (L.length+1) cap4) ((f.ap.take (k+1)).filter (yk f)).length (aj ((f.ap.take (k+1)).filter (yk f)))/\Below wz.heap.size wz w4):=ab (by
           rw[uh HY,length_append,length_singleton,ec];refine⟨dO,?_⟩;have hb:=(uh cY).alloc (uh cY).size (.cells #[.int .i64 (p.k:Int),.int .i64 (p.l:Int),.int .i64 (p.r:Int)] 182);exact hb.grown bU hb.size (λk hk=>((uh HRB).lt k hk).1))
          clear dO bU gi;go_wp2_with fail
          go_roundw
          case rel=>exact⟨k+1,by omega,by go_num,HN⟩
          case measure=>simp[intOf];omega
         .go_wp2_with fail
          go_roundw
          case rel=>exact⟨k+1,by omega,by go_num,ab (by rw[uh NO (by rw[uh HP,de];rfl)];exact⟨uh HRB,uh cY⟩)⟩
          case measure=>simp[intOf];omega
      .have hd:decide ((k:Int)<(f.ap.length:Int))=false:=(by simp;omega);have iz:k=f.ap.length:=(by omega);have kq:=(uh Kz).trans ((uh hI).2.mono (uh Kz).size);have hs:am (Value.slice aa f.ap.length ac).ownBlock.toList w (Value.slice ra ((f.ap.take k).filter (yk f)).length rc).ownBlock.toList wr:=(am.ofBw (F:=(Value.slice aa f.ap.length ac).ownBlock.toList) kq).foots (λj hj=>zq1 (zq3 (uh Kz).size ((uh hI).1.lt j (by simpa using hj)).1));have hN:=(uh H).newAv (ap':=(f.ap.take k).filter (yk f)) hs (v':=.slice ra ((f.ap.take k).filter (yk f)).length rc) (λj hj=>by simpa using hj) (bW (uh hI).1 (zq5 _));have HN:=ab hN;have HE:Hid (DF f={ f with ap:=(f.ap.take k).filter (yk f) }):=ab (by unfold DF;rw[iz,take_length]);have c5:=hF.c5;have f5:=ownsRow.frozenAt hF.ob 5;clear hs hN iz hF kq hdo;go_wp2_with fail
       go_end0
       exact⟨rfl,_,by rw[uh HE];exact(uh HN).1,(uh HN).2⟩
end
def CY(ms:List Nat):List Value:=(ms++replicate (24-ms.length) 0).map (λn=>Value.int .i64 (n:Nat))++((range 24).map (λc=>Value.int .i64 (AV ms c:Nat))++[Value.int .i64 (ms.length:Nat)])
theorem EG{ms:List Nat}(h:ms.length<=24){k:Nat}(hk:k<24):(CY ms)[k]?=some (.int .i64 ((ms.getD k 0:Nat):Int)):=by
 unfold CY;rw[getElem?_append_left (by simp;omega),getElem?_map,getD_eq_getElem?_getD];by_cases hl:k<ms.length
 .rw[getElem?_append_left hl,getElem?_eq_getElem hl];rfl
 .rw[getElem?_append_right (by omega),getElem?_replicate,if_pos (by omega),getElem?_eq_none (by omega)];rfl
theorem tT{ms:List Nat}(h:ms.length<=24){c:Nat}(hc:c<24):(CY ms)[24+c]?=some (.int .i64 ((AV ms c:Nat):Int)):=by
 unfold CY;have e:((ms++replicate (24-ms.length) 0).map (λn=>Value.int .i64 ((n:Nat):Int))).length=24:=by simp;omega
 rw[getElem?_append_right (by omega),e,Nat.add_sub_cancel_left,getElem?_append_left (by simpa using hc),getElem?_map,getElem?_range hc];rfl
theorem tS{ms:List Nat}(h:ms.length<=24):(CY ms)[48]?=some (.int .i64 ((ms.length:Nat):Int)):=by
 unfold CY;have e:((ms++replicate (24-ms.length) 0).map (λn=>Value.int .i64 ((n:Nat):Int))).length=24:=by simp;omega
 rw[getElem?_append_right (by omega),e,getElem?_append_right (by simp)];simp
theorem EF{ms:List Nat}(h:ms.length<=24):(CY ms).length=49:=by unfold CY;simp;omega
theorem RS{ms:List Nat}{c d:Nat}(hc:c ∉ ms):AV (ms++[c]) d=if d=c then ms.length+1 else AV ms d:=by
 unfold AV;by_cases hd:d=c
 .subst hd;rw[if_pos (by simp),if_pos rfl,idxOf_append,if_neg hc];simp
 .rw[if_neg hd];by_cases hm:d∈ms
  .rw[if_pos (by simp[hm]),if_pos hm,idxOf_append,if_pos hm]
  .rw[if_neg (by simp[hm,hd]),if_neg hm]
theorem ZC{ms:List Nat}{c:Nat}(hl:ms.length<24)(hc:c<24)(hn:c ∉ ms):(((CY ms).set ms.length (.int .i64 (c:Int))).set 48 (.int .i64 ((ms.length+1:Nat):Int))).set (24+c) (.int .i64 ((ms.length+1:Nat):Int))=CY (ms++[c]):=by
 refine ext_getElem? (λj=>?_);have l1:=EF (ms:=ms) (by omega);have l2:=EF (ms:=ms++[c]) (by simp;omega);simp only[getElem?_set,length_set,l1];by_cases hj:j<49
 .by_cases h1:j<24
  .rw[EG (ms:=ms++[c]) (by simp;omega) h1,if_neg (by omega),if_neg (by omega)];by_cases h2:ms.length=j
   .subst h2;rw[if_pos rfl,if_pos (by omega),getD_eq_getElem?_getD,getElem?_append_right (zq4 _)];simp
   .rw[if_neg h2,EG (ms:=ms) (by omega) h1];have e:ms.getD j 0=(ms++[c]).getD j 0:=by
     rw[getD_eq_getElem?_getD,getD_eq_getElem?_getD];by_cases h3:j<ms.length
     .rw[getElem?_append_left h3]
     .rw[getElem?_eq_none (by omega),getElem?_eq_none (by simp;omega)]
    rw[e]
  .by_cases h2:j=48
   .subst h2;rw[tS (ms:=ms++[c]) (by simp;omega),if_neg (by omega),if_pos rfl,if_pos (by omega)];simp
   .obtain⟨d,hd⟩:∃d,j=24+d:=⟨j-24,by omega⟩;subst hd;rw[tT (ms:=ms++[c]) (by simp;omega) (by omega),RS hn];by_cases h3:d=c
    .subst h3;rw[if_pos rfl,if_pos (by omega),if_pos rfl]
    .rw[if_neg (by omega),if_neg (by omega),if_neg (by omega),tT (ms:=ms) (by omega) (by omega),if_neg h3]
 .rw[if_neg (by omega),if_neg (by omega),if_neg (by omega),getElem?_eq_none (by omega),getElem?_eq_none (by omega)]
structure Nu(w:World)(N:Nat)(ms:List Nat):Prop where
 ob:Ob w 290 49 N (CY ms)
 ok:dY ms
section
variable {w w':World} {N:Nat} {ms:List Nat}
theorem Nu.of_eq(h:Nu w N ms)(he:w'.heap[N]?=w.heap[N]?):Nu w' N ms:=⟨h.ob.of_eq he,h.ok⟩
theorem Nu.ltN(h:Nu w N ms):N<w.heap.size:=(ownsRow.lt h.ob N rfl).2
theorem Nu.below(h:Nu w N ms)(hb:Below w.heap.size w w'):Nu w' N ms:=h.of_eq (hb.block N h.ltN)
theorem Nu.old(h:Nu w N ms){k:Nat}(hk:k<24):w.cell? ⟨N,k,none⟩=some (.int .i64 ((ms.getD k 0:Nat):Int)):=(ownsRow.cellAt h.ob k (by omega)).trans (EG h.ok.len hk)
theorem Nu.fresh(h:Nu w N ms){c:Nat}(hc:c<24):w.cell? ⟨N,24+c,none⟩=some (.int .i64 ((AV ms c:Nat):Int)):=(ownsRow.cellAt h.ob (24+c) (by omega)).trans (tT h.ok.len hc)
theorem Nu.count(h:Nu w N ms):w.cell? ⟨N,48,none⟩=some (.int .i64 ((ms.length:Nat):Int)):=(ownsRow.cellAt h.ob 48 (by omega)).trans (tS h.ok.len)
theorem Nu.frz(h:Nu w N ms)(j:Nat):w.frozen? ⟨N,j,none⟩=false:=ownsRow.frozenAt h.ob j
theorem tP(h:Nu w N ms){c:Nat}(hc:c<24):Calls prog 223 #[.pointer (some ⟨N,0,none⟩),.int .i64 c] w λe w'=>e=.returned (.tuple #[])/\Nu w' N (gB ms c)/\am [N] w [N] w':=by
 have f7:=h.fresh hc;have P8:=h.count;have hz:=h.frz;by_cases hm:c∈ms
 .have tt:0<AV ms c:=by unfold AV;rw[if_pos hm];omega
  obtain⟨x,hx⟩:∃x,x=AV ms c:=⟨_,rfl⟩;rw[<-hx]at f7 tt;have hd:decide ((0:Int)<(x:Int))=true:=by simp;omega
  have HE:Hid (gB ms c=ms):=ab (by unfold gB;rw[if_pos hm]);have H:=ab h;clear h hx hm hz P8;go_enter func223,ntmps223;go_wp2_with fail
  refine bodyPost_ret (v:=.tuple #[]) (by simp[results,Tryz.f223]) rfl ?_;exact⟨rfl,by rw[uh HE];exact uh H,am.refl _ _⟩
 .have hx:AV ms c=0:=by unfold AV;rw[if_neg hm]
  rw[hx]at f7;have hl:ms.length<24:=by
   have h1:=(h.ok.me hc).len;unfold gB at h1;rw[if_neg hm,length_append,length_singleton]at h1;omega
  have o1:=h.ob.stored ms.length (.int .i64 (c:Int));have o2:=o1.stored 48 (.int .i64 ((ms.length+1:Nat):Int));have o3:=o2.stored (24+c) (.int .i64 ((ms.length+1:Nat):Int));rw[ZC hl hc hm]at o3;have c2:=ownsRow.cellAt o1 48 (by omega);rw[getElem?_set,if_neg (by omega),tS (by omega)]at c2;have f2:=ownsRow.frozenAt o1 48;have c3:=ownsRow.cellAt o2 48 (by omega);rw[getElem?_set,if_pos rfl,if_pos (by rw[length_set,EF (by omega)];omega)]at c3;obtain⟨⟨u4,c4⟩,f4⟩:=o2.some (j:=24+c) (by omega);obtain⟨⟨u5,c5⟩,f5⟩:=h.ob.some (j:=ms.length) (by omega);have bA:Hid (am [N] w [N] (((w.setCell ⟨N,ms.length,none⟩ (.int .i64 (c:Int))).setCell ⟨N,48,none⟩ (.int .i64 ((ms.length+1:Nat):Int))).setCell ⟨N,24+c,none⟩ (.int .i64 ((ms.length+1:Nat):Int)))):=ab ((((am.refl [N] w).setCell (p:=⟨N,ms.length,none⟩) (zq0 (by simp)) _).setCell (p:=⟨N,48,none⟩) (zq0 (by simp)) _).setCell (p:=⟨N,24+c,none⟩) (zq0 (by simp)) _);have HN:Hid (Nu (((w.setCell ⟨N,ms.length,none⟩ (.int .i64 (c:Int))).setCell ⟨N,48,none⟩ (.int .i64 ((ms.length+1:Nat):Int))).setCell ⟨N,24+c,none⟩ (.int .i64 ((ms.length+1:Nat):Int))) N (gB ms c)):=ab (by
   have e:gB ms c=ms++[c]:=(by unfold gB;rw[if_neg hm]);have h1:=h.ok.me hc;rw[e]at h1 ⊢;exact⟨o3,h1⟩)
  obtain⟨n,hn⟩:∃n,n=ms.length:=⟨_,rfl⟩;rw[<-hn]at P8 hl c2 f2 c3 c4 f4 c5 f5 bA HN;rw[show((n+1:Nat):Int)=(n:Int)+1 by omega]at c3 c4 f4 bA HN;have hd:decide ((0:Int)<0)=false:=by decide
  clear o1 o2 o3 h hx hm hn hz;go_enter func223,ntmps223;go_wp2_with fail
  go_region
  go_wp2_with fail
  go_region
  go_wp2_with fail
  go_end0
  exact⟨rfl,(uh HN).of_eq rfl,(uh bA).drew.drew⟩
end
section
variable {w:World} {A N:Nat} {f:CF} {av ov:Value} {ms:List Nat}
theorem uj(hF:dm w A f av ov)(hN:Nu w N ms)(hd:∀k∈aG A av ov,k≠N)(hO:∀p∈f.ow,p.l<24/\p.r<24){k0:Nat}(hk0:k0<=24):Calls prog 224 #[.pointer (some ⟨A,0,none⟩),.pointer (some ⟨N,0,none⟩),.int .i64 k0] w λe w'=>e=.returned (.tuple #[])/\Nu w' N (my f 25 k0 ms)/\am [N] w [N] w':=by
 have HF:=ab hF;have HD:=ab hd;have HO:=ab hO;obtain⟨R,hR⟩:∃R,R=my f 25 k0 ms:=⟨_,rfl⟩;have bR:Hid (Nu w N ms/\my f 25 k0 ms=R/\am [N] w [N] w):=ab ⟨hN,hR.symm,am.refl _ _⟩;rw[<-hR];clear hF hN hd hO hR;go_enter func224,ntmps224;go_wp2_with fail
 go_loopw [6] (λi wx=>∃(k n:Nat) (ml:List Nat),k<=24/\24<n+k/\i=.int .i64 k/\Hid (Nu wx N ml/\my f n k ml=R/\am [N] w [N] wx)) (λi _=>25-(intOf i).toNat)
 case atStart=>exact⟨k0,25,ms,hk0,by omega,rfl,bR⟩
 case round =>
  clear bR;obtain⟨k,n,ml,hk,hn,rfl,hI⟩:=hrel;have P8:=(uh hI).1.count;have dl:=(uh hI).1.ok.len;by_cases ar:k<ml.length
  .have hd:decide ((k:Int)<(ml.length:Int))=true:=(by simp;omega);have f8:=(uh hI).1.old (k:=k) (by omega);have D7:k<24:=(by omega);obtain⟨n',rfl⟩:∃n',n=n'+1:=⟨n-1,by omega⟩;have aE:my f n' (k+1) (xD f k ml)=R:=by
    have:=(uh hI).2.1;unfold my at this;rwa [if_pos ar]at this
   have R8:=(uh HF).of_eq (w':=wr) (λj hj=>(uh hI).2.2.block j ((uh HF).lt j hj) (by simpa using uh HD j hj));have HB:=ab (cj (ml.getD k 0) R8);have bA:=ab aE;have QM:Hid (xD f k ml=match dJ f.ow (ml.getD k 0) with|some i=>gB ml (f.ow.getD i az).r|none=>ml):=ab rfl;obtain⟨c,hc⟩:∃c,c=ml.getD k 0:=⟨_,rfl⟩;rw[<-hc]at f8 HB QM;have UU:=ab R8;have HN:=ab (uh hI).1;have HP:=ab (uh hI).2.2;obtain⟨L,hL⟩:∃L,L=ml.length:=⟨_,rfl⟩;rw[<-hL]at P8 hd ar;clear aE R8 hc hI hL dl;go_wp2_with fail
   refine(uh HB).mono ?_;rintro e w1 ⟨rfl,rfl⟩;have hg:=pX (dJ f.ow c);cases hb:dJ f.ow c with
   |none =>
    rw[hb]at hg QM;have bz:Hid (xD f k ml=ml):=ab (uh QM);clear QM;go_wp2_with fail
    go_roundw
    case rel=>exact⟨k+1,n',ml,by omega,by omega,by go_num,ab ⟨uh HN,by have:=uh bA;rw[uh bz]at this;exact this,uh HP⟩⟩
    case measure=>simp[intOf];omega
   |some i =>
    rw[hb]at hg QM;have bz:Hid (xD f k ml=gB ml (f.ow.getD i az).r):=ab (uh QM);clear QM;obtain⟨hi,-⟩:=eW hb;have c6:=(uh UU).c6;obtain⟨g,cap,cM,-,-⟩:=aC (uh UU).ow hi;subst cM;obtain⟨x0,x1,x2⟩:=aA (uh UU).ow hi;have n9:=(uh HO (f.ow.getD i az) (cy hi)).2;obtain⟨p,hp⟩:∃p,p=f.ow.getD i az:=⟨_,rfl⟩;rw[<-hp]at x0 x1 x2 n9 bz;have HM:=ab (tP (uh HN) n9);rw[show eH (some i)=(i:Int) from rfl]at hg ⊢;have i1:(0:Int)<=(i:Int):=(by omega);have i2:(i:Int)<(f.ow.length:Int):=(by omega);clear hp hb;go_wp2_with fail
    refine(uh HM).mono ?_;rintro e w2 ⟨rfl,sY,ce⟩;have vX:=ab sY;have HP2:=ab ((uh HP).trans ce);clear sY ce;go_wp2_with fail
    go_roundw
    case rel=>exact⟨k+1,n',_,by omega,by omega,by go_num,ab ⟨uh vX,by have:=uh bA;rw[uh bz]at this;exact this,uh HP2⟩⟩
    case measure=>simp[intOf];omega
  .have hd:decide ((k:Int)<(ml.length:Int))=false:=(by simp;omega);have HE:Hid (ml=R):=ab (by
    have:=(uh hI).2.1;cases n with
    |zero=>exact this
    |succ n=>unfold my at this;rwa [if_neg ar]at this)
   go_wp2_with fail
   go_end0
   exact⟨rfl,by rw[<-uh HE];exact(uh hI).1,(uh hI).2.2⟩
end
section
variable {w:World} {N:Nat} {v:Value} {l:List Pr} {ms:List Nat}
theorem wn(h:w.ownsRow 0 182 3 v l.length (aj l))(hN:Nu w N ms)(hv:v.ownBlock≠some N)(hm:∀p∈l,p.l∈ms/\p.r∈ms)(hl:l.length<=100000):
  Calls prog 225 #[.pointer (some ⟨N,0,none⟩),v] w λe w'=>e=.returned (.tuple #[])/\w'.ownsRow 0 182 3 v l.length (aj (l.map (uW ms)))/\am v.ownBlock.toList w v.ownBlock.toList w':=by
 obtain⟨va,vc,Em,Jr,NE⟩:=ah h;subst Em;have px:Hid (w.ownsRow 0 182 3 (.slice va l.length vc) l.length (aj (br (uW ms) l 0))/\am (Value.slice va l.length vc).ownBlock.toList w (Value.slice va l.length vc).ownBlock.toList w):=ab ⟨by simpa[br] using h,am.refl _ _⟩;have HN:=ab hN;have HV:=ab hv;have HM:=ab hm;clear h hN hv hm;go_enter func225,ntmps225;go_wp2_with fail
 go_loopw [4] (λi wx=>∃(k:Nat),k<=l.length/\i=.int .i64 k/\Hid (wx.ownsRow 0 182 3 (.slice va l.length vc) l.length (aj (br (uW ms) l k))/\am (Value.slice va l.length vc).ownBlock.toList w (Value.slice va l.length vc).ownBlock.toList wx)) (λi _=>l.length-(intOf i).toNat)
 case atStart=>exact⟨0,zq5 _,rfl,px⟩
 case round =>
  clear px;obtain⟨k,hk,rfl,hI⟩:=hrel;by_cases ar:k<l.length
  .have hd:decide ((k:Int)<(l.length:Int))=true:=(by simp;omega);obtain⟨g,cap,cM,-,-,-⟩:=aS (uh hI).1 (by omega);simp only[Value.slice.injEq,true_and]at cM;obtain⟨rfl,rfl⟩:=cM;have hgN:g≠N:=λe=>uh HV (by rw[e];rfl);have R9:Nu wr N ms:=(uh HN).of_eq ((uh hI).2.block N (uh HN).ltN (by simpa[Value.ownBlock] using λe=>hgN e.symm));have hK:=jE (g:=uW ms) ar;have hr:=(uh hI).1;have dg:=iE (uW ms) l k;have Jj:wr.ownsRow 0 182 3 (.slice (some ⟨g,0,none⟩) (br (uW ms) l k).length vc) (br (uW ms) l k).length (aj (br (uW ms) l k)):=(by rw[dg];exact hr);obtain⟨-,x1,x2⟩:=aA Jj (i:=k) (by omega);obtain⟨er,n9⟩:=uh HM (l.getD k az) (cy ar);have aE:=jF (g:=uW ms) ar;rw[hK]at x1 x2;obtain⟨p,hp⟩:∃p,p=l.getD k az:=⟨_,rfl⟩;rw[<-hp]at x1 x2 er n9 aE hK;have f1:=hr.frozenAt (k*3+1);have f2:=hr.frozenAt (k*3+2);have q1:=R9.fresh (R9.ok.2 p.l er);have q2:=R9.fresh (R9.ok.2 p.r n9);have e1:AV ms p.l=ms.idxOf p.l+1:=(by unfold AV;rw[if_pos er]);have e2:AV ms p.r=ms.idxOf p.r+1:=(by unfold AV;rw[if_pos n9]);rw[e1]at q1;rw[e2]at q2;have b1:=k8 R9.ok er;have b2:=k8 R9.ok n9;have b3:=R9.ok.2 p.l er;have b4:=R9.ok.2 p.r n9;obtain⟨x,hx⟩:∃x,x=ms.idxOf p.l:=⟨_,rfl⟩;obtain⟨y,hy⟩:∃y,y=ms.idxOf p.r:=⟨_,rfl⟩;rw[<-hx]at q1 b1;rw[<-hy]at q2 b2;rw[show((x+1:Nat):Int)=(x:Int)+1 by omega]at q1;rw[show((y+1:Nat):Int)=(y:Int)+1 by omega]at q2;have i1:(0:Int)<=(k:Int):=(by omega);have i2:(k:Int)<(l.length:Int):=(by omega);have s1:(wr.setCell ⟨g,k*3+1,none⟩ (.int .i64 (x:Int))).ownsRow 0 182 3 (.slice (some ⟨g,0,none⟩) l.length vc) l.length (aj ((br (uW ms) l k).set k ⟨p.k,x,p.r⟩)):=by
    have:=(hr.stored (k*3+1) (.int .i64 (x:Int))).1;rw[gS (by omega),hK]at this;exact this
   have s2:((wr.setCell ⟨g,k*3+1,none⟩ (.int .i64 (x:Int))).setCell ⟨g,k*3+2,none⟩ (.int .i64 (y:Int))).ownsRow 0 182 3 (.slice (some ⟨g,0,none⟩) l.length vc) l.length (aj (br (uW ms) l (k+1))):=by
    have:=(s1.stored (k*3+2) (.int .i64 (y:Int))).1;rw[ej (by simp;omega)]at this;rw[aE];have e:uW ms p=⟨p.k,x,y⟩:=(by unfold uW;rw[<-hx,<-hy]);rw[e];simpa[dg,ar] using this
   have y2:(wr.setCell ⟨g,k*3+1,none⟩ (.int .i64 (x:Int))).cell? ⟨g,k*3+2,none⟩=some (.int .i64 (p.r:Int)):=by
    rw[cell?_setCell_other _ _ _ _ (by simp)];exact x2
   have z2:=s1.frozenAt (k*3+2);have q2':(wr.setCell ⟨g,k*3+1,none⟩ (.int .i64 (x:Int))).cell? ⟨N,24+p.r,none⟩=some (.int .i64 ((y:Int)+1)):=by
    rw[cell?_setCell_other _ _ _ _ (by simp only[ne_eq,Addr.mk.injEq,not_and];intro e;exact absurd e hgN)];exact q2
   have HS:=ab s2;have bA:Hid (am (Value.slice (some ⟨g,0,none⟩) l.length vc).ownBlock.toList w (Value.slice (some ⟨g,0,none⟩) l.length vc).ownBlock.toList ((wr.setCell ⟨g,k*3+1,none⟩ (.int .i64 (x:Int))).setCell ⟨g,k*3+2,none⟩ (.int .i64 (y:Int)))):=ab (((uh hI).2.setCell (p:=⟨g,k*3+1,none⟩) (zq0 (by simp[Value.ownBlock])) _).setCell (p:=⟨g,k*3+2,none⟩) (zq0 (by simp[Value.ownBlock])) _);clear hr Jj hK dg hp s1 s2 hI aE R9 er n9 e1 e2 hx hy hgN;go_wp2_with fail
   go_region
   go_wp2_with fail
   go_region
   go_wp2_with fail
   go_roundw
   case rel=>exact⟨k+1,by omega,by go_num,ab ⟨(uh HS).drew.drew,(uh bA).drew.drew⟩⟩
   case measure=>simp[intOf];omega
  .have hd:decide ((k:Int)<(l.length:Int))=false:=(by simp;omega);have HE:Hid (br (uW ms) l k=l.map (uW ms)):=ab (tM (by omega));go_wp2_with fail
   go_end0
   exact⟨rfl,by rw[<-uh HE];exact(uh hI).1,(uh hI).2⟩
end
def Is(g:Nat->Nat)(c:List Nat)(k:Nat):List Nat:=(c.take k).map g++c.drop k
theorem Lj{g:Nat->Nat}{c:List Nat}{k:Nat}(hk:k<c.length):Is g c (k+1)=(Is g c k).set k (g (c.getD k 0))/\(Is g c k).getD k 0=c.getD k 0:=by
 unfold Is;have e:c.drop k=c[k]::c.drop (k+1):=drop_eq_getElem_cons hk;have e0:c.getD k 0=c[k]:=by simp[hk]
 have e2:(c.take (k+1)).map g=(c.take k).map g++[g c[k]]:=by
  rw[take_add_one,getElem?_eq_getElem hk,map_append];rfl
 have e3:((c.take k).map g).length=k:=by simp;omega
 refine⟨?_,?_⟩
 .rw[e2,e,set_append_right _ _ (by omega),e3,Nat.sub_self,set_cons_zero,append_assoc,e0];rfl
 .rw[getD_eq_getElem?_getD,getElem?_append_right (by omega),e3,Nat.sub_self,e,e0];rfl
theorem ip{α:Type}{g:α->Pr->α}{a:α}{l:List Pr}{k:Nat}(hk:k<l.length):(l.take (k+1)).foldl g a=g ((l.take k).foldl g a) (l.getD k az):=by
 rw[iI hk,take_add_one,getElem?_eq_getElem hk,foldl_append];rfl
theorem ZB:CY []=replicate 49 (Value.int .i64 0):=rfl
theorem ZA(w:World):Nu (w.alloc (.cells (CY []).toArray 290)) w.heap.size [] :=
 ⟨ownsRow_lit (base:=0) (e:=290) (size:=49) w (CY []).toArray 1 (zq5 _) (by simp[maxLen]) rfl,dY.nil⟩
section
variable {w:World} {A:Nat} {f:CF} {av ov:Value}
theorem zp(h:Fm w A f av ov)(hO:au f)(hl:∀p∈f.ap,p.l∈dC f/\p.r∈dC f)(ha:f.ap.length<=100000):Calls prog 198 #[.pointer (some ⟨A,0,none⟩)] w λe w'=>e=.returned (.tuple #[])/\Fm w' A (B1 f) av ov/\am (aG A av ov) w (aG A av ov) w':=by
 obtain⟨oa,oc,dB,-,-⟩:=ah h.is.ow;subst dB;obtain⟨aa,ac,eS,-,-⟩:=ah h.is.ap;subst eS;obtain⟨w0,fS⟩:∃w0,w0=w.alloc (.cells (CY []).toArray 290):=⟨_,rfl⟩;have qP:Below w.heap.size w w0:=by rw[fS];exact af w _
 have Vy:Nu w0 w.heap.size []:=by rw[fS];exact ZA w
 have h0:=h.below qP;have aM:∀k∈aG A (.slice aa f.ap.length ac) (.slice oa f.ow.length oc),k≠w.heap.size:=λk hk=>by have:=h.lt k hk;omega
 have x0:=h0.is.cls (i:=0) (by omega);have x1:=h0.is.cls (i:=1) (by omega);have x2:=h0.is.cls (i:=2) (by omega);have x3:=h0.is.cls (i:=3) (by omega);have x4:=h0.is.cls (i:=4) (by omega);unfold eR at x0 x1 x2 x3 x4;have de:=hO.cl;unfold jM at de;have hcL:jM f=[f.cl.getD 0 0,f.cl.getD 1 0,f.cl.getD 2 0,f.cl.getD 3 0,f.cl.getD 4 0]:=rfl;obtain⟨y0,e0⟩:∃y,y=f.cl.getD 0 0:=⟨_,rfl⟩;obtain⟨y1,e1⟩:∃y,y=f.cl.getD 1 0:=⟨_,rfl⟩;obtain⟨y2,e2⟩:∃y,y=f.cl.getD 2 0:=⟨_,rfl⟩;obtain⟨y3,e3⟩:∃y,y=f.cl.getD 3 0:=⟨_,rfl⟩;obtain⟨y4,e4⟩:∃y,y=f.cl.getD 4 0:=⟨_,rfl⟩;rw[<-e0,<-e1,<-e2,<-e3,<-e4]at de hcL;rw[<-e0]at x0;rw[<-e1]at x1;rw[<-e2]at x2;rw[<-e3]at x3;rw[<-e4]at x4;have l0:y0<24:=de y0 (by simp);have l1:y1<24:=de y1 (by simp);have l2:y2<24:=de y2 (by simp);have l3:y3<24:=de y3 (by simp);have l4:y4<24:=de y4 (by simp);have j0:=yI (.int .i64 (y0:Int)) (.int .i64 (y1:Int)) (.int .i64 (y2:Int)) (.int .i64 (y3:Int)) (.int .i64 (y4:Int));have j1:=yJ (.int .i64 (y0:Int)) (.int .i64 (y1:Int)) (.int .i64 (y2:Int)) (.int .i64 (y3:Int)) (.int .i64 (y4:Int));have j2:=yK (.int .i64 (y0:Int)) (.int .i64 (y1:Int)) (.int .i64 (y2:Int)) (.int .i64 (y3:Int)) (.int .i64 (y4:Int));have j3:=yL (.int .i64 (y0:Int)) (.int .i64 (y1:Int)) (.int .i64 (y2:Int)) (.int .i64 (y3:Int)) (.int .i64 (y4:Int));have j4:=yN (.int .i64 (y0:Int)) (.int .i64 (y1:Int)) (.int .i64 (y2:Int)) (.int .i64 (y3:Int)) (.int .i64 (y4:Int));obtain⟨N,hNe⟩:∃N,N=w.heap.size:=⟨_,rfl⟩;rw[<-hNe]at Vy aM;have WR:=ab hNe;have H:=ab h;have H0:=ab h0;have Ia:=ab qP;have rj:=ab aM;have qF:=ab hcL;have f8:=hO.owLen;have HO:=ab hO;have HL:=ab hl;have bR:Hid (Nu w0 N (([y0,y1,y2,y3,y4].take 0).foldl gB [])/\am [N] w0 [N] w0):=ab ⟨Vy,am.refl _ _⟩;clear h h0 e0 e1 e2 e3 e4 de hcL hO Vy qP aM hl;obtain⟨ag,hag⟩:∃ag,ag=Value.agg (CY []).toArray:=⟨_,rfl⟩;rw[ZB]at fS hag;simp only[replicate]at fS hag;go_enter func198,ntmps198;go_upto_region 1 with fail;rw[<-fS,<-hag,<-hNe];clear fS hNe hag;go_wp2_with fail
 go_loopw [15] (λi wx=>∃(k:Nat),k<=5/\i=.int .i64 k/\Hid (Nu wx N (([y0,y1,y2,y3,y4].take k).foldl gB [])/\am [N] w0 [N] wx)) (λi _=>5-(intOf i).toNat)
 case atStart=>exact⟨0,zq5 _,rfl,bR⟩
 case round =>
  clear bR x0 x1 x2 x3 x4;obtain⟨k,hk,rfl,hI⟩:=hrel;obtain⟨m,hm⟩:∃m,m=([y0,y1,y2,y3,y4].take k).foldl gB []:=⟨_,rfl⟩;have HM:=ab hm;rw[<-hm]at hI;clear hm;have uI:Hid (∀c:Nat,c<24->Calls prog 223 #[.pointer (some ⟨N,0,none⟩),.int .i64 c] wr λe w'=>e=.returned (.tuple #[])/\Nu w' N (gB m c)/\am [N] w0 [N] w'):=ab (λc hc=>(tP (uh hI).1 hc).mono (λe w' hw=>⟨hw.1,hw.2.1,(uh hI).2.trans hw.2.2⟩));have th:k=0\/k=1\/k=2\/k=3\/k=4\/k=5:=by omega
  rcases th with rfl|rfl|rfl|rfl|rfl|rfl
  .go_wp2_with fail
   refine(uh uI y0 l0).mono ?_;rintro e w1 ⟨rfl,mq,cN⟩;have Fk:Hid (Nu w1 N (([y0,y1,y2,y3,y4].take 1).foldl gB [])/\am [N] w0 [N] w1):=ab ⟨by rw[uh HM]at mq;exact mq,cN⟩;clear mq cN;go_wp2_with fail
   go_roundw
   case rel=>exact⟨1,by omega,by go_num,Fk⟩
   case measure=>simp[intOf]
  .go_wp2_with fail
   refine(uh uI y1 l1).mono ?_;rintro e w1 ⟨rfl,mq,cN⟩;have Fk:Hid (Nu w1 N (([y0,y1,y2,y3,y4].take 2).foldl gB [])/\am [N] w0 [N] w1):=ab ⟨by rw[uh HM]at mq;exact mq,cN⟩;clear mq cN;go_wp2_with fail
   go_roundw
   case rel=>exact⟨2,by omega,by go_num,Fk⟩
   case measure=>simp[intOf]
  .go_wp2_with fail
   refine(uh uI y2 l2).mono ?_;rintro e w1 ⟨rfl,mq,cN⟩;have Fk:Hid (Nu w1 N (([y0,y1,y2,y3,y4].take 3).foldl gB [])/\am [N] w0 [N] w1):=ab ⟨by rw[uh HM]at mq;exact mq,cN⟩;clear mq cN;go_wp2_with fail
   go_roundw
   case rel=>exact⟨3,by omega,by go_num,Fk⟩
   case measure=>simp[intOf]
  .go_wp2_with fail
   refine(uh uI y3 l3).mono ?_;rintro e w1 ⟨rfl,mq,cN⟩;have Fk:Hid (Nu w1 N (([y0,y1,y2,y3,y4].take 4).foldl gB [])/\am [N] w0 [N] w1):=ab ⟨by rw[uh HM]at mq;exact mq,cN⟩;clear mq cN;go_wp2_with fail
   go_roundw
   case rel=>exact⟨4,by omega,by go_num,Fk⟩
   case measure=>simp[intOf]
  .go_wp2_with fail
   refine(uh uI y4 l4).mono ?_;rintro e w1 ⟨rfl,mq,cN⟩;have Fk:Hid (Nu w1 N (([y0,y1,y2,y3,y4].take 5).foldl gB [])/\am [N] w0 [N] w1):=ab ⟨by rw[uh HM]at mq;exact mq,cN⟩;clear mq cN;go_wp2_with fail
   go_roundw
   case rel=>exact⟨5,by omega,by go_num,Fk⟩
   case measure=>simp[intOf]
  .rw[show((5:Nat):Int)=(5:Int) from rfl];have zX:m=(jM f).foldl gB []:=(by rw[uh HM,uh qF];rfl);have iT:=(uh H0).is.of_eq (w':=wr) (λj hj=>(uh hI).2.block j ((uh H0).lt j hj) (by simpa using uh rj j hj));have Da:=ab (uj iT (uh hI).1 (uh rj) (uh HO).ow (k0:=0) (by omega));have bA:=ab (uh hI).2;rw[zX]at Da;clear j0 j1 j2 j3 j4 l0 l1 l2 l3 l4 zX iT hI HM uI;go_wp2_with fail
   refine(uh Da).mono ?_;rintro e w1 ⟨rfl,mq,cN⟩;have mt:=(uh bA).trans cN;have iT:=(uh H0).is.of_eq (w':=w1) (λj hj=>mt.block j ((uh H0).lt j hj) (by simpa using uh rj j hj));have c6:=iT.c6;obtain⟨M1,hM1⟩:∃M1,M1=my f 25 0 ((jM f).foldl gB []):=⟨_,rfl⟩;have HM1:=ab hM1;rw[<-hM1]at mq;have dy:Hid (Nu w1 N ((f.ow.take 0).foldl (xt f) M1)/\am [N] w0 [N] w1):=ab ⟨mq,mt⟩;clear mq cN mt iT Da hM1 bA;go_wp2_with fail
   go_loopw [30] (λi wx=>∃(k:Nat),k<=f.ow.length/\i=.int .i64 k/\Hid (Nu wx N ((f.ow.take k).foldl (xt f) M1)/\am [N] w0 [N] wx)) (λi _=>f.ow.length-(intOf i).toNat)
   case atStart=>exact⟨0,zq5 _,rfl,dy⟩
   case round =>
    clear dy c6;obtain⟨k,hk,rfl,hI⟩:=hrel;have iT:=(uh H0).is.of_eq (w':=wr) (λj hj=>(uh hI).2.block j ((uh H0).lt j hj) (by simpa using uh rj j hj));by_cases ar:k<f.ow.length
    .have hd:decide ((k:Int)<(f.ow.length:Int))=true:=(by simp;omega);obtain⟨g,cap,cM,-,-⟩:=aC iT.ow ar;simp only[Value.slice.injEq,true_and]at cM;obtain⟨rfl,rfl⟩:=cM;obtain⟨x0,x1,x2⟩:=aA iT.ow ar;have er:=((uh HO).ow _ (cy ar)).1;have nD:=ip (g:=xt f) (a:=M1) ar;obtain⟨p,hp⟩:∃p,p=f.ow.getD k az:=⟨_,rfl⟩;rw[<-hp]at x0 x1 x2 er nD;obtain⟨m,hm⟩:∃m,m=(f.ow.take k).foldl (xt f) M1:=⟨_,rfl⟩;rw[<-hm]at hI nD;obtain⟨-,n1,-⟩:=EE wr (Value.int .i64 p.k) (.int .i64 p.l) (.int .i64 p.r) 182;have DP:=(uh hI).1.below (af wr (.cells #[Value.int .i64 p.k,.int .i64 p.l,.int .i64 p.r] 182));have P8:=DP.count;have dl:=DP.ok.len;have uI:=ab (tP DP er);have tB:am [N] w0 [N] (wr.alloc (.cells #[Value.int .i64 p.k,.int .i64 p.l,.int .i64 p.r] 182)):=(uh hI).2.trans (am.ofBw (af wr _));have Fo:=ab tB;have J3:=ab nD;have i1:(0:Int)<=(k:Int):=(by omega);have i2:(k:Int)<(f.ow.length:Int):=(by omega);obtain⟨L,hL⟩:∃L,L=m.length:=⟨_,rfl⟩;have HLm:=ab hL;rw[<-hL]at P8 dl;clear hp hm DP tB nD iT hI hL;go_wp2_with fail
     refine(uh uI).mono ?_;rintro e w2 ⟨rfl,sY,ce⟩;have Y2:=(uh Fo).trans ce;have mE:=(uh H0).is.of_eq (w':=w2) (λj hj=>Y2.block j ((uh H0).lt j hj) (by simpa using uh rj j hj));have Da:=ab (uj mE sY (uh rj) (uh HO).ow (k0:=L) dl);have bz:=ab Y2;clear sY ce Y2 mE uI Fo n1 P8;go_wp2_with fail
     refine(uh Da).mono ?_;rintro e w3 ⟨rfl,qN,dP⟩;have HN3:Hid (Nu w3 N ((f.ow.take (k+1)).foldl (xt f) M1)/\am [N] w0 [N] w3):=ab ⟨by
      rw[uh J3];unfold xt;rw[uh HLm]at qN;exact qN,(uh bz).trans dP⟩
     clear qN dP Da bz;go_wp2_with fail
     go_roundw
     case rel=>exact⟨k+1,by omega,by go_num,HN3⟩
     case measure=>simp[intOf];omega
    .have hd:decide ((k:Int)<(f.ow.length:Int))=false:=(by simp;omega);have iz:k=f.ow.length:=(by omega);have SW:(f.ow.take k).foldl (xt f) M1=ku f:=(by rw[iz,take_length,uh HM1];rfl);rw[SW]at hI;obtain⟨R,hR⟩:∃R,R=ku f:=⟨_,rfl⟩;rw[<-hR]at hI;have HR:=ab hR;have hFm:Fm wr A f (.slice aa f.ap.length ac) (.slice oa f.ow.length oc):=(uh H0).of_eq (λj hj=>(uh hI).2.block j ((uh H0).lt j hj) (by simpa using uh rj j hj));have gI:Hid (Fm wr A { f with cl:=Is (λc=>R.idxOf c) f.cl 0 } (.slice aa f.ap.length ac) (.slice oa f.ow.length oc)/\Nu wr N R/\am (N::aG A (.slice aa f.ap.length ac) (.slice oa f.ow.length oc)) w0 (N::aG A (.slice aa f.ap.length ac) (.slice oa f.ow.length oc)) wr):=ab ⟨by simpa[Is] using hFm,(uh hI).1,(uh hI).2.wide (λj hj=>by rw[mem_singleton]at hj;subst hj;simp)⟩;clear iz SW hR hFm iT hI;go_wp2_with fail
     go_loopw [8] (λi wx=>∃(k:Nat),k<=5/\i=.int .i64 k/\Hid (Fm wx A { f with cl:=Is (λc=>R.idxOf c) f.cl k } (.slice aa f.ap.length ac) (.slice oa f.ow.length oc)/\Nu wx N R/\am (N::aG A (.slice aa f.ap.length ac) (.slice oa f.ow.length oc)) w0 (N::aG A (.slice aa f.ap.length ac) (.slice oa f.ow.length oc)) wx)) (λi _=>5-(intOf i).toNat)
     case atStart=>exact⟨0,zq5 _,rfl,gI⟩
     case round =>
      clear gI;obtain⟨k,hk,rfl,hI⟩:=hrel;by_cases ar:k<5
      .have hd:decide ((k:Int)<(5:Int))=true:=(by simp;omega);have aE:=Lj (g:=λc=>R.idxOf c) (c:=f.cl) (k:=k) (by have:=(uh HO).c5;omega);have jX:=(uh HO).get k;have iw:f.cl.getD k 0∈R:=(by rw[uh HR];exact(oN (uh HO).ow (uh HO).cl).2.2.1 _ (fY ar));obtain⟨c,hc⟩:∃c,c=f.cl.getD k 0:=⟨_,rfl⟩;rw[<-hc]at aE jX iw;have x:wr.cell? ⟨A,k,none⟩=some (.int .i64 (c:Int)):=by
        have:=(uh hI).1.is.cls ar;unfold eR at this;rw[this];show some (Value.int .i64 (((Is (λc=>R.idxOf c) f.cl k).getD k 0:Nat):Int))=_;rw[aE.2]
       have fz:wr.frozen? ⟨A,k,none⟩=false:=ownsRow.frozenAt (uh hI).1.is.ob k;have q1:=(uh hI).2.1.fresh jX;have e1:AV R c=R.idxOf c+1:=(by unfold AV;rw[if_pos iw]);rw[e1]at q1;have rJ:=(uh hI).1.setCl k (R.idxOf c) ar;rw[show({ f with cl:=Is (λc=>R.idxOf c) f.cl k }:CF).cl=Is (λc=>R.idxOf c) f.cl k from rfl,<-aE.1]at rJ;have hAN:A≠N:=uh rj A (by simp[aG]);obtain⟨y,hy⟩:∃y,y=R.idxOf c:=⟨_,rfl⟩;rw[<-hy]at q1 rJ;have aqS:y<24:=(by rw[hy];exact k8 (uh hI).2.1.ok iw);rw[show((y+1:Nat):Int)=(y:Int)+1 by omega]at q1;have vX:Hid (Fm (wr.setCell ⟨A,k,none⟩ (.int .i64 (y:Int))) A { f with cl:=Is (λc=>R.idxOf c) f.cl (k+1) } (.slice aa f.ap.length ac) (.slice oa f.ow.length oc)/\Nu (wr.setCell ⟨A,k,none⟩ (.int .i64 (y:Int))) N R/\am (N::aG A (.slice aa f.ap.length ac) (.slice oa f.ow.length oc)) w0 (N::aG A (.slice aa f.ap.length ac) (.slice oa f.ow.length oc)) (wr.setCell ⟨A,k,none⟩ (.int .i64 (y:Int)))):=ab ⟨rJ,(uh hI).2.1.of_eq (heap_setCell _ _ _ _ (λe=>hAN e.symm)),(uh hI).2.2.setCell (p:=⟨A,k,none⟩) (zq0 (by simp[aG])) _⟩;have i1:(0:Int)<=(k:Int):=(by omega);have i2:(k:Int)<(5:Int):=(by omega);have i3:(c:Int)<(24:Int):=(by omega);clear aE iw hc e1 rJ hy hAN hI;go_wp2_with fail
       go_region
       go_wp2_with fail
       go_roundw
       case rel=>exact⟨k+1,by omega,by go_num,ab ⟨(uh vX).1.of_eq (λ_ _=>rfl),(uh vX).2.1.of_eq rfl,(uh vX).2.2.drew⟩⟩
       case measure=>simp[intOf];omega
      .have hd:decide ((k:Int)<(5:Int))=false:=(by simp;omega);have D8:k=5:=(by omega);have de:Is (λc=>R.idxOf c) f.cl k=(jM f).map (λc=>R.idxOf c):=by
        rw[ru (uh HO).c5];unfold Is;have h5:=(uh HO).c5;rw[take_of_length_le (by omega),drop_eq_nil_of_le (by omega),append_nil]
       rw[de]at hI;have gF:∀c∈dC f,c∈R:=(by rw[uh HR];exact oM (uh HO).ow (uh HO).cl (uh HO).lf);have yr:=(uh hI).1;have c6:=yr.is.c6;have hNE:=uh rj;have Qv:=ab (wn yr.is.ow (uh hI).2.1 (λe=>hNE N (by simp only[aG,mem_cons,mem_append,Option.mem_toList];exact zq1 (zq1 e)) rfl) (λp hp=>⟨gF _ (mem_append_right _ (mem_flatMap.2 ⟨p,hp,by simp⟩)),gF _ (mem_append_right _ (mem_flatMap.2 ⟨p,hp,by simp⟩))⟩) (zq3 f8 (by omega)));have WP:=ab gF;clear de D8 gF yr hNE;go_wp2_with fail
       refine(uh Qv).mono ?_;rintro e w4 ⟨rfl,od,eG⟩;obtain⟨pL,vG⟩:=(uh hI).1.newRow (ow':=f.ow.map (uW R)) (by simp) od eG;have hNE:=uh rj;have rE:Nu w4 N R:=(uh hI).2.1.of_eq (eG.block N (uh hI).2.1.ltN (λhj=>hNE N (by simp only[aG,mem_cons,mem_append];exact zq1 (zq1 hj)) rfl));have c5:=pL.is.c5;have abq:=ab (wn pL.is.ap rE (λe=>hNE N (by simp only[aG,mem_cons,mem_append,Option.mem_toList];exact zq1 (zq0 e)) rfl) (λp hp=>⟨uh WP _ (uh HL p hp).1,uh WP _ (uh HL p hp).2⟩) ha);have UR:=ab pL;have dW:Hid (am (N::aG A (.slice aa f.ap.length ac) (.slice oa f.ow.length oc)) w0 (N::aG A (.slice aa f.ap.length ac) (.slice oa f.ow.length oc)) w4):=ab ((uh hI).2.2.trans (vG.wide (λj hj=>mem_cons_of_mem _ hj)));clear od eG pL vG hNE rE Qv;go_wp2_with fail
       refine(uh abq).mono ?_;rintro e w5 ⟨rfl,tx,f9⟩;obtain⟨AX,qZ⟩:=(uh UR).newRowA (ap':=f.ap.map (uW R)) (by simp) tx f9;have US:Hid (Fm w5 A (B1 f) (.slice aa f.ap.length ac) (.slice oa f.ow.length oc)):=ab (by unfold B1;rw[<-uh HR];exact AX);have gN:Hid (am (aG A (.slice aa f.ap.length ac) (.slice oa f.ow.length oc)) w (aG A (.slice aa f.ap.length ac) (.slice oa f.ow.length oc)) w5):=ab (by
        have h1:=(uh dW).trans (qZ.wide (λj hj=>mem_cons_of_mem _ hj));have hb:=uh Ia;exact⟨h1.os.trans hb.os,h1.tape.trans hb.tape,h1.output.trans hb.output,zq3 hb.size h1.size,λj hj hn=>(h1.block j (zq6 hj hb.size) (by
         rw[mem_cons,not_or];exact⟨by have:=uh WR;omega,hn⟩)).trans (hb.block j hj),λj hj=>zq0 hj⟩)
       clear tx f9 AX qZ abq;go_wp2_with fail
       go_end0
       exact⟨rfl,uh US,uh gN⟩
end
theorem XF(a b c x y z:Int)(w:World):(Op.equalIn 10000 182 (.agg #[.int .i64 a,.int .i64 b,.int .i64 c]) (.agg #[.int .i64 x,.int .i64 y,.int .i64 z])).run prog w=.ok (a==x&&(b==y&&c==z)) w:=by
 have u3:=underlying3;have a3:=Tryz.isAgg3;have z3:=sizeOf3;have hS:prog.underlying 182=some (.struct (prog.fieldsOf 182)):=by kernel_rfl
 have hp:prog.stoodInHeld 182=false:=by kernel_rfl
 rw[show(10000:Nat)=9999+1 from rfl,run_equalIn_agg w 9999 182 _ _ hS hp];simp only[Program.fieldsOf,underlying182];go_simp
 by_cases h1:a=x <;> by_cases h2:b=y <;> by_cases h3:c=z <;> simp[h1,h2,h3]
theorem afa(a b c x y z:Int)(w:World):(binOp .neq 182 (.agg #[.int .i64 a,.int .i64 b,.int .i64 c]) (.agg #[.int .i64 x,.int .i64 y,.int .i64 z])).run prog w=.ok (.bool (!(a==x&&(b==y&&c==z)))) w:=by
 rw[run_neq_struct,XF];rfl
theorem Mr:prog.eqGuardType prog.depth 182=false:=by kernel_rfl
