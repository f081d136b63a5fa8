import Derived.Test.YtciihepbeacppaaGreatM13
import Derived.Deep.Cut
import Derived.Deep.CutRange
import Derived.Deep.DeepCutAuto
import Derived.Laws.StructEq
set_option maxRecDepth 100000
set_option maxHeartbeats 0
namespace Go.Proofs.YtciihepbeacppaaGreat
open Tryz Go.RowKit List World Below
set_option linter.unusedVariables false
theorem ew.congr{bl:List Bool}{s t:List Nat}(h:ew bl s)(he:∀c,c∈s↔c∈t):ew bl t:=⟨h.1,λc hc=>(h.2 c hc).trans (he c)⟩
structure Rng(f:CF):Prop where
 cl:∀c∈jJ f,c<24
 ow:Rm f
 ap:VL f
theorem yC(w:World):Ob (w.alloc (.cells (cS (replicate 24 false)).toArray 240)) 240 24 w.heap.size (cS (replicate 24 false)) :=
 ownsRow_lit (base:=0) (e:=240) (size:=24) w (cS (replicate 24 false)).toArray 1 (zq5 _) (by simp[maxLen]) rfl
theorem Bp:ew (replicate 24 false) []:=⟨by simp,λc hc=>by rw[getD_eq_getElem?_getD,getElem?_replicate,if_pos hc];simp⟩
theorem xi{l:List Pr}{P:Pr->Bool}{k:Nat}(hk:k<l.length):(l.take (k+1)).filter P=(l.take k).filter P++(if P (l.getD k au) then [l.getD k au] else []):=by
 rw[gS hk,take_add_one,getElem?_eq_getElem hk,filter_append];congr 1;simp only[Option.toList];cases h:P l[k] <;> simp[h]
theorem Jp{l:List Pr}{k:Nat}(hk:k<l.length):(l.take (k+1)).flatMap (λp=>[p.l,p.r])=(l.take k).flatMap (λp=>[p.l,p.r])++[(l.getD k au).l,(l.getD k au).r]:=by
 rw[gS hk,take_add_one,getElem?_eq_getElem hk,flatMap_append];simp
theorem Ub{S T:List Nat}{a b d:Nat}:d∈b::a::(S++T)↔d∈S++(T++[a,b]):=by
 simp only[mem_cons,mem_append,not_mem_nil,or_false];exact⟨λh=>by rcases h with h|h|h|h <;> simp[h],λh=>by rcases h with h|h|h|h <;> simp[h]⟩
section
variable {w:World} {A:Nat} {f:CF} {av ov:Value}
theorem Ed(h:Fm w A f av ov)(hR:Rng f)(ha:f.ap.length<=100000)(ho:f.ow.length<=100000):Calls prog 197 #[.pointer (some ⟨A,0,none⟩)] w λe w'=>e=.returned (.tuple #[])/\∃av',Fm w' A (my f) av' ov/\ar (aD A av ov) w (aD A av' ov) w':=by
 obtain⟨i0,iL,eo,ep,eK⟩:=info_parts infoPair;obtain⟨oa,oc,d7,-,-⟩:=aj h.is.ow;subst d7;obtain⟨aa,ac,jO,-,-⟩:=aj h.is.ap;subst jO;obtain⟨w0,lm⟩:∃w0,w0=w.alloc (.cells (cS (replicate 24 false)).toArray 240):=⟨_,rfl⟩;have ua:Below w.heap.size w w0:=by rw[lm];exact ah w _
 have S4:Ob w0 240 24 w.heap.size (cS (replicate 24 false)):=by rw[lm];exact yC w
 have h0:=h.is.below ua;have x0:=h0.cls (i:=0) (by omega);have x1:=h0.cls (i:=1) (by omega);have x2:=h0.cls (i:=2) (by omega);have x3:=h0.cls (i:=3) (by omega);have x4:=h0.cls (i:=4) (by omega);unfold fH at x0 x1 x2 x3 x4;have du:=hR.cl;unfold jJ at du;have hcL:jJ f=[f.cl.getD 0 0,f.cl.getD 1 0,f.cl.getD 2 0,f.cl.getD 3 0,f.cl.getD 4 0]:=rfl;obtain⟨y0,e0⟩:∃y,y=f.cl.getD 0 0:=⟨_,rfl⟩;obtain⟨y1,e1⟩:∃y,y=f.cl.getD 1 0:=⟨_,rfl⟩;obtain⟨y2,e2⟩:∃y,y=f.cl.getD 2 0:=⟨_,rfl⟩;obtain⟨y3,e3⟩:∃y,y=f.cl.getD 3 0:=⟨_,rfl⟩;obtain⟨y4,e4⟩:∃y,y=f.cl.getD 4 0:=⟨_,rfl⟩;rw[<-e0,<-e1,<-e2,<-e3,<-e4]at du hcL;rw[<-e0]at x0;rw[<-e1]at x1;rw[<-e2]at x2;rw[<-e3]at x3;rw[<-e4]at x4;have l0:y0<24:=du y0 (by simp);have l1:y1<24:=du y1 (by simp);have l2:y2<24:=du y2 (by simp);have l3:y3<24:=du y3 (by simp);have l4:y4<24:=du y4 (by simp);have j0:=za (.int .i64 (y0:Int)) (.int .i64 (y1:Int)) (.int .i64 (y2:Int)) (.int .i64 (y3:Int)) (.int .i64 (y4:Int));have j1:=zb (.int .i64 (y0:Int)) (.int .i64 (y1:Int)) (.int .i64 (y2:Int)) (.int .i64 (y3:Int)) (.int .i64 (y4:Int));have j2:=zc (.int .i64 (y0:Int)) (.int .i64 (y1:Int)) (.int .i64 (y2:Int)) (.int .i64 (y3:Int)) (.int .i64 (y4:Int));have j3:=zd (.int .i64 (y0:Int)) (.int .i64 (y1:Int)) (.int .i64 (y2:Int)) (.int .i64 (y3:Int)) (.int .i64 (y4:Int));have j4:=ze (.int .i64 (y0:Int)) (.int .i64 (y1:Int)) (.int .i64 (y2:Int)) (.int .i64 (y3:Int)) (.int .i64 (y4:Int));have H:=ab h;have vp:=ab hcL;have HR:=ab hR;have bX:Hid (Ob w0 240 24 w.heap.size (cS (replicate 24 false))/\ew (replicate 24 false) ([y0,y1,y2,y3,y4].take 0)/\Below w.heap.size w w0):=ab ⟨S4,Bp,ua⟩;clear h e0 e1 e2 e3 e4 du hcL hR h0 S4 ua;simp only[cS,replicate,map_cons,map_nil]at lm;go_enter func197,ntmps197;go_upto_region 1 with fail;rw[<-lm];clear lm;go_wp2_with fail
 go_loopw [14] (λi wx=>∃(k:Nat) (bl:List Bool),k<=5/\i=.int .i64 k/\Hid (Ob wx 240 24 w.heap.size (cS bl)/\ew bl ([y0,y1,y2,y3,y4].take k)/\Below w.heap.size w wx)) (λi _=>5-(intOf i).toNat)
 case atStart=>exact⟨0,_,zq5 _,rfl,bX⟩
 case round =>
  clear bX x0 x1 x2 x3 x4;obtain⟨k,bl,hk,rfl,hI⟩:=hrel;have aE:∀c,c<24->(∃u,wr.cell? ⟨w.heap.size,c,none⟩=some u)/\wr.frozen? ⟨w.heap.size,c,none⟩=false:=λc hc=>⟨⟨_,(ownsRow.cellAt (uh hI).1 c (by omega)).trans (eH (by rw[(uh hI).2.1.1];exact hc))⟩,ownsRow.frozenAt (uh hI).1 c⟩;have wg:∀c,c<24->∀t,(∀d,d∈c::([y0,y1,y2,y3,y4].take k)↔d∈t)->Ob (wr.setCell ⟨w.heap.size,c,none⟩ (.bool true)) 240 24 w.heap.size (cS (bl.set c true))/\ew (bl.set c true) t/\Below w.heap.size w (wr.setCell ⟨w.heap.size,c,none⟩ (.bool true)):=λc hc t ht =>
   ⟨by have:=(uh hI).1.stored c (.bool true);rwa [kz]at this,((uh hI).2.1.add hc).congr ht,(uh hI).2.2.setCell (p:=⟨w.heap.size,c,none⟩) (zq4 _) _⟩
  have oM:=ab wg;clear wg;have ub:k=0\/k=1\/k=2\/k=3\/k=4\/k=5:=by omega
  rcases ub with rfl|rfl|rfl|rfl|rfl|rfl
  .obtain⟨⟨u,hu⟩,hz⟩:=aE y0 l0;clear aE;go_wp2_with fail
   go_roundw
   case rel=>exact⟨1,_,by omega,by go_num,ab (uh oM y0 l0 _ (λd=>by simp))⟩
   case measure=>simp[intOf]
  .obtain⟨⟨u,hu⟩,hz⟩:=aE y1 l1;clear aE;go_wp2_with fail
   go_roundw
   case rel=>exact⟨2,_,by omega,by go_num,ab (uh oM y1 l1 _ (λd=>by simp;try omega))⟩
   case measure=>simp[intOf]
  .obtain⟨⟨u,hu⟩,hz⟩:=aE y2 l2;clear aE;go_wp2_with fail
   go_roundw
   case rel=>exact⟨3,_,by omega,by go_num,ab (uh oM y2 l2 _ (λd=>by simp;try omega))⟩
   case measure=>simp[intOf]
  .obtain⟨⟨u,hu⟩,hz⟩:=aE y3 l3;clear aE;go_wp2_with fail
   go_roundw
   case rel=>exact⟨4,_,by omega,by go_num,ab (uh oM y3 l3 _ (λd=>by simp;try omega))⟩
   case measure=>simp[intOf]
  .obtain⟨⟨u,hu⟩,hz⟩:=aE y4 l4;clear aE;go_wp2_with fail
   go_roundw
   case rel=>exact⟨5,_,by omega,by go_num,ab (uh oM y4 l4 _ (λd=>by simp;try omega))⟩
   case measure=>simp[intOf]
  .clear aE oM;rw[show((5:Nat):Int)=(5:Int) from rfl];have h1:=(uh H).is.below (uh hI).2.2;have c6:=h1.c6;obtain⟨D,hD⟩:∃D,D=w.heap.size:=⟨_,rfl⟩;have dc:Hid (Ob wr 240 24 D (cS bl)/\ew bl ([y0,y1,y2,y3,y4]++(f.ow.take 0).flatMap (λp=>[p.l,p.r]))/\Below w.heap.size w wr):=ab ⟨by rw[hD];exact(uh hI).1,(uh hI).2.1,(uh hI).2.2⟩;have HD:=ab hD;clear hI h1 j0 j1 j2 j3 j4 l0 l1 l2 l3 l4;rw[<-hD];clear hD;go_wp2_with fail
   go_loopw [25] (λi wx=>∃(k:Nat) (bl:List Bool),k<=f.ow.length/\i=.int .i64 k/\Hid (Ob wx 240 24 D (cS bl)/\ew bl ([y0,y1,y2,y3,y4]++(f.ow.take k).flatMap (λp=>[p.l,p.r]))/\Below w.heap.size w wx)) (λi _=>f.ow.length-(intOf i).toNat)
   case atStart=>exact⟨0,bl,zq5 _,rfl,dc⟩
   case round =>
    clear dc c6;obtain⟨k,bl,hk,rfl,hI⟩:=hrel;have h1:=(uh H).is.below (uh hI).2.2;by_cases aq:k<f.ow.length
    .have hd:decide ((k:Int)<(f.ow.length:Int))=true:=(by simp;omega);obtain⟨g,cap,cM,-,-⟩:=az h1.ow aq;simp only[Value.slice.injEq,true_and]at cM;obtain⟨rfl,rfl⟩:=cM;obtain⟨x0,x1,x2⟩:=ax h1.ow aq;obtain⟨eE,vF⟩:=(uh HR).ow.at k;have oT:=Jp aq;obtain⟨p,hp⟩:∃p,p=f.ow.getD k au:=⟨_,rfl⟩;rw[<-hp]at x0 x1 x2 eE vF oT;obtain⟨-,n1,n2⟩:=ES wr (Value.int .i64 p.k) (.int .i64 p.l) (.int .i64 p.r) 182;have S7:D<wr.heap.size:=(ownsRow.lt (uh hI).1 D rfl).2;have o0:=(uh hI).1.alloc (.cells #[Value.int .i64 p.k,.int .i64 p.l,.int .i64 p.r] 182);obtain⟨⟨u1,hu1⟩,al1⟩:=o0.some (j:=p.l) eE;have o1:=(uh hI).1.stored p.l (.bool true);rw[kz]at o1;obtain⟨⟨u3,hu3⟩,arU⟩:=o1.some (j:=p.r) vF;have o2:=o1.stored p.r (.bool true);rw[kz]at o2;have n2':((wr.alloc (.cells #[Value.int .i64 p.k,.int .i64 p.l,.int .i64 p.r] 182)).setCell ⟨D,p.l,none⟩ (.bool true)).cell? ⟨wr.heap.size,2,none⟩=some (.int .i64 (p.r:Int)):=by
      rw[cell?_setCell_other _ _ _ _ (by intro e;simp at e;try omega)];exact n2
     have yN:=(((uh hI).2.2.setCell (p:=⟨D,p.l,none⟩) (Nat.le_of_eq (uh HD).symm) (.bool true)).setCell (p:=⟨D,p.r,none⟩) (Nat.le_of_eq (uh HD).symm) (.bool true));have Vz:=ab (o2.alloc (.cells #[Value.int .i64 p.k,.int .i64 p.l,.int .i64 p.r] 182));have QO:Hid (ew ((bl.set p.l true).set p.r true) ([y0,y1,y2,y3,y4]++(f.ow.take (k+1)).flatMap (λp=>[p.l,p.r]))):=ab ((((uh hI).2.1.add eE).add vF).congr (λd=>by rw[oT];exact Ub));have Le:=ab (yN.alloc yN.size (.cells #[Value.int .i64 p.k,.int .i64 p.l,.int .i64 p.r] 182));have i1:(0:Int)<=(k:Int):=(by omega);have i2:(k:Int)<(f.ow.length:Int):=(by omega);clear o0 o1 o2 hp oT h1 hI yN;go_wp2_with fail
     go_roundw
     case rel=>exact⟨k+1,_,by omega,by go_num,ab ⟨uh Vz,uh QO,uh Le⟩⟩
     case measure=>simp[intOf];omega
    .have hd:decide ((k:Int)<(f.ow.length:Int))=false:=(by simp;omega);have gB:k=f.ow.length:=(by omega);have c5:=(h1.alloc (.cells #[] 182)).c5;have QO:Hid (ew bl (db f)):=ab (by
      have:=(uh hI).2.1;rw[gB,take_length]at this;unfold db;rw[uh vp];exact this)
     have HOD:=ab (uh hI).1;have Lg:=ab (uh hI).2.2;have ru:Hid ((wr.alloc (.cells #[] 182)).ownsRow wr.heap.size 182 3 (.slice (some ⟨wr.heap.size,0,none⟩) 0 0) 0 []/\Below wr.heap.size wr (wr.alloc (.cells #[] 182))):=ab ⟨ownsRow_lit (base:=wr.heap.size) (e:=182) (size:=3) wr #[] 0 (zq4 _) (by simp[maxLen]) rfl,ah wr _⟩;have H1:=ab h1;clear h1 hI gB;obtain⟨wz,hwz⟩:∃wz,wz=wr:=⟨_,rfl⟩;rw[<-hwz]at HOD Lg ru H1 c5 ⊢;clear hwz;go_wp2_with fail
     go_loopw [7,42] (λrv j wx=>∃(k:Nat),k<=f.ap.length/\j=.int .i64 k/\Hid (wx.ownsRow wz.heap.size 182 3 rv ((f.ap.take k).filter (yD f)).length (af ((f.ap.take k).filter (yD f)))/\Below wz.heap.size wz wx)) (λ_ j _=>f.ap.length-(intOf j).toNat)
     case atStart=>exact⟨0,zq5 _,rfl,ru⟩
     case round =>
      clear ru c5;obtain⟨k,hk,rfl,hI⟩:=hrel;have hF:=(uh H1).below (uh hI).2;have hdo:=(uh HOD).of_eq (w':=wr) ((uh hI).2.block D (ownsRow.lt (uh HOD) D rfl).2);obtain⟨ra,rc,KZ,-,-⟩:=aj (uh hI).1;subst KZ;by_cases aq:k<f.ap.length
      .have hd:decide ((k:Int)<(f.ap.length:Int))=true:=(by simp;omega);obtain⟨g2,cap2,cM,-,-⟩:=az hF.ap aq;simp only[Value.slice.injEq,true_and]at cM;obtain⟨rfl,rfl⟩:=cM;obtain⟨x0,x1,x2⟩:=ax hF.ap aq;obtain⟨eE,vF⟩:=(uh HR).ap (f.ap.getD k au) (by rw[gS aq];exact getElem_mem aq);have aE:=xi (P:=yD f) aq;obtain⟨p,hp⟩:∃p,p=f.ap.getD k au:=⟨_,rfl⟩;rw[<-hp]at x0 x1 x2 eE vF aE;obtain⟨-,n1,n2⟩:=ES wr (Value.int .i64 p.k) (.int .i64 p.l) (.int .i64 p.r) 182;have S7:D<wr.heap.size:=(ownsRow.lt hdo D rfl).2;obtain⟨⟨-,-⟩,al1⟩:=hdo.some (j:=p.l) eE;have d1:=(ownsRow.cellAt hdo p.l (by omega)).trans (eH (by rw[(uh QO).1];exact eE));have d2:=(ownsRow.cellAt hdo p.r (by omega)).trans (eH (by rw[(uh QO).1];exact vF));obtain⟨b1,a7⟩:∃b,b=bl.getD p.l false:=⟨_,rfl⟩;obtain⟨b2,aL⟩:∃b,b=bl.getD p.r false:=⟨_,rfl⟩;rw[<-a7]at d1;rw[<-aL]at d2;have e1:decide (p.l∈db f)=b1:=(by rw[a7];have:=(uh QO).2 p.l eE;cases h:bl.getD p.l false <;> simp_all);have e2:decide (p.r∈db f)=b2:=(by rw[aL];have:=(uh QO).2 p.r vF;cases h:bl.getD p.r false <;> simp_all);have cK:=ab aE;have HP:Hid (yD f p=(b1&&b2&&!qA f p.l p.r)):=ab (by unfold yD;rw[e1,e2]);have dm:=ab ((uh hI).2.alloc (uh hI).2.size (.cells #[.int .i64 (p.k:Int),.int .i64 (p.l:Int),.int .i64 (p.r:Int)] 182));have VD:=ab ((uh hI).1.alloc (.cells #[.int .i64 (p.k:Int),.int .i64 (p.l:Int),.int .i64 (p.r:Int)] 182));have DB:=ab (hF.alloc (.cells #[.int .i64 (p.k:Int),.int .i64 (p.l:Int),.int .i64 (p.r:Int)] 182));have i1:(0:Int)<=(k:Int):=(by omega);have i2:(k:Int)<(f.ap.length:Int):=(by omega);have cN:((f.ap.take k).filter (yD f)).length<=k:=zq3 (length_filter_le _ _) (by simp;omega);obtain⟨L,hL⟩:∃L,L=(f.ap.take k).filter (yD f):=⟨_,rfl⟩;rw[<-hL]at cK VD hI cN ⊢;clear hp aE hF hdo a7 aL e1 e2 hL;have no:yD f p=false->(f.ap.take (k+1)).filter (yD f)=L:=λh=>by rw[uh cK,h];simp
       have yes:yD f p=true->(f.ap.take (k+1)).filter (yD f)=L++[p]:=λh=>by rw[uh cK,h];simp
       have NO:=ab no;have YES:=ab yes;clear no yes;cases b1
       .go_wp2_with fail
        go_roundw
        case rel=>exact⟨k+1,by omega,by go_num,ab (by rw[uh NO (by rw[uh HP];rfl)];exact⟨uh VD,uh dm⟩)⟩
        case measure=>simp[intOf];omega
       .cases b2
        .go_wp2_with fail
         go_roundw
         case rel=>exact⟨k+1,by omega,by go_num,ab (by rw[uh NO (by rw[uh HP];rfl)];exact⟨uh VD,uh dm⟩)⟩
         case measure=>simp[intOf];omega
        .go_wp2_with fail
         refine(wW p.l p.r (uh DB)).mono ?_;rintro e w1 ⟨rfl,rfl⟩;cases du:qA f p.l p.r
         .have HY:=ab (uh YES (by rw[uh HP,du];rfl));clear YES NO HP du;go_wp2_with (at_builtin;refine aH _ rfl (.tmp 65) (.tmp 67) 177 rfl wz.heap.size 182 i0 _ 3 24 underlying177 iL eo ep eK rfl (by decide) _ L.length (af L) rfl ((uh VD).alloc _) ⟨_,0,none⟩ 1 [.int .i64 (p.k:Int),.int .i64 (p.l:Int),.int .i64 (p.r:Int)] rfl rfl (aP _ _ (by simp) [.int .i64 (p.k:Int),.int .i64 (p.l:Int),.int .i64 (p.r:Int)] _) (pQ p) (by omega) (by omega) (by have:=(uh dm).size;simp at this ⊢;omega) ?_)
          intro g4 cap4 w4 gM dM iJ;have HN:Hid (w4.ownsRow wz.heap.size 182 3 (.slice (some ⟨g4,0,none⟩) (L.length+1) cap4) ((f.ap.take (k+1)).filter (yD f)).length (af ((f.ap.take (k+1)).filter (yD f)))/\Below wz.heap.size wz w4):=ab (by
           rw[uh HY,length_append,length_singleton,cU];refine⟨gM,?_⟩;have hb:=(uh dm).alloc (uh dm).size (.cells #[.int .i64 (p.k:Int),.int .i64 (p.l:Int),.int .i64 (p.r:Int)] 182);exact hb.grown dM hb.size (λk hk=>((uh VD).lt k hk).1))
          clear gM dM iJ;go_wp2_with fail
          go_roundw
          case rel=>exact⟨k+1,by omega,by go_num,HN⟩
          case measure=>simp[intOf];omega
         .go_wp2_with fail
          go_roundw
          case rel=>exact⟨k+1,by omega,by go_num,ab (by rw[uh NO (by rw[uh HP,du];rfl)];exact⟨uh VD,uh dm⟩)⟩
          case measure=>simp[intOf];omega
      .have hd:decide ((k:Int)<(f.ap.length:Int))=false:=(by simp;omega);have gB:k=f.ap.length:=(by omega);have hbw:=(uh Lg).trans ((uh hI).2.mono (uh Lg).size);have hs:ar (Value.slice aa f.ap.length ac).ownBlock.toList w (Value.slice ra ((f.ap.take k).filter (yD f)).length rc).ownBlock.toList wr:=(ar.ofBw (F:=(Value.slice aa f.ap.length ac).ownBlock.toList) hbw).foots (λj hj=>zq1 (zq3 (uh Lg).size ((uh hI).1.lt j (by simpa using hj)).1));have hN:=(uh H).newAv (ap':=(f.ap.take k).filter (yD f)) hs (v':=.slice ra ((f.ap.take k).filter (yD f)).length rc) (λj hj=>by simpa using hj) (dA (uh hI).1 (zq5 _));have HN:=ab hN;have HE:Hid (my f={ f with ap:=(f.ap.take k).filter (yD f) }):=ab (by unfold my;rw[gB,take_length]);have c5:=hF.c5;have f5:=ownsRow.frozenAt hF.ob 5;clear hs hN gB hF hbw hdo;go_wp2_with fail
       go_end0
       exact⟨rfl,_,by rw[uh HE];exact(uh HN).1,(uh HN).2⟩
end
def Dt(ms:List Nat):List Value:=(ms++replicate (24-ms.length) 0).map (λn=>Value.int .i64 (n:Nat))++((range 24).map (λc=>Value.int .i64 (Bz ms c:Nat))++[Value.int .i64 (ms.length:Nat)])
theorem EW{ms:List Nat}(h:ms.length<=24){k:Nat}(hk:k<24):(Dt ms)[k]?=some (.int .i64 ((ms.getD k 0:Nat):Int)):=by
 unfold Dt;rw[getElem?_append_left (by simp;omega),getElem?_map,getD_eq_getElem?_getD];by_cases hl:k<ms.length
 .rw[getElem?_append_left hl,getElem?_eq_getElem hl];rfl
 .rw[getElem?_append_right (by omega),getElem?_replicate,if_pos (by omega),getElem?_eq_none (by omega)];rfl
theorem uD{ms:List Nat}(h:ms.length<=24){c:Nat}(hc:c<24):(Dt ms)[24+c]?=some (.int .i64 ((Bz ms c:Nat):Int)):=by
 unfold Dt;have e:((ms++replicate (24-ms.length) 0).map (λn=>Value.int .i64 ((n:Nat):Int))).length=24:=by simp;omega
 rw[getElem?_append_right (by omega),e,Nat.add_sub_cancel_left,getElem?_append_left (by simpa using hc),getElem?_map,getElem?_range hc];rfl
theorem uC{ms:List Nat}(h:ms.length<=24):(Dt ms)[48]?=some (.int .i64 ((ms.length:Nat):Int)):=by
 unfold Dt;have e:((ms++replicate (24-ms.length) 0).map (λn=>Value.int .i64 ((n:Nat):Int))).length=24:=by simp;omega
 rw[getElem?_append_right (by omega),e,getElem?_append_right (by simp)];simp
theorem EV{ms:List Nat}(h:ms.length<=24):(Dt ms).length=49:=by unfold Dt;simp;omega
theorem SV{ms:List Nat}{c d:Nat}(hc:c ∉ ms):Bz (ms++[c]) d=if d=c then ms.length+1 else Bz ms d:=by
 unfold Bz;by_cases hd:d=c
 .subst hd;rw[if_pos (by simp),if_pos rfl,idxOf_append,if_neg hc];simp
 .rw[if_neg hd];by_cases hm:d∈ms
  .rw[if_pos (by simp[hm]),if_pos hm,idxOf_append,if_pos hm]
  .rw[if_neg (by simp[hm,hd]),if_neg hm]
theorem aaB{ms:List Nat}{c:Nat}(hl:ms.length<24)(hc:c<24)(hn:c ∉ ms):(((Dt ms).set ms.length (.int .i64 (c:Int))).set 48 (.int .i64 ((ms.length+1:Nat):Int))).set (24+c) (.int .i64 ((ms.length+1:Nat):Int))=Dt (ms++[c]):=by
 refine ext_getElem? (λj=>?_);have l1:=EV (ms:=ms) (by omega);have l2:=EV (ms:=ms++[c]) (by simp;omega);simp only[getElem?_set,length_set,l1];by_cases hj:j<49
 .by_cases h1:j<24
  .rw[EW (ms:=ms++[c]) (by simp;omega) h1,if_neg (by omega),if_neg (by omega)];by_cases h2:ms.length=j
   .subst h2;rw[if_pos rfl,if_pos (by omega),getD_eq_getElem?_getD,getElem?_append_right (zq4 _)];simp
   .rw[if_neg h2,EW (ms:=ms) (by omega) h1];have e:ms.getD j 0=(ms++[c]).getD j 0:=by
     rw[getD_eq_getElem?_getD,getD_eq_getElem?_getD];by_cases h3:j<ms.length
     .rw[getElem?_append_left h3]
     .rw[getElem?_eq_none (by omega),getElem?_eq_none (by simp;omega)]
    rw[e]
  .by_cases h2:j=48
   .subst h2;rw[uC (ms:=ms++[c]) (by simp;omega),if_neg (by omega),if_pos rfl,if_pos (by omega)];simp
   .obtain⟨d,hd⟩:∃d,j=24+d:=⟨j-24,by omega⟩;subst hd;rw[uD (ms:=ms++[c]) (by simp;omega) (by omega),SV hn];by_cases h3:d=c
    .subst h3;rw[if_pos rfl,if_pos (by omega),if_pos rfl]
    .rw[if_neg (by omega),if_neg (by omega),if_neg (by omega),uD (ms:=ms) (by omega) (by omega),if_neg h3]
 .rw[if_neg (by omega),if_neg (by omega),if_neg (by omega),getElem?_eq_none (by omega),getElem?_eq_none (by omega)]
structure Nu(w:World)(N:Nat)(ms:List Nat):Prop where
 ob:Ob w 290 49 N (Dt ms)
 ok:dY ms
section
variable {w w':World} {N:Nat} {ms:List Nat}
theorem Nu.of_eq(h:Nu w N ms)(he:w'.heap[N]?=w.heap[N]?):Nu w' N ms:=⟨h.ob.of_eq he,h.ok⟩
theorem Nu.ltN(h:Nu w N ms):N<w.heap.size:=(ownsRow.lt h.ob N rfl).2
theorem Nu.below(h:Nu w N ms)(hb:Below w.heap.size w w'):Nu w' N ms:=h.of_eq (hb.block N h.ltN)
theorem Nu.old(h:Nu w N ms){k:Nat}(hk:k<24):w.cell? ⟨N,k,none⟩=some (.int .i64 ((ms.getD k 0:Nat):Int)):=(ownsRow.cellAt h.ob k (by omega)).trans (EW h.ok.len hk)
theorem Nu.fresh(h:Nu w N ms){c:Nat}(hc:c<24):w.cell? ⟨N,24+c,none⟩=some (.int .i64 ((Bz ms c:Nat):Int)):=(ownsRow.cellAt h.ob (24+c) (by omega)).trans (uD h.ok.len hc)
theorem Nu.count(h:Nu w N ms):w.cell? ⟨N,48,none⟩=some (.int .i64 ((ms.length:Nat):Int)):=(ownsRow.cellAt h.ob 48 (by omega)).trans (uC h.ok.len)
theorem Nu.frz(h:Nu w N ms)(j:Nat):w.frozen? ⟨N,j,none⟩=false:=ownsRow.frozenAt h.ob j
theorem uz(h:Nu w N ms){c:Nat}(hc:c<24):Calls prog 223 #[.pointer (some ⟨N,0,none⟩),.int .i64 c] w λe w'=>e=.returned (.tuple #[])/\Nu w' N (gV ms c)/\ar [N] w [N] w':=by
 have ir:=h.fresh hc;have Q4:=h.count;have hz:=h.frz;by_cases hm:c∈ms
 .have ZO:0<Bz ms c:=by unfold Bz;rw[if_pos hm];omega
  obtain⟨x,hx⟩:∃x,x=Bz ms c:=⟨_,rfl⟩;rw[<-hx]at ir ZO;have hd:decide ((0:Int)<(x:Int))=true:=by simp;omega
  have HE:Hid (gV ms c=ms):=ab (by unfold gV;rw[if_pos hm]);have H:=ab h;clear h hx hm hz Q4;go_enter func223,ntmps223;go_wp2_with fail
  refine bodyPost_ret (v:=.tuple #[]) (by simp[results,Tryz.f223]) rfl ?_;exact⟨rfl,by rw[uh HE];exact uh H,ar.refl _ _⟩
 .have hx:Bz ms c=0:=by unfold Bz;rw[if_neg hm]
  rw[hx]at ir;have hl:ms.length<24:=by
   have h1:=(h.ok.me hc).len;unfold gV at h1;rw[if_neg hm,length_append,length_singleton]at h1;omega
  have o1:=h.ob.stored ms.length (.int .i64 (c:Int));have o2:=o1.stored 48 (.int .i64 ((ms.length+1:Nat):Int));have o3:=o2.stored (24+c) (.int .i64 ((ms.length+1:Nat):Int));rw[aaB hl hc hm]at o3;have c2:=ownsRow.cellAt o1 48 (by omega);rw[getElem?_set,if_neg (by omega),uC (by omega)]at c2;have f2:=ownsRow.frozenAt o1 48;have c3:=ownsRow.cellAt o2 48 (by omega);rw[getElem?_set,if_pos rfl,if_pos (by rw[length_set,EV (by omega)];omega)]at c3;obtain⟨⟨u4,c4⟩,f4⟩:=o2.some (j:=24+c) (by omega);obtain⟨⟨u5,c5⟩,f5⟩:=h.ob.some (j:=ms.length) (by omega);have cK:Hid (ar [N] w [N] (((w.setCell ⟨N,ms.length,none⟩ (.int .i64 (c:Int))).setCell ⟨N,48,none⟩ (.int .i64 ((ms.length+1:Nat):Int))).setCell ⟨N,24+c,none⟩ (.int .i64 ((ms.length+1:Nat):Int)))):=ab ((((ar.refl [N] w).setCell (p:=⟨N,ms.length,none⟩) (zq0 (by simp)) _).setCell (p:=⟨N,48,none⟩) (zq0 (by simp)) _).setCell (p:=⟨N,24+c,none⟩) (zq0 (by simp)) _);have HN:Hid (Nu (((w.setCell ⟨N,ms.length,none⟩ (.int .i64 (c:Int))).setCell ⟨N,48,none⟩ (.int .i64 ((ms.length+1:Nat):Int))).setCell ⟨N,24+c,none⟩ (.int .i64 ((ms.length+1:Nat):Int))) N (gV ms c)):=ab (by
   have e:gV ms c=ms++[c]:=(by unfold gV;rw[if_neg hm]);have h1:=h.ok.me hc;rw[e]at h1 ⊢;exact⟨o3,h1⟩)
  obtain⟨n,hn⟩:∃n,n=ms.length:=⟨_,rfl⟩;rw[<-hn]at Q4 hl c2 f2 c3 c4 f4 c5 f5 cK HN;rw[show((n+1:Nat):Int)=(n:Int)+1 by omega]at c3 c4 f4 cK HN;have hd:decide ((0:Int)<0)=false:=by decide
  clear o1 o2 o3 h hx hm hn hz;go_enter func223,ntmps223;go_wp2_with fail
  go_region
  go_wp2_with fail
  go_region
  go_wp2_with fail
  go_end0
  exact⟨rfl,(uh HN).of_eq rfl,(uh cK).drew.drew⟩
end
section
variable {w:World} {A N:Nat} {f:CF} {av ov:Value} {ms:List Nat}
theorem uW(hF:dF w A f av ov)(hN:Nu w N ms)(hd:∀k∈aD A av ov,k≠N)(hO:∀p∈f.ow,p.l<24/\p.r<24){k0:Nat}(hk0:k0<=24):Calls prog 224 #[.pointer (some ⟨A,0,none⟩),.pointer (some ⟨N,0,none⟩),.int .i64 k0] w λe w'=>e=.returned (.tuple #[])/\Nu w' N (ni f 25 k0 ms)/\ar [N] w [N] w':=by
 have HF:=ab hF;have HD:=ab hd;have HO:=ab hO;obtain⟨R,hR⟩:∃R,R=ni f 25 k0 ms:=⟨_,rfl⟩;have bX:Hid (Nu w N ms/\ni f 25 k0 ms=R/\ar [N] w [N] w):=ab ⟨hN,hR.symm,ar.refl _ _⟩;rw[<-hR];clear hF hN hd hO hR;go_enter func224,ntmps224;go_wp2_with fail
 go_loopw [6] (λi wx=>∃(k n:Nat) (ml:List Nat),k<=24/\24<n+k/\i=.int .i64 k/\Hid (Nu wx N ml/\ni f n k ml=R/\ar [N] w [N] wx)) (λi _=>25-(intOf i).toNat)
 case atStart=>exact⟨k0,25,ms,hk0,by omega,rfl,bX⟩
 case round =>
  clear bX;obtain⟨k,n,ml,hk,hn,rfl,hI⟩:=hrel;have Q4:=(uh hI).1.count;have dJ:=(uh hI).1.ok.len;by_cases aq:k<ml.length
  .have hd:decide ((k:Int)<(ml.length:Int))=true:=(by simp;omega);have gl:=(uh hI).1.old (k:=k) (by omega);have NY:k<24:=(by omega);obtain⟨n',rfl⟩:∃n',n=n'+1:=⟨n-1,by omega⟩;have aE:ni f n' (k+1) (ya f k ml)=R:=by
    have:=(uh hI).2.1;unfold ni at this;rwa [if_pos aq]at this
   have Tc:=(uh HF).of_eq (w':=wr) (λj hj=>(uh hI).2.2.block j ((uh HF).lt j hj) (by simpa using uh HD j hj));have HB:=ab (bU (ml.getD k 0) Tc);have cK:=ab aE;have RJ:Hid (ya f k ml=match cR f.ow (ml.getD k 0) with|some i=>gV ml (f.ow.getD i au).r|none=>ml):=ab rfl;obtain⟨c,hc⟩:∃c,c=ml.getD k 0:=⟨_,rfl⟩;rw[<-hc]at gl HB RJ;have HFr:=ab Tc;have HN:=ab (uh hI).1;have HP:=ab (uh hI).2.2;obtain⟨L,hL⟩:∃L,L=ml.length:=⟨_,rfl⟩;rw[<-hL]at Q4 hd aq;clear aE Tc hc hI hL dJ;go_wp2_with fail
   refine(uh HB).mono ?_;rintro e w1 ⟨rfl,rfl⟩;have hg:=rd (cR f.ow c);cases hb:cR f.ow c with
   |none =>
    rw[hb]at hg RJ;have cH:Hid (ya f k ml=ml):=ab (uh RJ);clear RJ;go_wp2_with fail
    go_roundw
    case rel=>exact⟨k+1,n',ml,by omega,by omega,by go_num,ab ⟨uh HN,by have:=uh cK;rw[uh cH]at this;exact this,uh HP⟩⟩
    case measure=>simp[intOf];omega
   |some i =>
    rw[hb]at hg RJ;have cH:Hid (ya f k ml=gV ml (f.ow.getD i au).r):=ab (uh RJ);clear RJ;obtain⟨hi,-⟩:=eO hb;have c6:=(uh HFr).c6;obtain⟨g,cap,cM,-,-⟩:=az (uh HFr).ow hi;subst cM;obtain⟨x0,x1,x2⟩:=ax (uh HFr).ow hi;have vF:=(uh HO (f.ow.getD i au) (aZ hi)).2;obtain⟨p,hp⟩:∃p,p=f.ow.getD i au:=⟨_,rfl⟩;rw[<-hp]at x0 x1 x2 vF cH;have HM:=ab (uz (uh HN) vF);rw[show dp (some i)=(i:Int) from rfl]at hg ⊢;have i1:(0:Int)<=(i:Int):=(by omega);have i2:(i:Int)<(f.ow.length:Int):=(by omega);clear hp hb;go_wp2_with fail
    refine(uh HM).mono ?_;rintro e w2 ⟨rfl,GG,fR⟩;have C4:=ab GG;have HP2:=ab ((uh HP).trans fR);clear GG fR;go_wp2_with fail
    go_roundw
    case rel=>exact⟨k+1,n',_,by omega,by omega,by go_num,ab ⟨uh C4,by have:=uh cK;rw[uh cH]at this;exact this,uh HP2⟩⟩
    case measure=>simp[intOf];omega
  .have hd:decide ((k:Int)<(ml.length:Int))=false:=(by simp;omega);have HE:Hid (ml=R):=ab (by
    have:=(uh hI).2.1;cases n with
    |zero=>exact this
    |succ n=>unfold ni at this;rwa [if_neg aq]at this)
   go_wp2_with fail
   go_end0
   exact⟨rfl,by rw[<-uh HE];exact(uh hI).1,(uh hI).2.2⟩
end
section
variable {w:World} {N:Nat} {v:Value} {l:List Pr} {ms:List Nat}
theorem wS(h:w.ownsRow 0 182 3 v l.length (af l))(hN:Nu w N ms)(hv:v.ownBlock≠some N)(hm:∀p∈l,p.l∈ms/\p.r∈ms)(hl:l.length<=100000):
  Calls prog 225 #[.pointer (some ⟨N,0,none⟩),v] w λe w'=>e=.returned (.tuple #[])/\w'.ownsRow 0 182 3 v l.length (af (l.map (qs ms)))/\ar v.ownBlock.toList w v.ownBlock.toList w':=by
 obtain⟨va,vc,K1,OA,TL⟩:=aj h;subst K1;have ru:Hid (w.ownsRow 0 182 3 (.slice va l.length vc) l.length (af (bH (qs ms) l 0))/\ar (Value.slice va l.length vc).ownBlock.toList w (Value.slice va l.length vc).ownBlock.toList w):=ab ⟨by simpa[bH] using h,ar.refl _ _⟩;have HN:=ab hN;have HV:=ab hv;have HM:=ab hm;clear h hN hv hm;go_enter func225,ntmps225;go_wp2_with fail
 go_loopw [4] (λi wx=>∃(k:Nat),k<=l.length/\i=.int .i64 k/\Hid (wx.ownsRow 0 182 3 (.slice va l.length vc) l.length (af (bH (qs ms) l k))/\ar (Value.slice va l.length vc).ownBlock.toList w (Value.slice va l.length vc).ownBlock.toList wx)) (λi _=>l.length-(intOf i).toNat)
 case atStart=>exact⟨0,zq5 _,rfl,ru⟩
 case round =>
  clear ru;obtain⟨k,hk,rfl,hI⟩:=hrel;by_cases aq:k<l.length
  .have hd:decide ((k:Int)<(l.length:Int))=true:=(by simp;omega);obtain⟨g,cap,cM,-,-,-⟩:=bM (uh hI).1 (by omega);simp only[Value.slice.injEq,true_and]at cM;obtain⟨rfl,rfl⟩:=cM;have hgN:g≠N:=λe=>uh HV (by rw[e];rfl);have Tf:Nu wr N ms:=(uh HN).of_eq ((uh hI).2.block N (uh HN).ltN (by simpa[Value.ownBlock] using λe=>hgN e.symm));have hK:=jV (g:=qs ms) aq;have hr:=(uh hI).1;have cN:=iP (qs ms) l k;have JY:wr.ownsRow 0 182 3 (.slice (some ⟨g,0,none⟩) (bH (qs ms) l k).length vc) (bH (qs ms) l k).length (af (bH (qs ms) l k)):=(by rw[cN];exact hr);obtain⟨-,x1,x2⟩:=ax JY (i:=k) (by omega);obtain⟨eE,vF⟩:=uh HM (l.getD k au) (aZ aq);have aE:=jW (g:=qs ms) aq;rw[hK]at x1 x2;obtain⟨p,hp⟩:∃p,p=l.getD k au:=⟨_,rfl⟩;rw[<-hp]at x1 x2 eE vF aE hK;have f1:=hr.frozenAt (k*3+1);have f2:=hr.frozenAt (k*3+2);have q1:=Tf.fresh (Tf.ok.2 p.l eE);have q2:=Tf.fresh (Tf.ok.2 p.r vF);have e1:Bz ms p.l=ms.idxOf p.l+1:=(by unfold Bz;rw[if_pos eE]);have e2:Bz ms p.r=ms.idxOf p.r+1:=(by unfold Bz;rw[if_pos vF]);rw[e1]at q1;rw[e2]at q2;have b1:=l5 Tf.ok eE;have b2:=l5 Tf.ok vF;have b3:=Tf.ok.2 p.l eE;have b4:=Tf.ok.2 p.r vF;obtain⟨x,hx⟩:∃x,x=ms.idxOf p.l:=⟨_,rfl⟩;obtain⟨y,hy⟩:∃y,y=ms.idxOf p.r:=⟨_,rfl⟩;rw[<-hx]at q1 b1;rw[<-hy]at q2 b2;rw[show((x+1:Nat):Int)=(x:Int)+1 by omega]at q1;rw[show((y+1:Nat):Int)=(y:Int)+1 by omega]at q2;have i1:(0:Int)<=(k:Int):=(by omega);have i2:(k:Int)<(l.length:Int):=(by omega);have s1:(wr.setCell ⟨g,k*3+1,none⟩ (.int .i64 (x:Int))).ownsRow 0 182 3 (.slice (some ⟨g,0,none⟩) l.length vc) l.length (af ((bH (qs ms) l k).set k ⟨p.k,x,p.r⟩)):=by
    have:=(hr.stored (k*3+1) (.int .i64 (x:Int))).1;rw[im (by omega),hK]at this;exact this
   have s2:((wr.setCell ⟨g,k*3+1,none⟩ (.int .i64 (x:Int))).setCell ⟨g,k*3+2,none⟩ (.int .i64 (y:Int))).ownsRow 0 182 3 (.slice (some ⟨g,0,none⟩) l.length vc) l.length (af (bH (qs ms) l (k+1))):=by
    have:=(s1.stored (k*3+2) (.int .i64 (y:Int))).1;rw[dB (by simp;omega)]at this;rw[aE];have e:qs ms p=⟨p.k,x,y⟩:=(by unfold qs;rw[<-hx,<-hy]);rw[e];simpa[cN,aq] using this
   have y2:(wr.setCell ⟨g,k*3+1,none⟩ (.int .i64 (x:Int))).cell? ⟨g,k*3+2,none⟩=some (.int .i64 (p.r:Int)):=by
    rw[cell?_setCell_other _ _ _ _ (by simp)];exact x2
   have z2:=s1.frozenAt (k*3+2);have q2':(wr.setCell ⟨g,k*3+1,none⟩ (.int .i64 (x:Int))).cell? ⟨N,24+p.r,none⟩=some (.int .i64 ((y:Int)+1)):=by
    rw[cell?_setCell_other _ _ _ _ (by simp only[ne_eq,Addr.mk.injEq,not_and];intro e;exact absurd e hgN)];exact q2
   have HS:=ab s2;have cK:Hid (ar (Value.slice (some ⟨g,0,none⟩) l.length vc).ownBlock.toList w (Value.slice (some ⟨g,0,none⟩) l.length vc).ownBlock.toList ((wr.setCell ⟨g,k*3+1,none⟩ (.int .i64 (x:Int))).setCell ⟨g,k*3+2,none⟩ (.int .i64 (y:Int)))):=ab (((uh hI).2.setCell (p:=⟨g,k*3+1,none⟩) (zq0 (by simp[Value.ownBlock])) _).setCell (p:=⟨g,k*3+2,none⟩) (zq0 (by simp[Value.ownBlock])) _);clear hr JY hK cN hp s1 s2 hI aE Tf eE vF e1 e2 hx hy hgN;go_wp2_with fail
   go_region
   go_wp2_with fail
   go_region
   go_wp2_with fail
   go_roundw
   case rel=>exact⟨k+1,by omega,by go_num,ab ⟨(uh HS).drew.drew,(uh cK).drew.drew⟩⟩
   case measure=>simp[intOf];omega
  .have hd:decide ((k:Int)<(l.length:Int))=false:=(by simp;omega);have HE:Hid (bH (qs ms) l k=l.map (qs ms)):=ab (uw (by omega));go_wp2_with fail
   go_end0
   exact⟨rfl,by rw[<-uh HE];exact(uh hI).1,(uh hI).2⟩
end
def Jj(g:Nat->Nat)(c:List Nat)(k:Nat):List Nat:=(c.take k).map g++c.drop k
theorem L9{g:Nat->Nat}{c:List Nat}{k:Nat}(hk:k<c.length):Jj g c (k+1)=(Jj g c k).set k (g (c.getD k 0))/\(Jj g c k).getD k 0=c.getD k 0:=by
 unfold Jj;have e:c.drop k=c[k]::c.drop (k+1):=drop_eq_getElem_cons hk;have e0:c.getD k 0=c[k]:=by simp[hk]
 have e2:(c.take (k+1)).map g=(c.take k).map g++[g c[k]]:=by
  rw[take_add_one,getElem?_eq_getElem hk,map_append];rfl
 have e3:((c.take k).map g).length=k:=by simp;omega
 refine⟨?_,?_⟩
 .rw[e2,e,set_append_right _ _ (by omega),e3,Nat.sub_self,set_cons_zero,append_assoc,e0];rfl
 .rw[getD_eq_getElem?_getD,getElem?_append_right (by omega),e3,Nat.sub_self,e,e0];rfl
theorem iG{α:Type}{g:α->Pr->α}{a:α}{l:List Pr}{k:Nat}(hk:k<l.length):(l.take (k+1)).foldl g a=g ((l.take k).foldl g a) (l.getD k au):=by
 rw[gS hk,take_add_one,getElem?_eq_getElem hk,foldl_append];rfl
theorem aaA:Dt []=replicate 49 (Value.int .i64 0):=rfl
theorem aaz(w:World):Nu (w.alloc (.cells (Dt []).toArray 290)) w.heap.size [] :=
 ⟨ownsRow_lit (base:=0) (e:=290) (size:=49) w (Dt []).toArray 1 (zq5 _) (by simp[maxLen]) rfl,dY.nil⟩
section
variable {w:World} {A:Nat} {f:CF} {av ov:Value}
theorem zN(h:Fm w A f av ov)(hO:am f)(hl:∀p∈f.ap,p.l∈db f/\p.r∈db f)(ha:f.ap.length<=100000):Calls prog 198 #[.pointer (some ⟨A,0,none⟩)] w λe w'=>e=.returned (.tuple #[])/\Fm w' A (uQ f) av ov/\ar (aD A av ov) w (aD A av ov) w':=by
 obtain⟨oa,oc,d7,-,-⟩:=aj h.is.ow;subst d7;obtain⟨aa,ac,jO,-,-⟩:=aj h.is.ap;subst jO;obtain⟨w0,lm⟩:∃w0,w0=w.alloc (.cells (Dt []).toArray 290):=⟨_,rfl⟩;have ua:Below w.heap.size w w0:=by rw[lm];exact ah w _
 have Nh:Nu w0 w.heap.size []:=by rw[lm];exact aaz w
 have h0:=h.below ua;have aJ:∀k∈aD A (.slice aa f.ap.length ac) (.slice oa f.ow.length oc),k≠w.heap.size:=λk hk=>by have:=h.lt k hk;omega
 have x0:=h0.is.cls (i:=0) (by omega);have x1:=h0.is.cls (i:=1) (by omega);have x2:=h0.is.cls (i:=2) (by omega);have x3:=h0.is.cls (i:=3) (by omega);have x4:=h0.is.cls (i:=4) (by omega);unfold fH at x0 x1 x2 x3 x4;have du:=hO.cl;unfold jJ at du;have hcL:jJ f=[f.cl.getD 0 0,f.cl.getD 1 0,f.cl.getD 2 0,f.cl.getD 3 0,f.cl.getD 4 0]:=rfl;obtain⟨y0,e0⟩:∃y,y=f.cl.getD 0 0:=⟨_,rfl⟩;obtain⟨y1,e1⟩:∃y,y=f.cl.getD 1 0:=⟨_,rfl⟩;obtain⟨y2,e2⟩:∃y,y=f.cl.getD 2 0:=⟨_,rfl⟩;obtain⟨y3,e3⟩:∃y,y=f.cl.getD 3 0:=⟨_,rfl⟩;obtain⟨y4,e4⟩:∃y,y=f.cl.getD 4 0:=⟨_,rfl⟩;rw[<-e0,<-e1,<-e2,<-e3,<-e4]at du hcL;rw[<-e0]at x0;rw[<-e1]at x1;rw[<-e2]at x2;rw[<-e3]at x3;rw[<-e4]at x4;have l0:y0<24:=du y0 (by simp);have l1:y1<24:=du y1 (by simp);have l2:y2<24:=du y2 (by simp);have l3:y3<24:=du y3 (by simp);have l4:y4<24:=du y4 (by simp);have j0:=za (.int .i64 (y0:Int)) (.int .i64 (y1:Int)) (.int .i64 (y2:Int)) (.int .i64 (y3:Int)) (.int .i64 (y4:Int));have j1:=zb (.int .i64 (y0:Int)) (.int .i64 (y1:Int)) (.int .i64 (y2:Int)) (.int .i64 (y3:Int)) (.int .i64 (y4:Int));have j2:=zc (.int .i64 (y0:Int)) (.int .i64 (y1:Int)) (.int .i64 (y2:Int)) (.int .i64 (y3:Int)) (.int .i64 (y4:Int));have j3:=zd (.int .i64 (y0:Int)) (.int .i64 (y1:Int)) (.int .i64 (y2:Int)) (.int .i64 (y3:Int)) (.int .i64 (y4:Int));have j4:=ze (.int .i64 (y0:Int)) (.int .i64 (y1:Int)) (.int .i64 (y2:Int)) (.int .i64 (y3:Int)) (.int .i64 (y4:Int));obtain⟨N,hNe⟩:∃N,N=w.heap.size:=⟨_,rfl⟩;rw[<-hNe]at Nh aJ;have HNe:=ab hNe;have H:=ab h;have H0:=ab h0;have IX:=ab ua;have su:=ab aJ;have vp:=ab hcL;have gl:=hO.owLen;have HO:=ab hO;have HL:=ab hl;have bX:Hid (Nu w0 N (([y0,y1,y2,y3,y4].take 0).foldl gV [])/\ar [N] w0 [N] w0):=ab ⟨Nh,ar.refl _ _⟩;clear h h0 e0 e1 e2 e3 e4 du hcL hO Nh ua aJ hl;obtain⟨ag,hag⟩:∃ag,ag=Value.agg (Dt []).toArray:=⟨_,rfl⟩;rw[aaA]at lm hag;simp only[replicate]at lm hag;go_enter func198,ntmps198;go_upto_region 1 with fail;rw[<-lm,<-hag,<-hNe];clear lm hNe hag;go_wp2_with fail
 go_loopw [15] (λi wx=>∃(k:Nat),k<=5/\i=.int .i64 k/\Hid (Nu wx N (([y0,y1,y2,y3,y4].take k).foldl gV [])/\ar [N] w0 [N] wx)) (λi _=>5-(intOf i).toNat)
 case atStart=>exact⟨0,zq5 _,rfl,bX⟩
 case round =>
  clear bX x0 x1 x2 x3 x4;obtain⟨k,hk,rfl,hI⟩:=hrel;obtain⟨m,hm⟩:∃m,m=([y0,y1,y2,y3,y4].take k).foldl gV []:=⟨_,rfl⟩;have HM:=ab hm;rw[<-hm]at hI;clear hm;have Af:Hid (∀c:Nat,c<24->Calls prog 223 #[.pointer (some ⟨N,0,none⟩),.int .i64 c] wr λe w'=>e=.returned (.tuple #[])/\Nu w' N (gV m c)/\ar [N] w0 [N] w'):=ab (λc hc=>(uz (uh hI).1 hc).mono (λe w' hw=>⟨hw.1,hw.2.1,(uh hI).2.trans hw.2.2⟩));have ub:k=0\/k=1\/k=2\/k=3\/k=4\/k=5:=by omega
  rcases ub with rfl|rfl|rfl|rfl|rfl|rfl
  .go_wp2_with fail
   refine(uh Af y0 l0).mono ?_;rintro e w1 ⟨rfl,pq,cY⟩;have C3:Hid (Nu w1 N (([y0,y1,y2,y3,y4].take 1).foldl gV [])/\ar [N] w0 [N] w1):=ab ⟨by rw[uh HM]at pq;exact pq,cY⟩;clear pq cY;go_wp2_with fail
   go_roundw
   case rel=>exact⟨1,by omega,by go_num,C3⟩
   case measure=>simp[intOf]
  .go_wp2_with fail
   refine(uh Af y1 l1).mono ?_;rintro e w1 ⟨rfl,pq,cY⟩;have C3:Hid (Nu w1 N (([y0,y1,y2,y3,y4].take 2).foldl gV [])/\ar [N] w0 [N] w1):=ab ⟨by rw[uh HM]at pq;exact pq,cY⟩;clear pq cY;go_wp2_with fail
   go_roundw
   case rel=>exact⟨2,by omega,by go_num,C3⟩
   case measure=>simp[intOf]
  .go_wp2_with fail
   refine(uh Af y2 l2).mono ?_;rintro e w1 ⟨rfl,pq,cY⟩;have C3:Hid (Nu w1 N (([y0,y1,y2,y3,y4].take 3).foldl gV [])/\ar [N] w0 [N] w1):=ab ⟨by rw[uh HM]at pq;exact pq,cY⟩;clear pq cY;go_wp2_with fail
   go_roundw
   case rel=>exact⟨3,by omega,by go_num,C3⟩
   case measure=>simp[intOf]
  .go_wp2_with fail
   refine(uh Af y3 l3).mono ?_;rintro e w1 ⟨rfl,pq,cY⟩;have C3:Hid (Nu w1 N (([y0,y1,y2,y3,y4].take 4).foldl gV [])/\ar [N] w0 [N] w1):=ab ⟨by rw[uh HM]at pq;exact pq,cY⟩;clear pq cY;go_wp2_with fail
   go_roundw
   case rel=>exact⟨4,by omega,by go_num,C3⟩
   case measure=>simp[intOf]
  .go_wp2_with fail
   refine(uh Af y4 l4).mono ?_;rintro e w1 ⟨rfl,pq,cY⟩;have C3:Hid (Nu w1 N (([y0,y1,y2,y3,y4].take 5).foldl gV [])/\ar [N] w0 [N] w1):=ab ⟨by rw[uh HM]at pq;exact pq,cY⟩;clear pq cY;go_wp2_with fail
   go_roundw
   case rel=>exact⟨5,by omega,by go_num,C3⟩
   case measure=>simp[intOf]
  .rw[show((5:Nat):Int)=(5:Int) from rfl];have AC:m=(jJ f).foldl gV []:=(by rw[uh HM,uh vp];rfl);have jk:=(uh H0).is.of_eq (w':=wr) (λj hj=>(uh hI).2.block j ((uh H0).lt j hj) (by simpa using uh su j hj));have KJ:=ab (uW jk (uh hI).1 (uh su) (uh HO).ow (k0:=0) (by omega));have cK:=ab (uh hI).2;rw[AC]at KJ;clear j0 j1 j2 j3 j4 l0 l1 l2 l3 l4 AC jk hI HM Af;go_wp2_with fail
   refine(uh KJ).mono ?_;rintro e w1 ⟨rfl,pq,cY⟩;have mZ:=(uh cK).trans cY;have jk:=(uh H0).is.of_eq (w':=w1) (λj hj=>mZ.block j ((uh H0).lt j hj) (by simpa using uh su j hj));have c6:=jk.c6;obtain⟨M1,hM1⟩:∃M1,M1=ni f 25 0 ((jJ f).foldl gV []):=⟨_,rfl⟩;have HM1:=ab hM1;rw[<-hM1]at pq;have dD:Hid (Nu w1 N ((f.ow.take 0).foldl (xV f) M1)/\ar [N] w0 [N] w1):=ab ⟨pq,mZ⟩;clear pq cY mZ jk KJ hM1 cK;go_wp2_with fail
   go_loopw [30] (λi wx=>∃(k:Nat),k<=f.ow.length/\i=.int .i64 k/\Hid (Nu wx N ((f.ow.take k).foldl (xV f) M1)/\ar [N] w0 [N] wx)) (λi _=>f.ow.length-(intOf i).toNat)
   case atStart=>exact⟨0,zq5 _,rfl,dD⟩
   case round =>
    clear dD c6;obtain⟨k,hk,rfl,hI⟩:=hrel;have jk:=(uh H0).is.of_eq (w':=wr) (λj hj=>(uh hI).2.block j ((uh H0).lt j hj) (by simpa using uh su j hj));by_cases aq:k<f.ow.length
    .have hd:decide ((k:Int)<(f.ow.length:Int))=true:=(by simp;omega);obtain⟨g,cap,cM,-,-⟩:=az jk.ow aq;simp only[Value.slice.injEq,true_and]at cM;obtain⟨rfl,rfl⟩:=cM;obtain⟨x0,x1,x2⟩:=ax jk.ow aq;have eE:=((uh HO).ow _ (aZ aq)).1;have oT:=iG (g:=xV f) (a:=M1) aq;obtain⟨p,hp⟩:∃p,p=f.ow.getD k au:=⟨_,rfl⟩;rw[<-hp]at x0 x1 x2 eE oT;obtain⟨m,hm⟩:∃m,m=(f.ow.take k).foldl (xV f) M1:=⟨_,rfl⟩;rw[<-hm]at hI oT;obtain⟨-,n1,-⟩:=ES wr (Value.int .i64 p.k) (.int .i64 p.l) (.int .i64 p.r) 182;have QY:=(uh hI).1.below (ah wr (.cells #[Value.int .i64 p.k,.int .i64 p.l,.int .i64 p.r] 182));have Q4:=QY.count;have dJ:=QY.ok.len;have Af:=ab (uz QY eE);have EF:ar [N] w0 [N] (wr.alloc (.cells #[Value.int .i64 p.k,.int .i64 p.l,.int .i64 p.r] 182)):=(uh hI).2.trans (ar.ofBw (ah wr _));have FI:=ab EF;have KG:=ab oT;have i1:(0:Int)<=(k:Int):=(by omega);have i2:(k:Int)<(f.ow.length:Int):=(by omega);obtain⟨L,hL⟩:∃L,L=m.length:=⟨_,rfl⟩;have HLm:=ab hL;rw[<-hL]at Q4 dJ;clear hp hm QY EF oT jk hI hL;go_wp2_with fail
     refine(uh Af).mono ?_;rintro e w2 ⟨rfl,GG,fR⟩;have ZQ:=(uh FI).trans fR;have nA:=(uh H0).is.of_eq (w':=w2) (λj hj=>ZQ.block j ((uh H0).lt j hj) (by simpa using uh su j hj));have KJ:=ab (uW nA GG (uh su) (uh HO).ow (k0:=L) dJ);have cH:=ab ZQ;clear GG fR ZQ nA Af FI n1 Q4;go_wp2_with fail
     refine(uh KJ).mono ?_;rintro e w3 ⟨rfl,Ax,eW⟩;have HN3:Hid (Nu w3 N ((f.ow.take (k+1)).foldl (xV f) M1)/\ar [N] w0 [N] w3):=ab ⟨by
      rw[uh KG];unfold xV;rw[uh HLm]at Ax;exact Ax,(uh cH).trans eW⟩
     clear Ax eW KJ cH;go_wp2_with fail
     go_roundw
     case rel=>exact⟨k+1,by omega,by go_num,HN3⟩
     case measure=>simp[intOf];omega
    .have hd:decide ((k:Int)<(f.ow.length:Int))=false:=(by simp;omega);have gB:k=f.ow.length:=(by omega);have TI:(f.ow.take k).foldl (xV f) M1=eF f:=(by rw[gB,take_length,uh HM1];rfl);rw[TI]at hI;obtain⟨R,hR⟩:∃R,R=eF f:=⟨_,rfl⟩;rw[<-hR]at hI;have HR:=ab hR;have hFm:Fm wr A f (.slice aa f.ap.length ac) (.slice oa f.ow.length oc):=(uh H0).of_eq (λj hj=>(uh hI).2.block j ((uh H0).lt j hj) (by simpa using uh su j hj));have gU:Hid (Fm wr A { f with cl:=Jj (λc=>R.idxOf c) f.cl 0 } (.slice aa f.ap.length ac) (.slice oa f.ow.length oc)/\Nu wr N R/\ar (N::aD A (.slice aa f.ap.length ac) (.slice oa f.ow.length oc)) w0 (N::aD A (.slice aa f.ap.length ac) (.slice oa f.ow.length oc)) wr):=ab ⟨by simpa[Jj] using hFm,(uh hI).1,(uh hI).2.wide (λj hj=>by rw[mem_singleton]at hj;subst hj;simp)⟩;clear gB TI hR hFm jk hI;go_wp2_with fail
     go_loopw [8] (λi wx=>∃(k:Nat),k<=5/\i=.int .i64 k/\Hid (Fm wx A { f with cl:=Jj (λc=>R.idxOf c) f.cl k } (.slice aa f.ap.length ac) (.slice oa f.ow.length oc)/\Nu wx N R/\ar (N::aD A (.slice aa f.ap.length ac) (.slice oa f.ow.length oc)) w0 (N::aD A (.slice aa f.ap.length ac) (.slice oa f.ow.length oc)) wx)) (λi _=>5-(intOf i).toNat)
     case atStart=>exact⟨0,zq5 _,rfl,gU⟩
     case round =>
      clear gU;obtain⟨k,hk,rfl,hI⟩:=hrel;by_cases aq:k<5
      .have hd:decide ((k:Int)<(5:Int))=true:=(by simp;omega);have aE:=L9 (g:=λc=>R.idxOf c) (c:=f.cl) (k:=k) (by have:=(uh HO).c5;omega);have kI:=(uh HO).get k;have kj:f.cl.getD k 0∈R:=(by rw[uh HR];exact(pT (uh HO).ow (uh HO).cl).2.2.1 _ (eI aq));obtain⟨c,hc⟩:∃c,c=f.cl.getD k 0:=⟨_,rfl⟩;rw[<-hc]at aE kI kj;have x:wr.cell? ⟨A,k,none⟩=some (.int .i64 (c:Int)):=by
        have:=(uh hI).1.is.cls aq;unfold fH at this;rw[this];show some (Value.int .i64 (((Jj (λc=>R.idxOf c) f.cl k).getD k 0:Nat):Int))=_;rw[aE.2]
       have fz:wr.frozen? ⟨A,k,none⟩=false:=ownsRow.frozenAt (uh hI).1.is.ob k;have q1:=(uh hI).2.1.fresh kI;have e1:Bz R c=R.idxOf c+1:=(by unfold Bz;rw[if_pos kj]);rw[e1]at q1;have yY:=(uh hI).1.setCl k (R.idxOf c) aq;rw[show({ f with cl:=Jj (λc=>R.idxOf c) f.cl k }:CF).cl=Jj (λc=>R.idxOf c) f.cl k from rfl,<-aE.1]at yY;have hAN:A≠N:=uh su A (by simp[aD]);obtain⟨y,hy⟩:∃y,y=R.idxOf c:=⟨_,rfl⟩;rw[<-hy]at q1 yY;have arR:y<24:=(by rw[hy];exact l5 (uh hI).2.1.ok kj);rw[show((y+1:Nat):Int)=(y:Int)+1 by omega]at q1;have C4:Hid (Fm (wr.setCell ⟨A,k,none⟩ (.int .i64 (y:Int))) A { f with cl:=Jj (λc=>R.idxOf c) f.cl (k+1) } (.slice aa f.ap.length ac) (.slice oa f.ow.length oc)/\Nu (wr.setCell ⟨A,k,none⟩ (.int .i64 (y:Int))) N R/\ar (N::aD A (.slice aa f.ap.length ac) (.slice oa f.ow.length oc)) w0 (N::aD A (.slice aa f.ap.length ac) (.slice oa f.ow.length oc)) (wr.setCell ⟨A,k,none⟩ (.int .i64 (y:Int)))):=ab ⟨yY,(uh hI).2.1.of_eq (heap_setCell _ _ _ _ (λe=>hAN e.symm)),(uh hI).2.2.setCell (p:=⟨A,k,none⟩) (zq0 (by simp[aD])) _⟩;have i1:(0:Int)<=(k:Int):=(by omega);have i2:(k:Int)<(5:Int):=(by omega);have i3:(c:Int)<(24:Int):=(by omega);clear aE kj hc e1 yY hy hAN hI;go_wp2_with fail
       go_region
       go_wp2_with fail
       go_roundw
       case rel=>exact⟨k+1,by omega,by go_num,ab ⟨(uh C4).1.of_eq (λ_ _=>rfl),(uh C4).2.1.of_eq rfl,(uh C4).2.2.drew⟩⟩
       case measure=>simp[intOf];omega
      .have hd:decide ((k:Int)<(5:Int))=false:=(by simp;omega);have Eu:k=5:=(by omega);have du:Jj (λc=>R.idxOf c) f.cl k=(jJ f).map (λc=>R.idxOf c):=by
        rw[pf (uh HO).c5];unfold Jj;have h5:=(uh HO).c5;rw[take_of_length_le (by omega),drop_eq_nil_of_le (by omega),append_nil]
       rw[du]at hI;have dX:∀c∈db f,c∈R:=(by rw[uh HR];exact j8 (uh HO).ow (uh HO).cl (uh HO).lf);have Dg:=(uh hI).1;have c6:=Dg.is.c6;have hNE:=uh su;have Rk:=ab (wS Dg.is.ow (uh hI).2.1 (λe=>hNE N (by simp only[aD,mem_cons,mem_append,Option.mem_toList];exact zq1 (zq1 e)) rfl) (λp hp=>⟨dX _ (mem_append_right _ (mem_flatMap.2 ⟨p,hp,by simp⟩)),dX _ (mem_append_right _ (mem_flatMap.2 ⟨p,hp,by simp⟩))⟩) (zq3 gl (by omega)));have yj:=ab dX;clear du Eu dX Dg hNE;go_wp2_with fail
       refine(uh Rk).mono ?_;rintro e w4 ⟨rfl,AE,uo⟩;obtain⟨qN,agk⟩:=(uh hI).1.newRow (ow':=f.ow.map (qs R)) (by simp) AE uo;have hNE:=uh su;have Ni:Nu w4 N R:=(uh hI).2.1.of_eq (uo.block N (uh hI).2.1.ltN (λhj=>hNE N (by simp only[aD,mem_cons,mem_append];exact zq1 (zq1 hj)) rfl));have c5:=qN.is.c5;have acO:=ab (wS qN.is.ap Ni (λe=>hNE N (by simp only[aD,mem_cons,mem_append,Option.mem_toList];exact zq1 (zq0 e)) rfl) (λp hp=>⟨uh yj _ (uh HL p hp).1,uh yj _ (uh HL p hp).2⟩) ha);have Vs:=ab qN;have kt:Hid (ar (N::aD A (.slice aa f.ap.length ac) (.slice oa f.ow.length oc)) w0 (N::aD A (.slice aa f.ap.length ac) (.slice oa f.ow.length oc)) w4):=ab ((uh hI).2.2.trans (agk.wide (λj hj=>mem_cons_of_mem _ hj)));clear AE uo qN agk hNE Ni Rk;go_wp2_with fail
       refine(uh acO).mono ?_;rintro e w5 ⟨rfl,yW,pD⟩;obtain⟨BE,m0⟩:=(uh Vs).newRowA (ap':=f.ap.map (qs R)) (by simp) yW pD;have Vt:Hid (Fm w5 A (uQ f) (.slice aa f.ap.length ac) (.slice oa f.ow.length oc)):=ab (by unfold uQ;rw[<-uh HR];exact BE);have rT:Hid (ar (aD A (.slice aa f.ap.length ac) (.slice oa f.ow.length oc)) w (aD A (.slice aa f.ap.length ac) (.slice oa f.ow.length oc)) w5):=ab (by
        have h1:=(uh kt).trans (m0.wide (λj hj=>mem_cons_of_mem _ hj));have hb:=uh IX;exact⟨h1.os.trans hb.os,h1.tape.trans hb.tape,h1.output.trans hb.output,zq3 hb.size h1.size,λj hj hn=>(h1.block j (zq6 hj hb.size) (by
         rw[mem_cons,not_or];exact⟨by have:=uh HNe;omega,hn⟩)).trans (hb.block j hj),λj hj=>zq0 hj⟩)
       clear yW pD BE m0 acO;go_wp2_with fail
       go_end0
       exact⟨rfl,uh Vt,uh rT⟩
end
theorem Ym(a b c x y z:Int)(w:World):(Op.equalIn 10000 182 (.agg #[.int .i64 a,.int .i64 b,.int .i64 c]) (.agg #[.int .i64 x,.int .i64 y,.int .i64 z])).run prog w=.ok (a==x&&(b==y&&c==z)) w:=by
 have u3:=underlying3;have a3:=Tryz.isAgg3;have z3:=sizeOf3;have hS:prog.underlying 182=some (.struct (prog.fieldsOf 182)):=by kernel_rfl
 have hp:prog.stoodInHeld 182=false:=by kernel_rfl
 rw[show(10000:Nat)=9999+1 from rfl,run_equalIn_agg w 9999 182 _ _ hS hp];simp only[Program.fieldsOf,underlying182];go_simp
 by_cases h1:a=x <;> by_cases h2:b=y <;> by_cases h3:c=z <;> simp[h1,h2,h3]
theorem agP(a b c x y z:Int)(w:World):(binOp .neq 182 (.agg #[.int .i64 a,.int .i64 b,.int .i64 c]) (.agg #[.int .i64 x,.int .i64 y,.int .i64 z])).run prog w=.ok (.bool (!(a==x&&(b==y&&c==z)))) w:=by
 rw[run_neq_struct,Ym];rfl
theorem M9:prog.eqGuardType prog.depth 182=false:=by kernel_rfl
