import Derived.Test.YtciihepbeacppaaGreatM17
set_option maxRecDepth 100000
set_option maxHeartbeats 0
namespace Go.Proofs.YtciihepbeacppaaGreat
open Tryz Go.RowKit List World Below
set_option linter.unusedVariables false
def KD(f:CF)(i k:Nat):Nat:=((List.range' k (i+1-k)).find? (λj=>f.cl.getD j 0==f.cl.getD i 0)).getD 0
theorem KE{f:CF}{i k:Nat}(hk:k<=i):KD f i k=if f.cl.getD k 0=f.cl.getD i 0 then k else KD f i (k+1):=by
 unfold KD;rw[show i+1-k=(i+1-(k+1))+1 by omega,range'_succ,find?_cons];by_cases h:f.cl.getD k 0=f.cl.getD i 0
 .rw[if_pos h];simp only[beq_iff_eq.2 h];rfl
 .rw[if_neg h];have:(f.cl.getD k 0==f.cl.getD i 0)=false:=by simpa using h
  rw[this]
theorem KF(f:CF)(i:Nat):KD f i 0=Ag f i:=by unfold KD Ag;rw[Nat.sub_zero,range_eq_range']
theorem P4(f:CF)(i:Nat):KD f i (i+1)=0:=by unfold KD;simp
theorem Vq(f:CF){i:Nat}(hi:i<5):Ag f i<5:=by
 unfold Ag;cases h:(range (i+1)).find? (λk=>f.cl.getD k 0==f.cl.getD i 0) with
 |none=>decide
 |some j =>
  have:=mem_of_find?_eq_some h;rw[mem_range]at this;simp only[Option.getD_some];omega
def qp(l:List Nat):List Value:=l.map (λn=>Value.int .i64 (n:Nat))
def pY(A:Nat)(es bs:List Nat)(pt li:Nat):List Value:=Ue A::(qp es++(qp bs++[.int .i64 (pt:Nat),.int .i64 (li:Nat)]))
def v9(f:CF)(k:Nat):List Nat:=(range 5).map (λj=>if j<k then Ag f j else 0)
def vY(f:CF)(k:Nat):List Nat:=(range 5).map (λj=>if j<k then zw f j else 0)
theorem eH(f:CF)(k:Nat):(v9 f k).length=5:=by simp[v9]
theorem fF(f:CF)(k:Nat):(vY f k).length=5:=by simp[vY]
theorem P6(f:CF){k:Nat}(hk:k<5):(v9 f k).set k (Ag f k)=v9 f (k+1):=by
 have:k=0\/k=1\/k=2\/k=3\/k=4:=by omega
 rcases this with rfl|rfl|rfl|rfl|rfl <;> rfl
theorem PQ(f:CF){k:Nat}(hk:k<5):(vY f k).set k (zw f k)=vY f (k+1):=by
 have:k=0\/k=1\/k=2\/k=3\/k=4:=by omega
 rcases this with rfl|rfl|rfl|rfl|rfl <;> rfl
theorem P5(f:CF){k:Nat}(hk:k<5):(v9 f k).set k 0=v9 f k:=by
 have:k=0\/k=1\/k=2\/k=3\/k=4:=by omega
 rcases this with rfl|rfl|rfl|rfl|rfl <;> rfl
theorem PP(f:CF){k:Nat}(hk:k<5):(vY f k).set k 0=vY f k:=by
 have:k=0\/k=1\/k=2\/k=3\/k=4:=by omega
 rcases this with rfl|rfl|rfl|rfl|rfl <;> rfl
theorem aaZ{A i n:Nat}{es bs:List Nat}{pt li:Nat}(he:es.length=5)(hi:i<5):(pY A es bs pt li).set (1+i) (.int .i64 (n:Nat))=pY A (es.set i n) bs pt li:=by
 unfold pY qp;rw[Nat.add_comm,set_cons_succ,set_append_left _ _ (by simpa using by omega),map_set]
theorem aaY{A i n:Nat}{es bs:List Nat}{pt li:Nat}(he:es.length=5)(hb:bs.length=5)(hi:i<5):(pY A es bs pt li).set (6+i) (.int .i64 (n:Nat))=pY A es (bs.set i n) pt li:=by
 unfold pY qp;rw[show 6+i=(5+i)+1 by omega,set_cons_succ,set_append_right _ _ (by simp;omega),set_append_left _ _ (by simp;omega),map_set];simp[he]
theorem CM{A n:Nat}{es bs:List Nat}{pt li:Nat}(he:es.length=5)(hb:bs.length=5):(pY A es bs pt li).set 11 (.int .i64 (n:Nat))=pY A es bs n li/\(pY A es bs pt li)[11]?=some (.int .i64 (pt:Nat)):=by
 match es,he,bs,hb with
 |[a,b,c,d,e],_,[a',b',c',d',e'],_=>exact⟨rfl,rfl⟩
theorem CL{A n:Nat}{es bs:List Nat}{pt li:Nat}(he:es.length=5)(hb:bs.length=5):(pY A es bs pt li).set 12 (.int .i64 (n:Nat))=pY A es bs pt n/\(pY A es bs pt li)[12]?=some (.int .i64 (li:Nat)):=by
 match es,he,bs,hb with
 |[a,b,c,d,e],_,[a',b',c',d',e'],_=>exact⟨rfl,rfl⟩
theorem xO{A i:Nat}{es bs:List Nat}{pt li:Nat}(he:es.length=5)(hb:bs.length=5)(hi:i<5):(pY A es bs pt li)[1+i]?=some (.int .i64 ((es.getD i 0:Nat):Int))/\(pY A es bs pt li)[6+i]?=some (.int .i64 ((bs.getD i 0:Nat):Int)):=by
 match es,he,bs,hb with
 |[a,b,c,d,e],_,[a',b',c',d',e'],_ =>
  have:i=0\/i=1\/i=2\/i=3\/i=4:=by omega
  rcases this with rfl|rfl|rfl|rfl|rfl <;> exact⟨rfl,rfl⟩
structure pL(w:World)(D A:Nat)(f:CF)(av ov:Value):Prop where
 bk:Bk w D 260 (pY A (v9 f 5) (vY f 5) (Nt f) (Rn f))
 ff:dT w A f av ov
section
variable {w:World} {A:Nat} {f:CF} {av ov:Value}
theorem Kq(h:dT w A f av ov)(hO:au f):Calls prog 229 #[.pointer (some ⟨A,0,none⟩)] w λe w'=>∃D,e=.returned (.pointer (some ⟨D,0,none⟩))/\pL w' D A f av ov/\w.heap.size<=D/\Below w.heap.size w w':=by
 have gG:=hO.owLen;obtain⟨W1,dE⟩:∃W1,W1=w.alloc (.cells #[Ue A,.int .i64 0,.int .i64 0,.int .i64 0,.int .i64 0,.int .i64 0,.int .i64 0,.int .i64 0,.int .i64 0,.int .i64 0,.int .i64 0,.int .i64 0,.int .i64 0] 260):=⟨_,rfl⟩;have bB:Below w.heap.size w W1:=by rw[dE];exact ah w _
 have hD:Bk W1 w.heap.size 260 (pY A (v9 f 0) (vY f 0) 0 0):=by rw[dE];exact Bk.new w _ _
 obtain⟨D,hDe⟩:∃D,D=w.heap.size:=⟨_,rfl⟩;rw[<-hDe]at hD;have cd:=ab (zq2 hD bB);have H:=ab h;have HO:=ab hO;have HDe:=ab hDe;have CY:∀k∈aG A av ov,k≠D:=λk hk=>by have:=h.lt k hk;omega
 have HAl:=ab CY;clear h hO hD bB CY;unfold Ue at dE;go_enter func229,ntmps229;go_upto_region 2 with fail;rw[<-dE,<-hDe];clear dE hDe;go_wp2_with fail
 go_loopg [4] 5 (λgn iv wx=>∃(k:Nat),k+gn=5/\iv=.int .i64 k/\Hid (Bk wx D 260 (pY A (v9 f k) (vY f k) 0 0)/\Below w.heap.size w wx))
 case atStart=>exact⟨0,by omega,rfl,cd⟩
 case round =>
  clear cd;obtain⟨k,f7,rfl,hI⟩:=hrel;obtain⟨G,hG⟩:∃G,G=gk:=⟨_,rfl⟩;by_cases ar:k<5
  .have hd:decide ((k:Int)<(5:Int))=true:=(by simp;omega);have mQ:Hid (Bk wr D 260 (pY A ((v9 f k).set k (KD f k (k+1))) (vY f k) 0 0)/\Below w.heap.size w wr):=ab ⟨by rw[P4,P5 f ar];exact(uh hI).1,(uh hI).2⟩;have i1:(0:Int)<=(k:Int):=(by omega);have i2:(k:Int)<(5:Int):=(by omega);clear hI;go_wp2_with fail
   go_loopg [5] (k+1) (λgn jv wx=>∃(z:Int),z+1=(gn:Int)/\gn<=k+1/\jv=.int .i64 z/\Hid (Bk wx D 260 (pY A ((v9 f k).set k (KD f k gn)) (vY f k) 0 0)/\Below w.heap.size w wx))
   case atStart=>exact⟨(k:Int),by omega,zq4 _,rfl,mQ⟩
   case round =>
    clear mQ;obtain⟨z,hz,Zv,rfl,hJ⟩:=hrel;have hF:=(uh H).below (uh hJ).2;cases gk with
    |zero =>
     have fy:z=-1:=(by omega);subst fy;have hE:=(uh hJ).1;rw[KF,P6 f ar]at hE;have Ly:=PP f ar;have xk:=hF.cls (i:=k) (by omega);unfold fX at xk;have pQ:zw f k=match er f.ow (f.cl.getD k 0) with|some j=>(owA f j).k|none=>0:=rfl
     obtain⟨ck,OW⟩:∃c,c=f.cl.getD k 0:=⟨_,rfl⟩;rw[<-OW]at xk pQ;have lz:=ab (cB ck hF);have hg:=qt (er f.ow ck);have gy:=hE;have cW:=PQ f ar;have cq:w.heap.size<=D:=(by rw[uh HDe];exact zq4 _);have d0:decide ((0:Int)<=-1)=false:=(by decide);cases hb:er f.ow ck with
     |none =>
      rw[hb]at lz hg pQ;have s9:zw f k=0:=pQ;rw[s9,Ly]at cW;have HN:Hid (Bk wr D 260 (pY A (v9 f (k+1)) (vY f (k+1)) 0 0)/\Below w.heap.size w wr):=ab ⟨by rw[<-cW];exact hE,(uh hJ).2⟩;clear hF hE Ly pQ OW gy cW cq hb s9 hJ;go_wp2_with fail
      refine(uh lz).mono ?_;rintro e w3 ⟨rfl,rfl⟩;go_wp2_with fail
      go_roundg (G-1)
      case rel=>exact⟨k+1,by omega,by go_num,HN⟩
      case measure=>omega
     |some j =>
      rw[hb]at lz hg pQ;have s9:zw f k=(owA f j).k:=pQ;obtain⟨fC,-⟩:=gg hb;have c6:=hF.c6;obtain⟨oa,oc,fx,-,-⟩:=aj hF.ow;subst fx;obtain⟨go,gc,mT,-,-⟩:=aD hF.ow fC;simp only[Value.slice.injEq,true_and]at mT;obtain⟨rfl,rfl⟩:=mT;obtain⟨y0,-,-⟩:=aA hF.ow fC;obtain⟨kd,hkd⟩:∃kd,kd=(f.ow.getD j aE).k:=⟨_,rfl⟩;rw[<-hkd]at y0;have abR:zw f k=kd:=(by rw[s9,hkd];rfl);rw[abR]at cW;have dF:=hE.set (6+k) (.int .i64 (kd:Nat));rw[aaY (eH f (k+1)) (fF f k) ar,cW]at dF;have y:=hE.cell (6+k) (xO (eH f (k+1)) (fF f k) ar).2;have zf:=hE.frz (6+k);have HN:Hid (Bk (wr.setCell ⟨D,6+k,none⟩ (.int .i64 (kd:Int))) D 260 (pY A (v9 f (k+1)) (vY f (k+1)) 0 0)/\Below w.heap.size w (wr.setCell ⟨D,6+k,none⟩ (.int .i64 (kd:Int)))):=ab ⟨dF,(uh hJ).2.setCell (p:=⟨D,6+k,none⟩) cq _⟩;rw[show eK (some j)=(j:Int) from rfl]at lz hg;have k1:(0:Int)<=(j:Int):=(by omega);have k2:(j:Int)<(f.ow.length:Int):=(by omega);clear hF hE Ly pQ OW gy cW cq hb s9 abR hkd dF hJ;go_wp2_with fail
      refine(uh lz).mono ?_;rintro e w3 ⟨rfl,rfl⟩;go_wp2_with fail
      go_region
      go_wp2_with fail
      go_roundg (G-1)
      case rel=>exact⟨k+1,by omega,by go_num,ab ⟨(uh HN).1.of_eq rfl,⟨(uh HN).2.os,(uh HN).2.tape,(uh HN).2.output,(uh HN).2.size,(uh HN).2.block⟩⟩⟩
      case measure=>omega
    |succ m =>
     have hzm:z=(m:Int):=(by omega);subst hzm;have d0:decide ((0:Int)<=(m:Int))=true:=(by simp);have xm:=hF.cls (i:=m) (by omega);have xk:=hF.cls (i:=k) (by omega);unfold fX at xm xk;have aS:=KE (f:=f) (i:=k) (k:=m) (by omega);obtain⟨cm,rg⟩:∃c,c=f.cl.getD m 0:=⟨_,rfl⟩;obtain⟨ck,OW⟩:∃c,c=f.cl.getD k 0:=⟨_,rfl⟩;rw[<-rg]at xm aS;rw[<-OW]at xk aS;have k1:(0:Int)<=(m:Int):=(by omega);have k2:(m:Int)<5:=(by omega);have hq0:IntKind.i64.wrap ((m:Int)-1)=(m:Int)-1:=(by rw[IntKind.wrap_i64];omega);by_cases OV:cm=ck
     .have d1:((cm:Int)==(ck:Int))=true:=(by simp[OV]);rw[if_pos OV]at aS;have aR:=(uh hJ).1.set (1+k) (.int .i64 (m:Nat));rw[aaZ (by rw[length_set,eH]) ar,set_set]at aR;have y:=(uh hJ).1.cell (1+k) (xO (by rw[length_set,eH]) (fF f k) ar).1;have zf:=(uh hJ).1.frz (1+k);have cq:w.heap.size<=D:=(by rw[uh HDe];exact zq4 _);have HN:Hid (Bk (wr.setCell ⟨D,1+k,none⟩ (.int .i64 (m:Int))) D 260 (pY A ((v9 f k).set k (KD f k m)) (vY f k) 0 0)/\Below w.heap.size w (wr.setCell ⟨D,1+k,none⟩ (.int .i64 (m:Int)))):=ab ⟨by rw[aS];exact aR,(uh hJ).2.setCell (p:=⟨D,1+k,none⟩) cq _⟩;clear hF aS rg OW OV aR cq hJ;go_wp2_with fail
      go_quiet (fail)
      go_wp2_with fail
      go_roundg m
      case rel=>exact⟨(m:Int)-1,by omega,by omega,by go_num,ab ⟨(uh HN).1.of_eq rfl,⟨(uh HN).2.os,(uh HN).2.tape,(uh HN).2.output,(uh HN).2.size,(uh HN).2.block⟩⟩⟩
      case measure=>omega
     .have d1:((cm:Int)==(ck:Int))=false:=(by simp;omega);rw[if_neg OV]at aS;have HN:Hid (Bk wr D 260 (pY A ((v9 f k).set k (KD f k m)) (vY f k) 0 0)/\Below w.heap.size w wr):=ab ⟨by rw[aS];exact(uh hJ).1,(uh hJ).2⟩;clear hF aS rg OW OV hJ;go_wp2_with fail
      go_quiet (fail)
      go_wp2_with fail
      go_roundg m
      case rel=>exact⟨(m:Int)-1,by omega,by omega,by go_num,ab ⟨(uh HN).1.of_eq rfl,⟨(uh HN).2.os,(uh HN).2.tape,(uh HN).2.output,(uh HN).2.size,(uh HN).2.block⟩⟩⟩
      case measure=>omega
  .have hd:decide ((k:Int)<(5:Int))=false:=(by simp;omega);have Dd:k=5:=(by omega);subst Dd;rw[show((5:Nat):Int)=(5:Int) from rfl];have hF:=(uh H).below (uh hI).2;have c6:=hF.c6;obtain⟨oa,oc,fx,-,-⟩:=aj hF.ow;subst fx;have HL0:Hid (Bk wr D 260 (pY A (v9 f 5) (vY f 5) ((f.ow.take 0).countP (λp=>decide (p.k=3))) ((f.ow.take 0).countP (λp=>!decide (p.k=3))))/\Below w.heap.size w wr):=ab ⟨(uh hI).1,(uh hI).2⟩;clear hF hI;go_wp2_with fail
   go_loopg [68] f.ow.length (λgn iv wx=>∃(m:Nat),m+gn=f.ow.length/\iv=.int .i64 m/\Hid (Bk wx D 260 (pY A (v9 f 5) (vY f 5) ((f.ow.take m).countP (λp=>decide (p.k=3))) ((f.ow.take m).countP (λp=>!decide (p.k=3))))/\Below w.heap.size w wx))
   case atStart=>exact⟨0,by omega,rfl,HL0⟩
   case round =>
    clear HL0 c6;obtain⟨m,hmn,rfl,hI⟩:=hrel;obtain⟨G2,CZ⟩:∃G2,G2=gk:=⟨_,rfl⟩;have hF:=(uh H).below (uh hI).2;by_cases et:m<f.ow.length
    .have jk:decide ((m:Int)<(f.ow.length:Int))=true:=(by simp;omega);obtain⟨go,gc,mT,-,-⟩:=aD hF.ow et;simp only[Value.slice.injEq,true_and]at mT;obtain⟨rfl,rfl⟩:=mT;obtain⟨y0,y1,y2⟩:=aA hF.ow et;have B8:(f.ow.take (m+1)).countP (λp=>decide (p.k=3))=(f.ow.take m).countP (λp=>decide (p.k=3))+(if (f.ow.getD m aE).k=3 then 1 else 0):=by
      rw[take_add_one,getElem?_eq_getElem et,countP_append,gx et];by_cases e:f.ow[m].k=3 <;> simp[e]
     have uJ:(f.ow.take (m+1)).countP (λp=>!decide (p.k=3))=(f.ow.take m).countP (λp=>!decide (p.k=3))+(if (f.ow.getD m aE).k=3 then 0 else 1):=by
      rw[take_add_one,getElem?_eq_getElem et,countP_append,gx et];by_cases e:f.ow[m].k=3 <;> simp[e]
     have hp1:(f.ow.take m).countP (λp=>decide (p.k=3))<=24:=zq3 countP_le_length (by rw[length_take];omega);have WL:(f.ow.take m).countP (λp=>!decide (p.k=3))<=24:=zq3 countP_le_length (by rw[length_take];omega);obtain⟨p,hp⟩:∃p,p=f.ow.getD m aE:=⟨_,rfl⟩;rw[<-hp]at y0 y1 y2 B8 uJ;obtain⟨np,hnp⟩:∃np,np=(f.ow.take m).countP (λp=>decide (p.k=3)):=⟨_,rfl⟩;obtain⟨nl,iN⟩:∃nl,nl=(f.ow.take m).countP (λp=>!decide (p.k=3)):=⟨_,rfl⟩;rw[<-hnp]at hI B8 hp1;rw[<-iN]at hI uJ WL;obtain⟨W1,dE⟩:∃W1,W1=wr.alloc (.cells #[Value.int .i64 p.k,.int .i64 p.l,.int .i64 p.r] 182):=⟨_,rfl⟩;have bV:Below wr.heap.size wr W1:=(by rw[dE];exact ah wr _);have lJ:Bk W1 wr.heap.size 182 [Value.int .i64 p.k,.int .i64 p.l,.int .i64 p.r]:=(by rw[dE];exact Bk.new wr _ _);obtain⟨X,fV⟩:∃X,X=wr.heap.size:=⟨_,rfl⟩;rw[<-fV]at lJ;have b0:=lJ.cell 0 rfl;have K5:=(uh hI).1.below bV;have k9:=(uh hI).2.trans (bV.mono (uh hI).2.size);have e11:=K5.cell 11 (CM (n:=0) (eH f 5) (fF f 5)).2;have e12:=K5.cell 12 (CL (n:=0) (eH f 5) (fF f 5)).2;have z11:=K5.frz 11;have z12:=K5.frz 12;have cq:w.heap.size<=D:=(by rw[uh HDe];exact zq4 _);have k1:(0:Int)<=(m:Int):=(by omega);have k2:(m:Int)<(f.ow.length:Int):=(by omega);by_cases AG:p.k=3
     .have d3:((p.k:Int)==3)=true:=(by simp[AG]);rw[if_pos AG]at B8 uJ;have hs:=K5.set 11 (.int .i64 ((np+1:Nat):Int));rw[(CM (eH f 5) (fF f 5)).1]at hs;rw[show((np+1:Nat):Int)=(np:Int)+1 by omega]at hs;have HN:Hid (Bk (W1.setCell ⟨D,11,none⟩ (.int .i64 ((np:Int)+1))) D 260 (pY A (v9 f 5) (vY f 5) ((f.ow.take (m+1)).countP (λp=>decide (p.k=3))) ((f.ow.take (m+1)).countP (λp=>!decide (p.k=3))))/\Below w.heap.size w (W1.setCell ⟨D,11,none⟩ (.int .i64 ((np:Int)+1)))):=ab ⟨by rw[B8,uJ];exact hs,k9.setCell (p:=⟨D,11,none⟩) cq _⟩;clear hF hI B8 uJ hp hnp iN bV lJ K5 k9 hs cq AG;go_upto_region 16 with fail;rw[<-dE,<-fV];clear dE fV;go_wp2_with fail
      go_roundg (G2-1)
      case rel=>exact⟨m+1,by omega,by go_num,HN⟩
      case measure=>omega
     .have d3:((p.k:Int)==3)=false:=(by simp;omega);rw[if_neg AG]at B8 uJ;have hs:=K5.set 12 (.int .i64 ((nl+1:Nat):Int));rw[(CL (eH f 5) (fF f 5)).1]at hs;rw[show((nl+1:Nat):Int)=(nl:Int)+1 by omega]at hs;have HN:Hid (Bk (W1.setCell ⟨D,12,none⟩ (.int .i64 ((nl:Int)+1))) D 260 (pY A (v9 f 5) (vY f 5) ((f.ow.take (m+1)).countP (λp=>decide (p.k=3))) ((f.ow.take (m+1)).countP (λp=>!decide (p.k=3))))/\Below w.heap.size w (W1.setCell ⟨D,12,none⟩ (.int .i64 ((nl:Int)+1)))):=ab ⟨by rw[B8,uJ];exact hs,k9.setCell (p:=⟨D,12,none⟩) cq _⟩;clear hF hI B8 uJ hp hnp iN bV lJ K5 k9 hs cq AG;go_upto_region 16 with fail;rw[<-dE,<-fV];clear dE fV;go_wp2_with fail
      go_roundg (G2-1)
      case rel=>exact⟨m+1,by omega,by go_num,HN⟩
      case measure=>omega
    .have jk:decide ((m:Int)<(f.ow.length:Int))=false:=(by simp;omega);have hte:f.ow.take m=f.ow:=take_of_length_le (by omega);rw[hte]at hI;have HN:=ab (zq2 (uh hI).1 hF);clear hF hte;go_wp2_with fail
     go_ret;exact⟨D,rfl,⟨(uh HN).1,(uh HN).2⟩,by rw[uh HDe];exact zq4 _,(uh hI).2⟩
end
theorem Nv{f:CF}(h:au f):Nt f<=24:=zq3 countP_le_length h.owLen
theorem MJ{f:CF}(h:au f):Rn f<=24:=zq3 countP_le_length h.owLen
section
variable {w:World} {D A D' A':Nat} {s t:CF} {av ov av' ov':Value}
theorem pL.pt(h:pL w D A s av ov):w.cell? ⟨D,11,none⟩=some (.int .i64 (Nt s:Nat)):=h.bk.cell 11 (CM (n:=0) (eH s 5) (fF s 5)).2
theorem pL.li(h:pL w D A s av ov):w.cell? ⟨D,12,none⟩=some (.int .i64 (Rn s:Nat)):=h.bk.cell 12 (CL (n:=0) (eH s 5) (fF s 5)).2
theorem aa1(f:CF){i:Nat}(hi:i<5):(v9 f 5).getD i 0=Ag f i/\(vY f 5).getD i 0=zw f i:=by
 have:i=0\/i=1\/i=2\/i=3\/i=4:=by omega
 rcases this with rfl|rfl|rfl|rfl|rfl <;> exact⟨rfl,rfl⟩
theorem pL.eq(h:pL w D A s av ov){i:Nat}(hi:i<5):w.cell? ⟨D,1+i,none⟩=some (.int .i64 (Ag s i:Nat)):=by
 have:=h.bk.cell (1+i) (xO (eH s 5) (fF s 5) hi).1;rwa [(aa1 s hi).1]at this
theorem pL.bg(h:pL w D A s av ov){i:Nat}(hi:i<5):w.cell? ⟨D,6+i,none⟩=some (.int .i64 (zw s i:Nat)):=by
 have:=h.bk.cell (6+i) (xO (eH s 5) (fF s 5) hi).2;rwa [(aa1 s hi).2]at this
theorem pL.fo(h:pL w D A s av ov):w.cell? ⟨D,0,none⟩=some (.pointer (some ⟨A,0,none⟩)):=h.bk.cell 0 rfl
theorem pL.of_eq{w':World}(h:pL w D A s av ov)(he:∀k∈D::aG A av ov,w'.heap[k]?=w.heap[k]?):pL w' D A s av ov:=⟨h.bk.of_eq (he D (by simp)),h.ff.of_eq (λk hk=>he k (mem_cons_of_mem _ hk))⟩
theorem pL.lt(h:pL w D A s av ov):∀k∈D::aG A av ov,k<w.heap.size:=λk hk=>by
 rcases mem_cons.1 hk with rfl|hk
 .exact h.bk.lt
 .exact h.ff.lt k hk
theorem pL.below{w':World}(h:pL w D A s av ov)(hb:Below w.heap.size w w'):pL w' D A s av ov:=h.of_eq (λk hk=>hb.block k (h.lt k hk))
theorem Aw(h:pL w D A s av ov)(h':pL w D' A' t av' ov')(hO:au s)(hO':au t):Calls prog 252 #[.pointer (some ⟨D,0,none⟩),.pointer (some ⟨D',0,none⟩)] w λe w'=>e=.returned (.bool (Ye s t))/\∃n,w'=w.drewN n:=by
 have x1:=h.pt;have x2:=h.li;have y1:=h'.pt;have y2:=h'.li;have l1:=Nv hO;have l2:=MJ hO;have l3:=Nv hO';have l4:=MJ hO';obtain⟨R,hR⟩:∃R,R=Ye s t:=⟨_,rfl⟩;rw[<-hR];unfold Ye at hR;obtain⟨a,ha⟩:∃a,a=Nt s:=⟨_,rfl⟩;obtain⟨b,hb⟩:∃b,b=Rn s:=⟨_,rfl⟩;obtain⟨c,hc⟩:∃c,c=Nt t:=⟨_,rfl⟩;obtain⟨d,hd⟩:∃d,d=Rn t:=⟨_,rfl⟩;rw[<-ha]at x1 l1 hR;rw[<-hb]at x2 l2 hR;rw[<-hc]at y1 l3 hR;rw[<-hd]at y2 l4 hR;have q1:IntKind.i64.wrap ((c:Int)+(d:Int))=(c:Int)+(d:Int):=by rw[IntKind.wrap_i64];omega
 have q2:IntKind.i64.wrap ((a:Int)+(b:Int))=(a:Int)+(b:Int):=by rw[IntKind.wrap_i64];omega
 have HR:=ab hR;clear h h' hO hO' ha hb hc hd hR;by_cases c1:a<c
 .have d1:decide ((a:Int)<(c:Int))=true:=by simp;omega
  have n1:decide (a<c)=true:=by simpa using c1
  have HE:Hid (R=false):=ab (by rw[uh HR];simp[c1]);clear c1;go_enter func252,ntmps252;go_upto_region 1 with fail;go_quiet (fail)
  go_wp2_with fail
  go_ret;exact⟨aB (uh HE).symm,_,rfl⟩
 .have d1:decide ((a:Int)<(c:Int))=false:=by simp;omega
  have n1:decide (a<c)=false:=by simpa using c1
  by_cases c2:a+b<c+d
  .have d2:decide ((a:Int)+(b:Int)<(c:Int)+(d:Int))=true:=(by simp;omega);have n2:decide (a+b<c+d)=true:=(by simpa using c2);have HE:Hid (R=false):=ab (by rw[uh HR];simp[c2]);clear c1 c2;go_enter func252,ntmps252;go_upto_region 1 with fail;go_quiet (fail)
   go_wp2_with fail
   go_ret;exact⟨aB (uh HE).symm,_,rfl⟩
  .have d2:decide ((a:Int)+(b:Int)<(c:Int)+(d:Int))=false:=(by simp;omega);have n2:decide (a+b<c+d)=false:=(by simpa using c2);have Px:Hid (R=(decide (0<d)||(decide (b=0)&&decide (a=c)))):=ab (by rw[uh HR];simp[c1,c2]);clear c1 c2;by_cases c3:0<d
   .have d3:decide ((0:Int)<(d:Int))=true:=(by simp;omega);have n3:decide (0<d)=true:=(by simpa using c3);have HE:Hid (R=true):=ab (by rw[uh Px];simp[c3]);clear c3;go_enter func252,ntmps252;go_upto_region 1 with fail;go_quiet (fail)
    go_wp2_with fail
    go_quiet (fail)
    go_wp2_with fail
    go_ret;exact⟨aB (uh HE).symm,_,drewN_drewN _ _ _⟩
   .have d3:decide ((0:Int)<(d:Int))=false:=(by simp;omega);have n3:decide (0<d)=false:=(by simpa using c3);by_cases c4:b=0
    .have d4:((b:Int)==0)=true:=(by simp[c4]);have HE:Hid (R=((a:Int)==(c:Int))):=ab (by rw[uh Px,bh];simp[c3,c4]);clear c3 c4;cases d5:((a:Int)==(c:Int))
     all_goals
      rw[d5]at HE;go_enter func252,ntmps252;go_upto_region 1 with fail;go_quiet (fail)
      go_wp2_with fail
      go_quiet (fail)
      go_wp2_with fail
      go_ret;exact⟨aB (uh HE).symm,_,drewN_drewN _ _ _⟩
    .have d4:((b:Int)==0)=false:=(by simp;omega);have HE:Hid (R=false):=ab (by rw[uh Px];simp[c3,c4]);clear c3 c4;go_enter func252,ntmps252;go_upto_region 1 with fail;go_quiet (fail)
     go_wp2_with fail
     go_quiet (fail)
     go_wp2_with fail
     go_ret;exact⟨aB (uh HE).symm,_,drewN_drewN _ _ _⟩
theorem FF{s t:CF}:O6 s t=true↔∀i,i<5->FD s t i=true:=by
 unfold O6;simp only[Bool.and_eq_true];constructor
 .rintro⟨⟨⟨⟨a,b⟩,c⟩,d⟩,e⟩ i hi;have:i=0\/i=1\/i=2\/i=3\/i=4:=by omega
  rcases this with rfl|rfl|rfl|rfl|rfl <;> assumption
 .intro h;exact⟨⟨⟨⟨h 0 (by omega),h 1 (by omega)⟩,h 2 (by omega)⟩,h 3 (by omega)⟩,h 4 (by omega)⟩
theorem Xp{s t:CF}{i:Nat}(hi:i<5)(h:FD s t i=false):O6 s t=false:=by
 cases hb:O6 s t with
 |false=>rfl
 |true=>have:=FF.1 hb i hi;rw[h]at this;cases this
theorem vD(h:pL w D A s av ov)(h':pL w D' A' t av' ov'):Calls prog 253 #[.pointer (some ⟨D,0,none⟩),.pointer (some ⟨D',0,none⟩)] w λe w'=>e=.returned (.bool (O6 s t))/\∃n,w'=w.drewN n:=by
 obtain⟨R,hR⟩:∃R,R=O6 s t:=⟨_,rfl⟩;rw[<-hR];have HR:=ab hR;have H:=ab h;have H':=ab h';have cd:Hid ((∃n,w=w.drewN n)/\∀i,i<0->FD s t i=true):=ab ⟨⟨0,rfl⟩,λi hi=>by omega⟩;clear h h' hR;go_enter func253,ntmps253;go_wp2_with fail
 go_loopw [5] (λiv wx=>∃(k:Nat),k<=5/\iv=.int .i64 k/\Hid ((∃n,wx=w.drewN n)/\∀i,i<k->FD s t i=true)) (λiv _=>5-(intOf iv).toNat)
 case atStart=>exact⟨0,zq5 _,rfl,cd⟩
 case round =>
  clear cd;obtain⟨k,hk,rfl,hI⟩:=hrel;obtain⟨n0,qj⟩:=(uh hI).1;subst qj;by_cases ar:k<5
  .have hd:decide ((k:Int)<(5:Int))=true:=(by simp;omega);have x1:=(uh H).eq ar;have y1:=(uh H').eq ar;have x2:=(uh H).bg ar;have y2:=(uh H').bg ar;have lg:=Vq t ar;have x3:=(uh H).eq lg;have B9:FD s t k=(decide (Ag s (Ag t k)=Ag s k)&&!(decide (zw t k=3)&&!decide (zw s k=3))&&!(decide (zw t k=4)&&decide (zw s k=0))):=rfl;obtain⟨a,ha⟩:∃a,a=Ag s k:=⟨_,rfl⟩;obtain⟨b,hb⟩:∃b,b=Ag t k:=⟨_,rfl⟩;obtain⟨c,hc⟩:∃c,c=zw s k:=⟨_,rfl⟩;obtain⟨d,TG⟩:∃d,d=zw t k:=⟨_,rfl⟩;rw[<-hb]at y1 lg x3 B9;obtain⟨e,he⟩:∃e,e=Ag s b:=⟨_,rfl⟩;rw[<-ha]at x1 B9;rw[<-hc]at x2 B9;rw[<-TG]at y2 B9;rw[<-he]at x3 B9;have HL:=ab B9;have YZ:Hid (FD s t k=false->R=false):=ab (λh=>by rw[uh HR];exact Xp ar h);have i1:(0:Int)<=(k:Int):=(by omega);have i2:(k:Int)<5:=(by omega);have i3:(0:Int)<=(b:Int):=(by omega);have i4:(b:Int)<5:=(by omega);clear B9 ha hb hc TG he;by_cases q1:e=a
   .have d1:((e:Int) != (a:Int))=false:=(by simp[q1]);by_cases q2:d=3
    .have d2:((d:Int)==3)=true:=(by simp[q2]);have d4:((d:Int)==4)=false:=(by simp[q2]);by_cases q3:c=3
     .have d3:((c:Int) != 3)=false:=(by simp[q3]);have HY:Hid (FD s t k=true):=ab (by rw[uh HL];simp[q1,q2,q3]);clear q1 q2 q3;go_wp2_with fail
      go_quiet (fail)
      go_wp2_with fail
      go_roundw
      case rel=>exact⟨k+1,by omega,by go_num,ab ⟨⟨_,rfl⟩,λi hi=>by
       by_cases e:i=k
       .rw[e];exact uh HY
       .exact(uh hI).2 i (by omega)⟩⟩
      case measure=>simp[intOf];omega
     .have d3:((c:Int) != 3)=true:=(by rw[bne_iff_ne];omega);have HE:Hid (R=false):=ab (uh YZ (by rw[uh HL];simp[q1,q2,q3]));clear q1 q2 q3;go_wp2_with fail
      go_quiet (fail)
      go_wp2_with fail
      go_ret;exact⟨aB (uh HE).symm,_,rfl⟩
    .have d2:((d:Int)==3)=false:=(by simp;omega);by_cases q4:d=4
     .have d4:((d:Int)==4)=true:=(by simp[q4]);by_cases q5:c=0
      .have d5:((c:Int)==0)=true:=(by simp[q5]);have HE:Hid (R=false):=ab (uh YZ (by rw[uh HL];simp[q1,q4,q5]));clear q1 q2 q4 q5;go_wp2_with fail
       go_quiet (fail)
       go_wp2_with fail
       go_ret;exact⟨aB (uh HE).symm,_,rfl⟩
      .have d5:((c:Int)==0)=false:=(by simp;omega);have HY:Hid (FD s t k=true):=ab (by rw[uh HL];simp[q1,q4,q5]);clear q1 q2 q4 q5;go_wp2_with fail
       go_quiet (fail)
       go_wp2_with fail
       go_roundw
       case rel=>exact⟨k+1,by omega,by go_num,ab ⟨⟨_,rfl⟩,λi hi=>by
        by_cases e:i=k
        .rw[e];exact uh HY
        .exact(uh hI).2 i (by omega)⟩⟩
       case measure=>simp[intOf];omega
     .have d4:((d:Int)==4)=false:=(by simp;omega);have HY:Hid (FD s t k=true):=ab (by rw[uh HL];simp[q1,q2,q4]);clear q1 q2 q4;go_wp2_with fail
      go_quiet (fail)
      go_wp2_with fail
      go_roundw
      case rel=>exact⟨k+1,by omega,by go_num,ab ⟨⟨_,rfl⟩,λi hi=>by
       by_cases e:i=k
       .rw[e];exact uh HY
       .exact(uh hI).2 i (by omega)⟩⟩
      case measure=>simp[intOf];omega
   .have d1:((e:Int) != (a:Int))=true:=(by rw[bne_iff_ne];omega);have HE:Hid (R=false):=ab (uh YZ (by rw[uh HL];simp[q1]));clear q1;go_wp2_with fail
    go_quiet (fail)
    go_wp2_with fail
    go_ret;exact⟨aB (uh HE).symm,_,drewN_drewN _ _ _⟩
  .have hd:decide ((k:Int)<(5:Int))=false:=(by simp;omega);have HE:Hid (R=true):=ab (by rw[uh HR];exact FF.2 (λi hi=>(uh hI).2 i (by omega)));go_wp2_with fail
   go_ret;exact⟨aB (uh HE).symm,_,rfl⟩
end
def Sn(w:World)(q f t:Nat)(st:Int)(anc rest:List Value):Prop :=
 Ob w 202 55 q ([Ue f,Ue t]++(anc++rest))/\anc.length=24/\∃(mid:List Value) (vv ov uv pv:Value),rest=mid++[vv,ov,uv,pv,.int .i64 st]/\mid.length=24
theorem R6{a b:Value}{anc rest:List Value}{j:Nat}(hj:j<anc.length)(u:Value):([a,b]++(anc++rest)).set (2+j) u=[a,b]++(anc.set j u++rest):=by
 rw[set_append_right _ _ (by simp),show 2+j - [a,b].length=j by simp,set_append_left _ _ hj]
theorem Qk{a b:Value}{anc rest:List Value}{j:Nat}(hj:j<anc.length):([a,b]++(anc++rest))[2+j]?=anc[j]?:=by
 rw[getElem?_append_right (by simp),show 2+j - [a,b].length=j by simp,getElem?_append_left hj]
theorem Sn.set{w:World}{q f t:Nat}{st:Int}{anc rest:List Value}(h:Sn w q f t st anc rest){j:Nat}(hj:j<24)(u:Value):Sn (w.setCell ⟨q,2+j,none⟩ u) q f t st (anc.set j u) rest:=by
 obtain⟨h1,h2,h3⟩:=h;have:=h1.set (2+j) u;rw[R6 (by omega)]at this;exact⟨this,by simpa using h2,h3⟩
theorem Sn.of_eq{w w':World}{q f t:Nat}{st:Int}{anc rest:List Value}(h:Sn w q f t st anc rest)(he:w'.heap[q]?=w.heap[q]?):Sn w' q f t st anc rest:=⟨h.1.of_eq he,h.2⟩
theorem GO{anc:List Value}(h:anc.length=24)(ha:∀j,j<24->anc[j]?=some (.int .i64 (-1))):anc=a7 (replicate 24 none):=by
 apply ext_getElem?;intro j;by_cases hj:j<24
 .rw[ha j hj];unfold a7;rw[map_replicate,getElem?_replicate,if_pos hj];rfl
 .rw[getElem?_eq_none (by omega),getElem?_eq_none (by simp[a7];omega)]
theorem Kr{w:World}{q f t:Nat}{st:Int}{anc rest:List Value}{F T:CF}{fav fov tav tov:Value}(h:Sn w q f t st anc rest)(hF:dT w f F fav fov)(hT:dT w t T tav tov)(nf:∀k∈aG f fav fov,k≠q)(nt:∀k∈aG t tav tov,k≠q)(abH:∀i,i<5->T.cl.getD i 0<24):
  Calls prog 116 #[.pointer (some ⟨q,0,none⟩)] w λe w'=>e=.returned (.bool (BX F T [0,1,2,3,4] (replicate 24 none)).isSome)/\(∀an,BX F T [0,1,2,3,4] (replicate 24 none)=some an->Sq w' q f t an st)/\aq [q] w [q] w':=by
 have HS:=ab h;have HF:=ab hF;have HT:=ab hT;have YY:=ab nf;have HNt:=ab nt;have agd:=ab abH;clear h hF hT nf nt abH;go_enter func116,ntmps116;go_wp2_with fail
 go_loopw [3] (λi wr=>∃(k:Nat) (an:List Value),k<=24/\i=.int .i64 k/\Hid (Sn wr q f t st an rest)/\Hid (∀j,j<k->an[j]?=some (.int .i64 (-1)))/\Hid (aq [q] w [q] wr)) (λi _=>24-(intOf i).toNat)
 case atStart=>exact⟨0,anc,zq5 _,rfl,HS,ab (λj hj=>by omega),ab (aq.refl _ _)⟩
 case round =>
  obtain⟨k,an,hk,rfl,bN,hm,aS⟩:=hrel;by_cases ar:k<24
  .have hd:decide ((k:Int)<24)=true:=(by simp;omega);obtain⟨⟨u,hu⟩,hz⟩:=(uh bN).1.some (j:=2+k) (by omega);have cj:=ab ((uh bN).set ar (.int .i64 (-1)));have Cs:Hid (∀j,j<k+1->(an.set k (.int .i64 (-1)))[j]?=some (.int .i64 (-1))):=ab (by
    intro j hj;have hl:=(uh bN).2.1;by_cases e:k=j
    .subst e;rw[getElem?_set_self (by omega)]
    .rw[getElem?_set_ne e];exact uh hm j (by omega))
   have Ef:=ab ((uh aS).setCell (p:=⟨q,2+k,none⟩) (zq0 (by simp)) (.int .i64 (-1)));go_wp2_with fail
   go_roundw
   case rel=>exact⟨k+1,_,by omega,by go_num,cj,Cs,Ef⟩
   case measure=>simp[intOf];omega
  .have hd:decide ((k:Int)<24)=false:=(by simp;omega);have aco:k=24:=(by omega);subst aco;have qC:Hid (Sn wr q f t st (a7 (replicate 24 none)) rest):=ab (by
    have:=GO (uh bN).2.1 (uh hm);rw[<-this];exact uh bN)
   go_wp2_with fail
   go_loopg [4] 5 (λgn i wr=>∃(k:Nat) (an:List (Option Nat)),k+gn=5/\i=.int .i64 k/\Hid (Sn wr q f t st (a7 an) rest)/\Hid (BX F T ([0,1,2,3,4].drop k) an=BX F T [0,1,2,3,4] (replicate 24 none))/\Hid (aq [q] w [q] wr))
   case atStart=>exact⟨0,_,by omega,rfl,qC,ab rfl,aS⟩
   case round =>
    obtain⟨k,an,hk,rfl,bO,om,vz⟩:=hrel;by_cases bS:k<5
    .have jk:decide ((k:Int)<5)=true:=(by simp;omega);have gy:=λb hb aY=>(uh vz).block b hb (show b ∉ [q] by simpa using aY);have Qt:=(uh HF).of_eq (λb hb=>gy b ((uh HF).lt b hb) (uh YY b hb));have Tz:=(uh HT).of_eq (λb hb=>gy b ((uh HT).lt b hb) (uh HNt b hb));have hq0:wr.cell? ⟨q,0,none⟩=some (.pointer (some ⟨f,0,none⟩)):=(by rw[ownsRow.cellAt (uh bO).1 0 (by omega)];rfl);have ZC:wr.cell? ⟨q,1,none⟩=some (.pointer (some ⟨t,0,none⟩)):=(by rw[ownsRow.cellAt (uh bO).1 1 (by omega)];rfl);have Zs:=Qt.cls (i:=k) bS;have htc:=Tz.cls (i:=k) bS;unfold fX at Zs htc;have xZ:=uh agd k bS;obtain⟨c,hc⟩:∃c,c=T.cl.getD k 0:=⟨_,rfl⟩;obtain⟨fk,LH⟩:∃fk,fk=F.cl.getD k 0:=⟨_,rfl⟩;rw[<-hc]at htc xZ;rw[<-LH]at Zs;have nM:an.length=24:=(by have:=(uh bO).2.1;rw[aN]at this;exact this);have Jc:wr.cell? ⟨q,2+c,none⟩=some (.int .i64 (eK (an.getD c none))):=by
      rw[ownsRow.cellAt (uh bO).1 (2+c) (by omega),Qk (by rw[aN];omega)];have:c<an.length:=(by omega);simp[a7,this]
     have hzc:=ownsRow.frozenAt (uh bO).1 (2+c);obtain⟨o,ho⟩:∃o,o=an.getD c none:=⟨_,rfl⟩;rw[<-ho]at Jc;have fI:BX F T ([0,1,2,3,4].drop k) an=if o≠none/\o≠some fk then none else BX F T ([0,1,2,3,4].drop (k+1)) (an.set c (some fk)):=by
      have Dd:k=0\/k=1\/k=2\/k=3\/k=4:=(by omega);have e:([0,1,2,3,4]:List Nat).drop k=k::([0,1,2,3,4]:List Nat).drop (k+1):=by
       rcases Dd with rfl|rfl|rfl|rfl|rfl <;> rfl
      rw[e,BX,<-hc,<-LH,<-ho]
     rw[uh om]at fI;have jf:=mE o;have gW:=ab ((uh bO).set xZ (.int .i64 (fk:Int)));have su:Hid (Sn (wr.setCell ⟨q,2+c,none⟩ (.int .i64 (fk:Int))) q f t st (a7 (an.set c (some fk))) rest):=ab (by
      have:=uh gW;rw[show(a7 an).set c (.int .i64 (fk:Int))=a7 (an.set c (some fk)) by simp[a7,map_set,eK]]at this;exact this)
     have sy:=ab ((uh vz).setCell (p:=⟨q,2+c,none⟩) (zq0 (by simp)) (.int .i64 (fk:Int)));have S6:=ab fI;clear fI hc LH ho Qt Tz gy gW qC;by_cases tb:o≠none/\o≠some fk
     .have xx:Hid (BX F T [0,1,2,3,4] (replicate 24 none)=none):=ab (by rw[uh S6,if_pos tb]);cases o with
      |none=>exact absurd rfl tb.1
      |some b0 =>
       rw[show eK (some b0)=(b0:Int) from rfl]at Jc jf;rw[show(some b0).isSome=true from rfl]at jf;have gl:((b0:Int) != (fk:Int))=true:=by
        rw[bne_iff_ne];intro e;exact tb.2 (by rw[show b0=fk by omega])
       clear tb;go_wp2_with fail
       go_quiet (fail)
       go_wp2_with fail
       go_ret;refine⟨by rw[uh xx];rfl,λan' h=>?_,(uh vz).drewN _⟩;rw[uh xx]at h;cases h
     .have UJ:Hid (BX F T ([0,1,2,3,4].drop (k+1)) (an.set c (some fk))=BX F T [0,1,2,3,4] (replicate 24 none)):=ab (by rw[uh S6,if_neg tb]);cases o with
      |none =>
       rw[show eK none=(-1:Int) from rfl]at Jc;clear tb jf;go_wp2_with fail
       go_quiet (fail)
       go_wp2_with fail
       go_region
       go_wp2_with fail
       go_roundg (gk-1)
       case rel=>exact⟨k+1,_,by omega,by go_num,ab ((uh su).of_eq rfl),UJ,ab ⟨(uh sy).os,(uh sy).tape,(uh sy).output,(uh sy).size,(uh sy).block,(uh sy).foot⟩⟩
       case measure=>omega
      |some b0 =>
       have s9:b0=fk:=Classical.byContradiction (λh=>tb ⟨by simp,by simpa using h⟩);rw[show eK (some b0)=(b0:Int) from rfl]at Jc jf;rw[show(some b0).isSome=true from rfl]at jf;have gl:((b0:Int) != (fk:Int))=false:=(by rw[s9];simp);clear tb s9;go_wp2_with fail
       go_quiet (fail)
       go_wp2_with fail
       go_region
       go_wp2_with fail
       go_roundg (gk-1)
       case rel=>exact⟨k+1,_,by omega,by go_num,ab ((uh su).of_eq rfl),UJ,ab ⟨(uh sy).os,(uh sy).tape,(uh sy).output,(uh sy).size,(uh sy).block,(uh sy).foot⟩⟩
       case measure=>omega
    .have jk:decide ((k:Int)<5)=false:=(by simp;omega);have Dd:k=5:=(by omega);subst Dd;have xx:Hid (BX F T [0,1,2,3,4] (replicate 24 none)=some an):=ab ((uh om).symm);clear qC;go_wp2_with fail
     go_ret;refine⟨by rw[uh xx];rfl,λan' h=>?_,uh vz⟩;rw[uh xx]at h;cases h
     obtain⟨h1,h2,mid,vv,ov,uv,pv,h3,h4⟩:=uh bO;refine⟨mid,vv,ov,uv,pv,?_,h4,by rw[aN]at h2;exact h2⟩;rw[h3]at h1;exact h1
