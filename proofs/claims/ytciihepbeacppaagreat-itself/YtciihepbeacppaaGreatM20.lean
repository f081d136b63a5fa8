import Derived.Test.YtciihepbeacppaaGreatM19
set_option maxRecDepth 100000
set_option maxHeartbeats 0
namespace Go.Proofs.YtciihepbeacppaaGreat
open Tryz Go.RowKit List World Below
set_option linter.unusedVariables false
def MJ(f:CF)(i k:Nat):Nat:=((List.range' k (i+1-k)).find? (λj=>f.cl.getD j 0==f.cl.getD i 0)).getD 0
theorem MK{f:CF}{i k:Nat}(hk:k<=i):MJ f i k=if f.cl.getD k 0=f.cl.getD i 0 then k else MJ f i (k+1):=by
 unfold MJ;rw[show i+1-k=(i+1-(k+1))+1 by omega,range'_succ,find?_cons];by_cases h:f.cl.getD k 0=f.cl.getD i 0
 .rw[if_pos h];simp only[beq_iff_eq.2 h];rfl
 .rw[if_neg h];have:(f.cl.getD k 0==f.cl.getD i 0)=false:=by simpa using h
  rw[this]
theorem MM(f:CF)(i:Nat):MJ f i 0=Bo f i:=by unfold MJ Bo;rw[Nat.sub_zero,range_eq_range']
theorem SE(f:CF)(i:Nat):MJ f i (i+1)=0:=by unfold MJ;simp
theorem Yl(f:CF){i:Nat}(hi:i<5):Bo f i<5:=by
 unfold Bo;cases h:(range (i+1)).find? (λk=>f.cl.getD k 0==f.cl.getD i 0) with
 |none=>decide
 |some j =>
  have:=mem_of_find?_eq_some h;rw[mem_range]at this;simp only[Option.getD_some];omega
def q8(l:List Nat):List Value:=l.map (λn=>Value.int .i64 (n:Nat))
def qC(A:Nat)(es bs:List Nat)(pt li:Nat):List Value:=Xf A::(q8 es++(q8 bs++[.int .i64 (pt:Nat),.int .i64 (li:Nat)]))
def xd(f:CF)(k:Nat):List Nat:=(range 5).map (λj=>if j<k then Bo f j else 0)
def wV(f:CF)(k:Nat):List Nat:=(range 5).map (λj=>if j<k then Am f j else 0)
theorem eJ(f:CF)(k:Nat):(xd f k).length=5:=by simp[xd]
theorem fF(f:CF)(k:Nat):(wV f k).length=5:=by simp[wV]
theorem SG(f:CF){k:Nat}(hk:k<5):(xd f k).set k (Bo f k)=xd f (k+1):=by
 have:k=0\/k=1\/k=2\/k=3\/k=4:=by omega
 rcases this with rfl|rfl|rfl|rfl|rfl <;> rfl
theorem R7(f:CF){k:Nat}(hk:k<5):(wV f k).set k (Am f k)=wV f (k+1):=by
 have:k=0\/k=1\/k=2\/k=3\/k=4:=by omega
 rcases this with rfl|rfl|rfl|rfl|rfl <;> rfl
theorem SF(f:CF){k:Nat}(hk:k<5):(xd f k).set k 0=xd f k:=by
 have:k=0\/k=1\/k=2\/k=3\/k=4:=by omega
 rcases this with rfl|rfl|rfl|rfl|rfl <;> rfl
theorem R6(f:CF){k:Nat}(hk:k<5):(wV f k).set k 0=wV f k:=by
 have:k=0\/k=1\/k=2\/k=3\/k=4:=by omega
 rcases this with rfl|rfl|rfl|rfl|rfl <;> rfl
theorem ad3{A i n:Nat}{es bs:List Nat}{pt li:Nat}(he:es.length=5)(hi:i<5):(qC A es bs pt li).set (1+i) (.int .i64 (n:Nat))=qC A (es.set i n) bs pt li:=by
 unfold qC q8;rw[Nat.add_comm,set_cons_succ,set_append_left _ _ (by simpa using by omega),map_set]
theorem ad2{A i n:Nat}{es bs:List Nat}{pt li:Nat}(he:es.length=5)(hb:bs.length=5)(hi:i<5):(qC A es bs pt li).set (6+i) (.int .i64 (n:Nat))=qC A es (bs.set i n) pt li:=by
 unfold qC q8;rw[show 6+i=(5+i)+1 by omega,set_cons_succ,set_append_right _ _ (by simp;omega),set_append_left _ _ (by simp;omega),map_set];simp[he]
theorem D4{A n:Nat}{es bs:List Nat}{pt li:Nat}(he:es.length=5)(hb:bs.length=5):(qC A es bs pt li).set 11 (.int .i64 (n:Nat))=qC A es bs n li/\(qC A es bs pt li)[11]?=some (.int .i64 (pt:Nat)):=by
 match es,he,bs,hb with
 |[a,b,c,d,e],_,[a',b',c',d',e'],_=>exact⟨rfl,rfl⟩
theorem D3{A n:Nat}{es bs:List Nat}{pt li:Nat}(he:es.length=5)(hb:bs.length=5):(qC A es bs pt li).set 12 (.int .i64 (n:Nat))=qC A es bs pt n/\(qC A es bs pt li)[12]?=some (.int .i64 (li:Nat)):=by
 match es,he,bs,hb with
 |[a,b,c,d,e],_,[a',b',c',d',e'],_=>exact⟨rfl,rfl⟩
theorem yz{A i:Nat}{es bs:List Nat}{pt li:Nat}(he:es.length=5)(hb:bs.length=5)(hi:i<5):(qC A es bs pt li)[1+i]?=some (.int .i64 ((es.getD i 0:Nat):Int))/\(qC A es bs pt li)[6+i]?=some (.int .i64 ((bs.getD i 0:Nat):Int)):=by
 match es,he,bs,hb with
 |[a,b,c,d,e],_,[a',b',c',d',e'],_ =>
  have:i=0\/i=1\/i=2\/i=3\/i=4:=by omega
  rcases this with rfl|rfl|rfl|rfl|rfl <;> exact⟨rfl,rfl⟩
structure qh(w:World)(D A:Nat)(f:CF)(av ov:Value):Prop where
 bk:Bk w D 260 (qC A (xd f 5) (wV f 5) (PB f) (TX f))
 ff:dF w A f av ov
section
variable {w:World} {A:Nat} {f:CF} {av ov:Value}
theorem Mv(h:dF w A f av ov)(hO:am f):Calls prog 229 #[.pointer (some ⟨A,0,none⟩)] w λe w'=>∃D,e=.returned (.pointer (some ⟨D,0,none⟩))/\qh w' D A f av ov/\w.heap.size<=D/\Below w.heap.size w w':=by
 have gl:=hO.owLen;obtain⟨W1,dI⟩:∃W1,W1=w.alloc (.cells #[Xf A,.int .i64 0,.int .i64 0,.int .i64 0,.int .i64 0,.int .i64 0,.int .i64 0,.int .i64 0,.int .i64 0,.int .i64 0,.int .i64 0,.int .i64 0,.int .i64 0] 260):=⟨_,rfl⟩;have a7:Below w.heap.size w W1:=by rw[dI];exact ah w _
 have hD:Bk W1 w.heap.size 260 (qC A (xd f 0) (wV f 0) 0 0):=by rw[dI];exact Bk.new w _ _
 obtain⟨D,hDe⟩:∃D,D=w.heap.size:=⟨_,rfl⟩;rw[<-hDe]at hD;have bX:=ab (zq2 hD a7);have H:=ab h;have HO:=ab hO;have HDe:=ab hDe;have Av:∀k∈aD A av ov,k≠D:=λk hk=>by have:=h.lt k hk;omega
 have Rn:=ab Av;clear h hO hD a7 Av;unfold Xf at dI;go_enter func229,ntmps229;go_upto_region 2 with fail;rw[<-dI,<-hDe];clear dI hDe;go_wp2_with fail
 go_loopg [4] 5 (λgn iv wx=>∃(k:Nat),k+gn=5/\iv=.int .i64 k/\Hid (Bk wx D 260 (qC A (xd f k) (wV f k) 0 0)/\Below w.heap.size w wx))
 case atStart=>exact⟨0,by omega,rfl,bX⟩
 case round =>
  clear bX;obtain⟨k,eV,rfl,hI⟩:=hrel;obtain⟨G,hG⟩:∃G,G=gk:=⟨_,rfl⟩;by_cases aq:k<5
  .have hd:decide ((k:Int)<(5:Int))=true:=(by simp;omega);have mV:Hid (Bk wr D 260 (qC A ((xd f k).set k (MJ f k (k+1))) (wV f k) 0 0)/\Below w.heap.size w wr):=ab ⟨by rw[SE,SF f aq];exact(uh hI).1,(uh hI).2⟩;have i1:(0:Int)<=(k:Int):=(by omega);have i2:(k:Int)<(5:Int):=(by omega);clear hI;go_wp2_with fail
   go_loopg [5] (k+1) (λgn jv wx=>∃(z:Int),z+1=(gn:Int)/\gn<=k+1/\jv=.int .i64 z/\Hid (Bk wx D 260 (qC A ((xd f k).set k (MJ f k gn)) (wV f k) 0 0)/\Below w.heap.size w wx))
   case atStart=>exact⟨(k:Int),by omega,zq4 _,rfl,mV⟩
   case round =>
    clear mV;obtain⟨z,hz,KU,rfl,hJ⟩:=hrel;have hF:=(uh H).below (uh hJ).2;cases gk with
    |zero =>
     have ep:z=-1:=(by omega);subst ep;have hE:=(uh hJ).1;rw[MM,SG f aq]at hE;have ND:=R6 f aq;have xk:=hF.cls (i:=k) (by omega);unfold fH at xk;have oh:Am f k=match cR f.ow (f.cl.getD k 0) with|some j=>(owA f j).k|none=>0:=rfl
     obtain⟨ck,Q3⟩:∃c,c=f.cl.getD k 0:=⟨_,rfl⟩;rw[<-Q3]at xk oh;have kV:=ab (bU ck hF);have hg:=rd (cR f.ow ck);have fq:=hE;have cf:=R7 f aq;have cq:w.heap.size<=D:=(by rw[uh HDe];exact zq4 _);have d0:decide ((0:Int)<=-1)=false:=(by decide);cases hb:cR f.ow ck with
     |none =>
      rw[hb]at kV hg oh;have ua:Am f k=0:=oh;rw[ua,ND]at cf;have HN:Hid (Bk wr D 260 (qC A (xd f (k+1)) (wV f (k+1)) 0 0)/\Below w.heap.size w wr):=ab ⟨by rw[<-cf];exact hE,(uh hJ).2⟩;clear hF hE ND oh Q3 fq cf cq hb ua hJ;go_wp2_with fail
      refine(uh kV).mono ?_;rintro e w3 ⟨rfl,rfl⟩;go_wp2_with fail
      go_roundg (G-1)
      case rel=>exact⟨k+1,by omega,by go_num,HN⟩
      case measure=>omega
     |some j =>
      rw[hb]at kV hg oh;have ua:Am f k=(owA f j).k:=oh;obtain⟨eu,-⟩:=eO hb;have c6:=hF.c6;obtain⟨oa,oc,d7,-,-⟩:=aj hF.ow;subst d7;obtain⟨go,gc,kK,-,-⟩:=az hF.ow eu;simp only[Value.slice.injEq,true_and]at kK;obtain⟨rfl,rfl⟩:=kK;obtain⟨y0,-,-⟩:=ax hF.ow eu;obtain⟨kd,GN⟩:∃kd,kd=(f.ow.getD j au).k:=⟨_,rfl⟩;rw[<-GN]at y0;have aeY:Am f k=kd:=(by rw[ua,GN];rfl);rw[aeY]at cf;have fR:=hE.set (6+k) (.int .i64 (kd:Nat));rw[ad2 (eJ f (k+1)) (fF f k) aq,cf]at fR;have y:=hE.cell (6+k) (yz (eJ f (k+1)) (fF f k) aq).2;have zf:=hE.frz (6+k);have HN:Hid (Bk (wr.setCell ⟨D,6+k,none⟩ (.int .i64 (kd:Int))) D 260 (qC A (xd f (k+1)) (wV f (k+1)) 0 0)/\Below w.heap.size w (wr.setCell ⟨D,6+k,none⟩ (.int .i64 (kd:Int)))):=ab ⟨fR,(uh hJ).2.setCell (p:=⟨D,6+k,none⟩) cq _⟩;rw[show dp (some j)=(j:Int) from rfl]at kV hg;have k1:(0:Int)<=(j:Int):=(by omega);have k2:(j:Int)<(f.ow.length:Int):=(by omega);clear hF hE ND oh Q3 fq cf cq hb ua aeY GN fR hJ;go_wp2_with fail
      refine(uh kV).mono ?_;rintro e w3 ⟨rfl,rfl⟩;go_wp2_with fail
      go_region
      go_wp2_with fail
      go_roundg (G-1)
      case rel=>exact⟨k+1,by omega,by go_num,ab ⟨(uh HN).1.of_eq rfl,⟨(uh HN).2.os,(uh HN).2.tape,(uh HN).2.output,(uh HN).2.size,(uh HN).2.block⟩⟩⟩
      case measure=>omega
    |succ m =>
     have hzm:z=(m:Int):=(by omega);subst hzm;have d0:decide ((0:Int)<=(m:Int))=true:=(by simp);have xm:=hF.cls (i:=m) (by omega);have xk:=hF.cls (i:=k) (by omega);unfold fH at xm xk;have aE:=MK (f:=f) (i:=k) (k:=m) (by omega);obtain⟨cm,kj⟩:∃c,c=f.cl.getD m 0:=⟨_,rfl⟩;obtain⟨ck,Q3⟩:∃c,c=f.cl.getD k 0:=⟨_,rfl⟩;rw[<-kj]at xm aE;rw[<-Q3]at xk aE;have k1:(0:Int)<=(m:Int):=(by omega);have k2:(m:Int)<5:=(by omega);have Rc:IntKind.i64.wrap ((m:Int)-1)=(m:Int)-1:=(by rw[IntKind.wrap_i64];omega);by_cases Q2:cm=ck
     .have d1:((cm:Int)==(ck:Int))=true:=(by simp[Q2]);rw[if_pos Q2]at aE;have aL:=(uh hJ).1.set (1+k) (.int .i64 (m:Nat));rw[ad3 (by rw[length_set,eJ]) aq,set_set]at aL;have y:=(uh hJ).1.cell (1+k) (yz (by rw[length_set,eJ]) (fF f k) aq).1;have zf:=(uh hJ).1.frz (1+k);have cq:w.heap.size<=D:=(by rw[uh HDe];exact zq4 _);have HN:Hid (Bk (wr.setCell ⟨D,1+k,none⟩ (.int .i64 (m:Int))) D 260 (qC A ((xd f k).set k (MJ f k m)) (wV f k) 0 0)/\Below w.heap.size w (wr.setCell ⟨D,1+k,none⟩ (.int .i64 (m:Int)))):=ab ⟨by rw[aE];exact aL,(uh hJ).2.setCell (p:=⟨D,1+k,none⟩) cq _⟩;clear hF aE kj Q3 Q2 aL cq hJ;go_wp2_with fail
      go_quiet (fail)
      go_wp2_with fail
      go_roundg m
      case rel=>exact⟨(m:Int)-1,by omega,by omega,by go_num,ab ⟨(uh HN).1.of_eq rfl,⟨(uh HN).2.os,(uh HN).2.tape,(uh HN).2.output,(uh HN).2.size,(uh HN).2.block⟩⟩⟩
      case measure=>omega
     .have d1:((cm:Int)==(ck:Int))=false:=(by simp;omega);rw[if_neg Q2]at aE;have HN:Hid (Bk wr D 260 (qC A ((xd f k).set k (MJ f k m)) (wV f k) 0 0)/\Below w.heap.size w wr):=ab ⟨by rw[aE];exact(uh hJ).1,(uh hJ).2⟩;clear hF aE kj Q3 Q2 hJ;go_wp2_with fail
      go_quiet (fail)
      go_wp2_with fail
      go_roundg m
      case rel=>exact⟨(m:Int)-1,by omega,by omega,by go_num,ab ⟨(uh HN).1.of_eq rfl,⟨(uh HN).2.os,(uh HN).2.tape,(uh HN).2.output,(uh HN).2.size,(uh HN).2.block⟩⟩⟩
      case measure=>omega
  .have hd:decide ((k:Int)<(5:Int))=false:=(by simp;omega);have Eu:k=5:=(by omega);subst Eu;rw[show((5:Nat):Int)=(5:Int) from rfl];have hF:=(uh H).below (uh hI).2;have c6:=hF.c6;obtain⟨oa,oc,d7,-,-⟩:=aj hF.ow;subst d7;have HL0:Hid (Bk wr D 260 (qC A (xd f 5) (wV f 5) ((f.ow.take 0).countP (λp=>decide (p.k=3))) ((f.ow.take 0).countP (λp=>!decide (p.k=3))))/\Below w.heap.size w wr):=ab ⟨(uh hI).1,(uh hI).2⟩;clear hF hI;go_wp2_with fail
   go_loopg [68] f.ow.length (λgn iv wx=>∃(m:Nat),m+gn=f.ow.length/\iv=.int .i64 m/\Hid (Bk wx D 260 (qC A (xd f 5) (wV f 5) ((f.ow.take m).countP (λp=>decide (p.k=3))) ((f.ow.take m).countP (λp=>!decide (p.k=3))))/\Below w.heap.size w wx))
   case atStart=>exact⟨0,by omega,rfl,HL0⟩
   case round =>
    clear HL0 c6;obtain⟨m,hmn,rfl,hI⟩:=hrel;obtain⟨G2,BF⟩:∃G2,G2=gk:=⟨_,rfl⟩;have hF:=(uh H).below (uh hI).2;by_cases dJ:m<f.ow.length
    .have jb:decide ((m:Int)<(f.ow.length:Int))=true:=(by simp;omega);obtain⟨go,gc,kK,-,-⟩:=az hF.ow dJ;simp only[Value.slice.injEq,true_and]at kK;obtain⟨rfl,rfl⟩:=kK;obtain⟨y0,y1,y2⟩:=ax hF.ow dJ;have JM:(f.ow.take (m+1)).countP (λp=>decide (p.k=3))=(f.ow.take m).countP (λp=>decide (p.k=3))+(if (f.ow.getD m au).k=3 then 1 else 0):=by
      rw[take_add_one,getElem?_eq_getElem dJ,countP_append,bK dJ];by_cases e:f.ow[m].k=3 <;> simp[e]
     have r7:(f.ow.take (m+1)).countP (λp=>!decide (p.k=3))=(f.ow.take m).countP (λp=>!decide (p.k=3))+(if (f.ow.getD m au).k=3 then 0 else 1):=by
      rw[take_add_one,getElem?_eq_getElem dJ,countP_append,bK dJ];by_cases e:f.ow[m].k=3 <;> simp[e]
     have hp1:(f.ow.take m).countP (λp=>decide (p.k=3))<=24:=zq3 countP_le_length (by rw[length_take];omega);have hp2:(f.ow.take m).countP (λp=>!decide (p.k=3))<=24:=zq3 countP_le_length (by rw[length_take];omega);obtain⟨p,hp⟩:∃p,p=f.ow.getD m au:=⟨_,rfl⟩;rw[<-hp]at y0 y1 y2 JM r7;obtain⟨np,hnp⟩:∃np,np=(f.ow.take m).countP (λp=>decide (p.k=3)):=⟨_,rfl⟩;obtain⟨nl,fU⟩:∃nl,nl=(f.ow.take m).countP (λp=>!decide (p.k=3)):=⟨_,rfl⟩;rw[<-hnp]at hI JM hp1;rw[<-fU]at hI r7 hp2;obtain⟨W1,dI⟩:∃W1,W1=wr.alloc (.cells #[Value.int .i64 p.k,.int .i64 p.l,.int .i64 p.r] 182):=⟨_,rfl⟩;have bQ:Below wr.heap.size wr W1:=(by rw[dI];exact ah wr _);have iI:Bk W1 wr.heap.size 182 [Value.int .i64 p.k,.int .i64 p.l,.int .i64 p.r]:=(by rw[dI];exact Bk.new wr _ _);obtain⟨X,fS⟩:∃X,X=wr.heap.size:=⟨_,rfl⟩;rw[<-fS]at iI;have b0:=iI.cell 0 rfl;have De:=(uh hI).1.below bQ;have nz:=(uh hI).2.trans (bQ.mono (uh hI).2.size);have e11:=De.cell 11 (D4 (n:=0) (eJ f 5) (fF f 5)).2;have e12:=De.cell 12 (D3 (n:=0) (eJ f 5) (fF f 5)).2;have z11:=De.frz 11;have z12:=De.frz 12;have cq:w.heap.size<=D:=(by rw[uh HDe];exact zq4 _);have k1:(0:Int)<=(m:Int):=(by omega);have k2:(m:Int)<(f.ow.length:Int):=(by omega);by_cases BW:p.k=3
     .have d3:((p.k:Int)==3)=true:=(by simp[BW]);rw[if_pos BW]at JM r7;have hs:=De.set 11 (.int .i64 ((np+1:Nat):Int));rw[(D4 (eJ f 5) (fF f 5)).1]at hs;rw[show((np+1:Nat):Int)=(np:Int)+1 by omega]at hs;have HN:Hid (Bk (W1.setCell ⟨D,11,none⟩ (.int .i64 ((np:Int)+1))) D 260 (qC A (xd f 5) (wV f 5) ((f.ow.take (m+1)).countP (λp=>decide (p.k=3))) ((f.ow.take (m+1)).countP (λp=>!decide (p.k=3))))/\Below w.heap.size w (W1.setCell ⟨D,11,none⟩ (.int .i64 ((np:Int)+1)))):=ab ⟨by rw[JM,r7];exact hs,nz.setCell (p:=⟨D,11,none⟩) cq _⟩;clear hF hI JM r7 hp hnp fU bQ iI De nz hs cq BW;go_upto_region 16 with fail;rw[<-dI,<-fS];clear dI fS;go_wp2_with fail
      go_roundg (G2-1)
      case rel=>exact⟨m+1,by omega,by go_num,HN⟩
      case measure=>omega
     .have d3:((p.k:Int)==3)=false:=(by simp;omega);rw[if_neg BW]at JM r7;have hs:=De.set 12 (.int .i64 ((nl+1:Nat):Int));rw[(D3 (eJ f 5) (fF f 5)).1]at hs;rw[show((nl+1:Nat):Int)=(nl:Int)+1 by omega]at hs;have HN:Hid (Bk (W1.setCell ⟨D,12,none⟩ (.int .i64 ((nl:Int)+1))) D 260 (qC A (xd f 5) (wV f 5) ((f.ow.take (m+1)).countP (λp=>decide (p.k=3))) ((f.ow.take (m+1)).countP (λp=>!decide (p.k=3))))/\Below w.heap.size w (W1.setCell ⟨D,12,none⟩ (.int .i64 ((nl:Int)+1)))):=ab ⟨by rw[JM,r7];exact hs,nz.setCell (p:=⟨D,12,none⟩) cq _⟩;clear hF hI JM r7 hp hnp fU bQ iI De nz hs cq BW;go_upto_region 16 with fail;rw[<-dI,<-fS];clear dI fS;go_wp2_with fail
      go_roundg (G2-1)
      case rel=>exact⟨m+1,by omega,by go_num,HN⟩
      case measure=>omega
    .have jb:decide ((m:Int)<(f.ow.length:Int))=false:=(by simp;omega);have Ow:f.ow.take m=f.ow:=take_of_length_le (by omega);rw[Ow]at hI;have HN:=ab (zq2 (uh hI).1 hF);clear hF Ow;go_wp2_with fail
     go_ret;exact⟨D,rfl,⟨(uh HN).1,(uh HN).2⟩,by rw[uh HDe];exact zq4 _,(uh hI).2⟩
end
theorem PC{f:CF}(h:am f):PB f<=24:=zq3 countP_le_length h.owLen
theorem ON{f:CF}(h:am f):TX f<=24:=zq3 countP_le_length h.owLen
section
variable {w:World} {D A D' A':Nat} {s t:CF} {av ov av' ov':Value}
theorem qh.pt(h:qh w D A s av ov):w.cell? ⟨D,11,none⟩=some (.int .i64 (PB s:Nat)):=h.bk.cell 11 (D4 (n:=0) (eJ s 5) (fF s 5)).2
theorem qh.li(h:qh w D A s av ov):w.cell? ⟨D,12,none⟩=some (.int .i64 (TX s:Nat)):=h.bk.cell 12 (D3 (n:=0) (eJ s 5) (fF s 5)).2
theorem ad5(f:CF){i:Nat}(hi:i<5):(xd f 5).getD i 0=Bo f i/\(wV f 5).getD i 0=Am f i:=by
 have:i=0\/i=1\/i=2\/i=3\/i=4:=by omega
 rcases this with rfl|rfl|rfl|rfl|rfl <;> exact⟨rfl,rfl⟩
theorem qh.eq(h:qh w D A s av ov){i:Nat}(hi:i<5):w.cell? ⟨D,1+i,none⟩=some (.int .i64 (Bo s i:Nat)):=by
 have:=h.bk.cell (1+i) (yz (eJ s 5) (fF s 5) hi).1;rwa [(ad5 s hi).1]at this
theorem qh.bg(h:qh w D A s av ov){i:Nat}(hi:i<5):w.cell? ⟨D,6+i,none⟩=some (.int .i64 (Am s i:Nat)):=by
 have:=h.bk.cell (6+i) (yz (eJ s 5) (fF s 5) hi).2;rwa [(ad5 s hi).2]at this
theorem qh.fo(h:qh w D A s av ov):w.cell? ⟨D,0,none⟩=some (.pointer (some ⟨A,0,none⟩)):=h.bk.cell 0 rfl
theorem qh.of_eq{w':World}(h:qh w D A s av ov)(he:∀k∈D::aD A av ov,w'.heap[k]?=w.heap[k]?):qh w' D A s av ov:=⟨h.bk.of_eq (he D (by simp)),h.ff.of_eq (λk hk=>he k (mem_cons_of_mem _ hk))⟩
theorem qh.lt(h:qh w D A s av ov):∀k∈D::aD A av ov,k<w.heap.size:=λk hk=>by
 rcases mem_cons.1 hk with rfl|hk
 .exact h.bk.lt
 .exact h.ff.lt k hk
theorem qh.below{w':World}(h:qh w D A s av ov)(hb:Below w.heap.size w w'):qh w' D A s av ov:=h.of_eq (λk hk=>hb.block k (h.lt k hk))
theorem BK(h:qh w D A s av ov)(h':qh w D' A' t av' ov')(hO:am s)(hO':am t):Calls prog 252 #[.pointer (some ⟨D,0,none⟩),.pointer (some ⟨D',0,none⟩)] w λe w'=>e=.returned (.bool (roB s t))/\∃n,w'=w.drewN n:=by
 have x1:=h.pt;have x2:=h.li;have y1:=h'.pt;have y2:=h'.li;have l1:=PC hO;have l2:=ON hO;have l3:=PC hO';have l4:=ON hO';obtain⟨R,hR⟩:∃R,R=roB s t:=⟨_,rfl⟩;rw[<-hR];unfold roB at hR;obtain⟨a,ha⟩:∃a,a=PB s:=⟨_,rfl⟩;obtain⟨b,hb⟩:∃b,b=TX s:=⟨_,rfl⟩;obtain⟨c,hc⟩:∃c,c=PB t:=⟨_,rfl⟩;obtain⟨d,hd⟩:∃d,d=TX t:=⟨_,rfl⟩;rw[<-ha]at x1 l1 hR;rw[<-hb]at x2 l2 hR;rw[<-hc]at y1 l3 hR;rw[<-hd]at y2 l4 hR;have q1:IntKind.i64.wrap ((c:Int)+(d:Int))=(c:Int)+(d:Int):=by rw[IntKind.wrap_i64];omega
 have q2:IntKind.i64.wrap ((a:Int)+(b:Int))=(a:Int)+(b:Int):=by rw[IntKind.wrap_i64];omega
 have HR:=ab hR;clear h h' hO hO' ha hb hc hd hR;by_cases c1:a<c
 .have d1:decide ((a:Int)<(c:Int))=true:=by simp;omega
  have n1:decide (a<c)=true:=by simpa using c1
  have HE:Hid (R=false):=ab (by rw[uh HR];simp[c1]);clear c1;go_enter func252,ntmps252;go_upto_region 1 with fail;go_quiet (fail)
  go_wp2_with fail
  go_ret;exact⟨aB (uh HE).symm,_,rfl⟩
 .have d1:decide ((a:Int)<(c:Int))=false:=by simp;omega
  have n1:decide (a<c)=false:=by simpa using c1
  by_cases c2:a+b<c+d
  .have d2:decide ((a:Int)+(b:Int)<(c:Int)+(d:Int))=true:=(by simp;omega);have n2:decide (a+b<c+d)=true:=(by simpa using c2);have HE:Hid (R=false):=ab (by rw[uh HR];simp[c2]);clear c1 c2;go_enter func252,ntmps252;go_upto_region 1 with fail;go_quiet (fail)
   go_wp2_with fail
   go_ret;exact⟨aB (uh HE).symm,_,rfl⟩
  .have d2:decide ((a:Int)+(b:Int)<(c:Int)+(d:Int))=false:=(by simp;omega);have n2:decide (a+b<c+d)=false:=(by simpa using c2);have Ah:Hid (R=(decide (0<d)||(decide (b=0)&&decide (a=c)))):=ab (by rw[uh HR];simp[c1,c2]);clear c1 c2;by_cases c3:0<d
   .have d3:decide ((0:Int)<(d:Int))=true:=(by simp;omega);have n3:decide (0<d)=true:=(by simpa using c3);have HE:Hid (R=true):=ab (by rw[uh Ah];simp[c3]);clear c3;go_enter func252,ntmps252;go_upto_region 1 with fail;go_quiet (fail)
    go_wp2_with fail
    go_quiet (fail)
    go_wp2_with fail
    go_ret;exact⟨aB (uh HE).symm,_,drewN_drewN _ _ _⟩
   .have d3:decide ((0:Int)<(d:Int))=false:=(by simp;omega);have n3:decide (0<d)=false:=(by simpa using c3);by_cases c4:b=0
    .have d4:((b:Int)==0)=true:=(by simp[c4]);have HE:Hid (R=((a:Int)==(c:Int))):=ab (by rw[uh Ah,bi];simp[c3,c4]);clear c3 c4;cases d5:((a:Int)==(c:Int))
     all_goals
      rw[d5]at HE;go_enter func252,ntmps252;go_upto_region 1 with fail;go_quiet (fail)
      go_wp2_with fail
      go_quiet (fail)
      go_wp2_with fail
      go_ret;exact⟨aB (uh HE).symm,_,drewN_drewN _ _ _⟩
    .have d4:((b:Int)==0)=false:=(by simp;omega);have HE:Hid (R=false):=ab (by rw[uh Ah];simp[c3,c4]);clear c3 c4;go_enter func252,ntmps252;go_upto_region 1 with fail;go_quiet (fail)
     go_wp2_with fail
     go_quiet (fail)
     go_wp2_with fail
     go_ret;exact⟨aB (uh HE).symm,_,drewN_drewN _ _ _⟩
theorem Hk{s t:CF}:Rf s t=true↔∀i,i<5->Hj s t i=true:=by
 unfold Rf;simp only[Bool.and_eq_true];constructor
 .rintro⟨⟨⟨⟨a,b⟩,c⟩,d⟩,e⟩ i hi;have:i=0\/i=1\/i=2\/i=3\/i=4:=by omega
  rcases this with rfl|rfl|rfl|rfl|rfl <;> assumption
 .intro h;exact⟨⟨⟨⟨h 0 (by omega),h 1 (by omega)⟩,h 2 (by omega)⟩,h 3 (by omega)⟩,h 4 (by omega)⟩
theorem aaf{s t:CF}{i:Nat}(hi:i<5)(h:Hj s t i=false):Rf s t=false:=by
 cases hb:Rf s t with
 |false=>rfl
 |true=>have:=Hk.1 hb i hi;rw[h]at this;cases this
theorem wu(h:qh w D A s av ov)(h':qh w D' A' t av' ov'):Calls prog 253 #[.pointer (some ⟨D,0,none⟩),.pointer (some ⟨D',0,none⟩)] w λe w'=>e=.returned (.bool (Rf s t))/\∃n,w'=w.drewN n:=by
 obtain⟨R,hR⟩:∃R,R=Rf s t:=⟨_,rfl⟩;rw[<-hR];have HR:=ab hR;have H:=ab h;have H':=ab h';have bX:Hid ((∃n,w=w.drewN n)/\∀i,i<0->Hj s t i=true):=ab ⟨⟨0,rfl⟩,λi hi=>by omega⟩;clear h h' hR;go_enter func253,ntmps253;go_wp2_with fail
 go_loopw [5] (λiv wx=>∃(k:Nat),k<=5/\iv=.int .i64 k/\Hid ((∃n,wx=w.drewN n)/\∀i,i<k->Hj s t i=true)) (λiv _=>5-(intOf iv).toNat)
 case atStart=>exact⟨0,zq5 _,rfl,bX⟩
 case round =>
  clear bX;obtain⟨k,hk,rfl,hI⟩:=hrel;obtain⟨n0,oq⟩:=(uh hI).1;subst oq;by_cases aq:k<5
  .have hd:decide ((k:Int)<(5:Int))=true:=(by simp;omega);have x1:=(uh H).eq aq;have y1:=(uh H').eq aq;have x2:=(uh H).bg aq;have y2:=(uh H').bg aq;have mY:=Yl t aq;have x3:=(uh H).eq mY;have vD:Hj s t k=(decide (Bo s (Bo t k)=Bo s k)&&!(decide (Am t k=3)&&!decide (Am s k=3))&&!(decide (Am t k=4)&&decide (Am s k=0))):=rfl;obtain⟨a,ha⟩:∃a,a=Bo s k:=⟨_,rfl⟩;obtain⟨b,hb⟩:∃b,b=Bo t k:=⟨_,rfl⟩;obtain⟨c,hc⟩:∃c,c=Am s k:=⟨_,rfl⟩;obtain⟨d,Wp⟩:∃d,d=Am t k:=⟨_,rfl⟩;rw[<-hb]at y1 mY x3 vD;obtain⟨e,he⟩:∃e,e=Bo s b:=⟨_,rfl⟩;rw[<-ha]at x1 vD;rw[<-hc]at x2 vD;rw[<-Wp]at y2 vD;rw[<-he]at x3 vD;have HL:=ab vD;have HNo:Hid (Hj s t k=false->R=false):=ab (λh=>by rw[uh HR];exact aaf aq h);have i1:(0:Int)<=(k:Int):=(by omega);have i2:(k:Int)<5:=(by omega);have i3:(0:Int)<=(b:Int):=(by omega);have i4:(b:Int)<5:=(by omega);clear vD ha hb hc Wp he;by_cases q1:e=a
   .have d1:((e:Int) != (a:Int))=false:=(by simp[q1]);by_cases q2:d=3
    .have d2:((d:Int)==3)=true:=(by simp[q2]);have d4:((d:Int)==4)=false:=(by simp[q2]);by_cases q3:c=3
     .have d3:((c:Int) != 3)=false:=(by simp[q3]);have HY:Hid (Hj s t k=true):=ab (by rw[uh HL];simp[q1,q2,q3]);clear q1 q2 q3;go_wp2_with fail
      go_quiet (fail)
      go_wp2_with fail
      go_roundw
      case rel=>exact⟨k+1,by omega,by go_num,ab ⟨⟨_,rfl⟩,λi hi=>by
       by_cases e:i=k
       .rw[e];exact uh HY
       .exact(uh hI).2 i (by omega)⟩⟩
      case measure=>simp[intOf];omega
     .have d3:((c:Int) != 3)=true:=(by rw[bne_iff_ne];omega);have HE:Hid (R=false):=ab (uh HNo (by rw[uh HL];simp[q1,q2,q3]));clear q1 q2 q3;go_wp2_with fail
      go_quiet (fail)
      go_wp2_with fail
      go_ret;exact⟨aB (uh HE).symm,_,rfl⟩
    .have d2:((d:Int)==3)=false:=(by simp;omega);by_cases q4:d=4
     .have d4:((d:Int)==4)=true:=(by simp[q4]);by_cases q5:c=0
      .have d5:((c:Int)==0)=true:=(by simp[q5]);have HE:Hid (R=false):=ab (uh HNo (by rw[uh HL];simp[q1,q4,q5]));clear q1 q2 q4 q5;go_wp2_with fail
       go_quiet (fail)
       go_wp2_with fail
       go_ret;exact⟨aB (uh HE).symm,_,rfl⟩
      .have d5:((c:Int)==0)=false:=(by simp;omega);have HY:Hid (Hj s t k=true):=ab (by rw[uh HL];simp[q1,q4,q5]);clear q1 q2 q4 q5;go_wp2_with fail
       go_quiet (fail)
       go_wp2_with fail
       go_roundw
       case rel=>exact⟨k+1,by omega,by go_num,ab ⟨⟨_,rfl⟩,λi hi=>by
        by_cases e:i=k
        .rw[e];exact uh HY
        .exact(uh hI).2 i (by omega)⟩⟩
       case measure=>simp[intOf];omega
     .have d4:((d:Int)==4)=false:=(by simp;omega);have HY:Hid (Hj s t k=true):=ab (by rw[uh HL];simp[q1,q2,q4]);clear q1 q2 q4;go_wp2_with fail
      go_quiet (fail)
      go_wp2_with fail
      go_roundw
      case rel=>exact⟨k+1,by omega,by go_num,ab ⟨⟨_,rfl⟩,λi hi=>by
       by_cases e:i=k
       .rw[e];exact uh HY
       .exact(uh hI).2 i (by omega)⟩⟩
      case measure=>simp[intOf];omega
   .have d1:((e:Int) != (a:Int))=true:=(by rw[bne_iff_ne];omega);have HE:Hid (R=false):=ab (uh HNo (by rw[uh HL];simp[q1]));clear q1;go_wp2_with fail
    go_quiet (fail)
    go_wp2_with fail
    go_ret;exact⟨aB (uh HE).symm,_,drewN_drewN _ _ _⟩
  .have hd:decide ((k:Int)<(5:Int))=false:=(by simp;omega);have HE:Hid (R=true):=ab (by rw[uh HR];exact Hk.2 (λi hi=>(uh hI).2 i (by omega)));go_wp2_with fail
   go_ret;exact⟨aB (uh HE).symm,_,rfl⟩
end
def Sn(w:World)(q f t:Nat)(st:Int)(anc rest:List Value):Prop :=
 Ob w 202 55 q ([Xf f,Xf t]++(anc++rest))/\anc.length=24/\∃(mid:List Value) (vv ov uv pv:Value),rest=mid++[vv,ov,uv,pv,.int .i64 st]/\mid.length=24
theorem UM{a b:Value}{anc rest:List Value}{j:Nat}(hj:j<anc.length)(u:Value):([a,b]++(anc++rest)).set (2+j) u=[a,b]++(anc.set j u++rest):=by
 rw[set_append_right _ _ (by simp),show 2+j - [a,b].length=j by simp,set_append_left _ _ hj]
theorem SW{a b:Value}{anc rest:List Value}{j:Nat}(hj:j<anc.length):([a,b]++(anc++rest))[2+j]?=anc[j]?:=by
 rw[getElem?_append_right (by simp),show 2+j - [a,b].length=j by simp,getElem?_append_left hj]
theorem Sn.set{w:World}{q f t:Nat}{st:Int}{anc rest:List Value}(h:Sn w q f t st anc rest){j:Nat}(hj:j<24)(u:Value):Sn (w.setCell ⟨q,2+j,none⟩ u) q f t st (anc.set j u) rest:=by
 obtain⟨h1,h2,h3⟩:=h;have:=h1.set (2+j) u;rw[UM (by omega)]at this;exact⟨this,by simpa using h2,h3⟩
theorem Sn.of_eq{w w':World}{q f t:Nat}{st:Int}{anc rest:List Value}(h:Sn w q f t st anc rest)(he:w'.heap[q]?=w.heap[q]?):Sn w' q f t st anc rest:=⟨h.1.of_eq he,h.2⟩
theorem Jd{anc:List Value}(h:anc.length=24)(ha:∀j,j<24->anc[j]?=some (.int .i64 (-1))):anc=a6 (replicate 24 none):=by
 apply ext_getElem?;intro j;by_cases hj:j<24
 .rw[ha j hj];unfold a6;rw[map_replicate,getElem?_replicate,if_pos hj];rfl
 .rw[getElem?_eq_none (by omega),getElem?_eq_none (by simp[a6];omega)]
theorem Bi{w:World}{q f t:Nat}{st:Int}{anc rest:List Value}{F T:CF}{fav fov tav tov:Value}(h:Sn w q f t st anc rest)(hF:dF w f F fav fov)(hT:dF w t T tav tov)(nf:∀k∈aD f fav fov,k≠q)(nt:∀k∈aD t tav tov,k≠q)(aeP:∀i,i<5->T.cl.getD i 0<24):
  Calls prog 116 #[.pointer (some ⟨q,0,none⟩)] w λe w'=>e=.returned (.bool (rC F T [0,1,2,3,4] (replicate 24 none)).isSome)/\(∀an,rC F T [0,1,2,3,4] (replicate 24 none)=some an->Sq w' q f t an st)/\ar [q] w [q] w':=by
 have HS:=ab h;have HF:=ab hF;have HT:=ab hT;have Lm:=ab nf;have Ry:=ab nt;have ajv:=ab aeP;clear h hF hT nf nt aeP;go_enter func116,ntmps116;go_wp2_with fail
 go_loopw [3] (λi wr=>∃(k:Nat) (an:List Value),k<=24/\i=.int .i64 k/\Hid (Sn wr q f t st an rest)/\Hid (∀j,j<k->an[j]?=some (.int .i64 (-1)))/\Hid (ar [q] w [q] wr)) (λi _=>24-(intOf i).toNat)
 case atStart=>exact⟨0,anc,zq5 _,rfl,HS,ab (λj hj=>by omega),ab (ar.refl _ _)⟩
 case round =>
  obtain⟨k,an,hk,rfl,bq,hm,aE⟩:=hrel;by_cases aq:k<24
  .have hd:decide ((k:Int)<24)=true:=(by simp;omega);obtain⟨⟨u,hu⟩,hz⟩:=(uh bq).1.some (j:=2+k) (by omega);have cH:=ab ((uh bq).set aq (.int .i64 (-1)));have DC:Hid (∀j,j<k+1->(an.set k (.int .i64 (-1)))[j]?=some (.int .i64 (-1))):=ab (by
    intro j hj;have hl:=(uh bq).2.1;by_cases e:k=j
    .subst e;rw[getElem?_set_self (by omega)]
    .rw[getElem?_set_ne e];exact uh hm j (by omega))
   have ku:=ab ((uh aE).setCell (p:=⟨q,2+k,none⟩) (zq0 (by simp)) (.int .i64 (-1)));go_wp2_with fail
   go_roundw
   case rel=>exact⟨k+1,_,by omega,by go_num,cH,DC,ku⟩
   case measure=>simp[intOf];omega
  .have hd:decide ((k:Int)<24)=false:=(by simp;omega);have NY:k=24:=(by omega);subst NY;have qf:Hid (Sn wr q f t st (a6 (replicate 24 none)) rest):=ab (by
    have:=Jd (uh bq).2.1 (uh hm);rw[<-this];exact uh bq)
   go_wp2_with fail
   go_loopg [4] 5 (λgn i wr=>∃(k:Nat) (an:List (Option Nat)),k+gn=5/\i=.int .i64 k/\Hid (Sn wr q f t st (a6 an) rest)/\Hid (rC F T ([0,1,2,3,4].drop k) an=rC F T [0,1,2,3,4] (replicate 24 none))/\Hid (ar [q] w [q] wr))
   case atStart=>exact⟨0,_,by omega,rfl,qf,ab rfl,aE⟩
   case round =>
    obtain⟨k,an,hk,rfl,bE,jm,wj⟩:=hrel;by_cases bI:k<5
    .have jb:decide ((k:Int)<5)=true:=(by simp;omega);have fq:=λb hb aJ=>(uh wj).block b hb (show b ∉ [q] by simpa using aJ);have Tc:=(uh HF).of_eq (λb hb=>fq b ((uh HF).lt b hb) (uh Lm b hb));have hTr:=(uh HT).of_eq (λb hb=>fq b ((uh HT).lt b hb) (uh Ry b hb));have Rc:wr.cell? ⟨q,0,none⟩=some (.pointer (some ⟨f,0,none⟩)):=(by rw[ownsRow.cellAt (uh bE).1 0 (by omega)];rfl);have xF:wr.cell? ⟨q,1,none⟩=some (.pointer (some ⟨t,0,none⟩)):=(by rw[ownsRow.cellAt (uh bE).1 1 (by omega)];rfl);have hfc:=Tc.cls (i:=k) bI;have htc:=hTr.cls (i:=k) bI;unfold fH at hfc htc;have kI:=uh ajv k bI;obtain⟨c,hc⟩:∃c,c=T.cl.getD k 0:=⟨_,rfl⟩;obtain⟨fk,NJ⟩:∃fk,fk=F.cl.getD k 0:=⟨_,rfl⟩;rw[<-hc]at htc kI;rw[<-NJ]at hfc;have jC:an.length=24:=(by have:=(uh bE).2.1;rw[aK]at this;exact this);have KR:wr.cell? ⟨q,2+c,none⟩=some (.int .i64 (dp (an.getD c none))):=by
      rw[ownsRow.cellAt (uh bE).1 (2+c) (by omega),SW (by rw[aK];omega)];have:c<an.length:=(by omega);simp[a6,this]
     have hzc:=ownsRow.frozenAt (uh bE).1 (2+c);obtain⟨o,ho⟩:∃o,o=an.getD c none:=⟨_,rfl⟩;rw[<-ho]at KR;have el:rC F T ([0,1,2,3,4].drop k) an=if o≠none/\o≠some fk then none else rC F T ([0,1,2,3,4].drop (k+1)) (an.set c (some fk)):=by
      have Eu:k=0\/k=1\/k=2\/k=3\/k=4:=(by omega);have e:([0,1,2,3,4]:List Nat).drop k=k::([0,1,2,3,4]:List Nat).drop (k+1):=by
       rcases Eu with rfl|rfl|rfl|rfl|rfl <;> rfl
      rw[e,rC,<-hc,<-NJ,<-ho]
     rw[uh jm]at el;have jF:=mI o;have fV:=ab ((uh bE).set kI (.int .i64 (fk:Int)));have tD:Hid (Sn (wr.setCell ⟨q,2+c,none⟩ (.int .i64 (fk:Int))) q f t st (a6 (an.set c (some fk))) rest):=ab (by
      have:=uh fV;rw[show(a6 an).set c (.int .i64 (fk:Int))=a6 (an.set c (some fk)) by simp[a6,map_set,dp]]at this;exact this)
     have qg:=ab ((uh wj).setCell (p:=⟨q,2+c,none⟩) (zq0 (by simp)) (.int .i64 (fk:Int)));have wI:=ab el;clear el hc NJ ho Tc hTr fq fV qf;by_cases je:o≠none/\o≠some fk
     .have qu:Hid (rC F T [0,1,2,3,4] (replicate 24 none)=none):=ab (by rw[uh wI,if_pos je]);cases o with
      |none=>exact absurd rfl je.1
      |some b0 =>
       rw[show dp (some b0)=(b0:Int) from rfl]at KR jF;rw[show(some b0).isSome=true from rfl]at jF;have qQ:((b0:Int) != (fk:Int))=true:=by
        rw[bne_iff_ne];intro e;exact je.2 (by rw[show b0=fk by omega])
       clear je;go_wp2_with fail
       go_quiet (fail)
       go_wp2_with fail
       go_ret;refine⟨by rw[uh qu];rfl,λan' h=>?_,(uh wj).drewN _⟩;rw[uh qu]at h;cases h
     .have XG:Hid (rC F T ([0,1,2,3,4].drop (k+1)) (an.set c (some fk))=rC F T [0,1,2,3,4] (replicate 24 none)):=ab (by rw[uh wI,if_neg je]);cases o with
      |none =>
       rw[show dp none=(-1:Int) from rfl]at KR;clear je jF;go_wp2_with fail
       go_quiet (fail)
       go_wp2_with fail
       go_region
       go_wp2_with fail
       go_roundg (gk-1)
       case rel=>exact⟨k+1,_,by omega,by go_num,ab ((uh tD).of_eq rfl),XG,ab ⟨(uh qg).os,(uh qg).tape,(uh qg).output,(uh qg).size,(uh qg).block,(uh qg).foot⟩⟩
       case measure=>omega
      |some b0 =>
       have ua:b0=fk:=Classical.byContradiction (λh=>je ⟨by simp,by simpa using h⟩);rw[show dp (some b0)=(b0:Int) from rfl]at KR jF;rw[show(some b0).isSome=true from rfl]at jF;have qQ:((b0:Int) != (fk:Int))=false:=(by rw[ua];simp);clear je ua;go_wp2_with fail
       go_quiet (fail)
       go_wp2_with fail
       go_region
       go_wp2_with fail
       go_roundg (gk-1)
       case rel=>exact⟨k+1,_,by omega,by go_num,ab ((uh tD).of_eq rfl),XG,ab ⟨(uh qg).os,(uh qg).tape,(uh qg).output,(uh qg).size,(uh qg).block,(uh qg).foot⟩⟩
       case measure=>omega
    .have jb:decide ((k:Int)<5)=false:=(by simp;omega);have Eu:k=5:=(by omega);subst Eu;have qu:Hid (rC F T [0,1,2,3,4] (replicate 24 none)=some an):=ab ((uh jm).symm);clear qf;go_wp2_with fail
     go_ret;refine⟨by rw[uh qu];rfl,λan' h=>?_,uh wj⟩;rw[uh qu]at h;cases h
     obtain⟨h1,h2,mid,vv,ov,uv,pv,h3,h4⟩:=uh bE;refine⟨mid,vv,ov,uv,pv,?_,h4,by rw[aK]at h2;exact h2⟩;rw[h3]at h1;exact h1
