import Derived.Test.YtciihepbeacppaaGreatM18
set_option maxRecDepth 100000
set_option maxHeartbeats 0
namespace Go.Proofs.YtciihepbeacppaaGreat
open Tryz Go.RowKit List World Below
set_option linter.unusedVariables false
def LY(f:CF)(i k:Nat):Nat:=((List.range' k (i+1-k)).find? (λj=>f.cl.getD j 0==f.cl.getD i 0)).getD 0
theorem LZ{f:CF}{i k:Nat}(hk:k<=i):LY f i k=if f.cl.getD k 0=f.cl.getD i 0 then k else LY f i (k+1):=by
 unfold LY;rw[show i+1-k=(i+1-(k+1))+1 by omega,range'_succ,find?_cons];by_cases h:f.cl.getD k 0=f.cl.getD i 0
 .rw[if_pos h];simp only[beq_iff_eq.2 h];rfl
 .rw[if_neg h];have:(f.cl.getD k 0==f.cl.getD i 0)=false:=by simpa using h
  rw[this]
theorem L1(f:CF)(i:Nat):LY f i 0=AO f i:=by unfold LY AO;rw[Nat.sub_zero,range_eq_range']
theorem Ry(f:CF)(i:Nat):LY f i (i+1)=0:=by unfold LY;simp
theorem XE(f:CF){i:Nat}(hi:i<5):AO f i<5:=by
 unfold AO;cases h:(range (i+1)).find? (λk=>f.cl.getD k 0==f.cl.getD i 0) with
 |none=>decide
 |some j =>
  have:=mem_of_find?_eq_some h;rw[mem_range]at this;simp only[Option.getD_some];omega
def pU(l:List Nat):List Value:=l.map (λn=>Value.int .i64 (n:Nat))
def pF(A:Nat)(es bs:List Nat)(pt li:Nat):List Value:=Wi A::(pU es++(pU bs++[.int .i64 (pt:Nat),.int .i64 (li:Nat)]))
def wy(f:CF)(k:Nat):List Nat:=(range 5).map (λj=>if j<k then AO f j else 0)
def wt(f:CF)(k:Nat):List Nat:=(range 5).map (λj=>if j<k then zN f j else 0)
theorem eE(f:CF)(k:Nat):(wy f k).length=5:=by simp[wy]
theorem eX(f:CF)(k:Nat):(wt f k).length=5:=by simp[wt]
theorem RC(f:CF){k:Nat}(hk:k<5):(wy f k).set k (AO f k)=wy f (k+1):=by
 have:k=0\/k=1\/k=2\/k=3\/k=4:=by omega
 rcases this with rfl|rfl|rfl|rfl|rfl <;> rfl
theorem Q9(f:CF){k:Nat}(hk:k<5):(wt f k).set k (zN f k)=wt f (k+1):=by
 have:k=0\/k=1\/k=2\/k=3\/k=4:=by omega
 rcases this with rfl|rfl|rfl|rfl|rfl <;> rfl
theorem RA(f:CF){k:Nat}(hk:k<5):(wy f k).set k 0=wy f k:=by
 have:k=0\/k=1\/k=2\/k=3\/k=4:=by omega
 rcases this with rfl|rfl|rfl|rfl|rfl <;> rfl
theorem Q8(f:CF){k:Nat}(hk:k<5):(wt f k).set k 0=wt f k:=by
 have:k=0\/k=1\/k=2\/k=3\/k=4:=by omega
 rcases this with rfl|rfl|rfl|rfl|rfl <;> rfl
theorem acw{A i n:Nat}{es bs:List Nat}{pt li:Nat}(he:es.length=5)(hi:i<5):(pF A es bs pt li).set (1+i) (.int .i64 (n:Nat))=pF A (es.set i n) bs pt li:=by
 unfold pF pU;rw[Nat.add_comm,set_cons_succ,set_append_left _ _ (by simpa using by omega),map_set]
theorem acv{A i n:Nat}{es bs:List Nat}{pt li:Nat}(he:es.length=5)(hb:bs.length=5)(hi:i<5):(pF A es bs pt li).set (6+i) (.int .i64 (n:Nat))=pF A es (bs.set i n) pt li:=by
 unfold pF pU;rw[show 6+i=(5+i)+1 by omega,set_cons_succ,set_append_right _ _ (by simp;omega),set_append_left _ _ (by simp;omega),map_set];simp[he]
theorem Dx{A n:Nat}{es bs:List Nat}{pt li:Nat}(he:es.length=5)(hb:bs.length=5):(pF A es bs pt li).set 11 (.int .i64 (n:Nat))=pF A es bs n li/\(pF A es bs pt li)[11]?=some (.int .i64 (pt:Nat)):=by
 match es,he,bs,hb with
 |[a,b,c,d,e],_,[a',b',c',d',e'],_=>exact⟨rfl,rfl⟩
theorem Dw{A n:Nat}{es bs:List Nat}{pt li:Nat}(he:es.length=5)(hb:bs.length=5):(pF A es bs pt li).set 12 (.int .i64 (n:Nat))=pF A es bs pt n/\(pF A es bs pt li)[12]?=some (.int .i64 (li:Nat)):=by
 match es,he,bs,hb with
 |[a,b,c,d,e],_,[a',b',c',d',e'],_=>exact⟨rfl,rfl⟩
theorem ye{A i:Nat}{es bs:List Nat}{pt li:Nat}(he:es.length=5)(hb:bs.length=5)(hi:i<5):(pF A es bs pt li)[1+i]?=some (.int .i64 ((es.getD i 0:Nat):Int))/\(pF A es bs pt li)[6+i]?=some (.int .i64 ((bs.getD i 0:Nat):Int)):=by
 match es,he,bs,hb with
 |[a,b,c,d,e],_,[a',b',c',d',e'],_ =>
  have:i=0\/i=1\/i=2\/i=3\/i=4:=by omega
  rcases this with rfl|rfl|rfl|rfl|rfl <;> exact⟨rfl,rfl⟩
structure oY(w:World)(D A:Nat)(f:CF)(av ov:Value):Prop where
 bk:Bk w D 260 (pF A (wy f 5) (wt f 5) (OI f) (Tk f))
 ff:dm w A f av ov
section
variable {w:World} {A:Nat} {f:CF} {av ov:Value}
theorem LJ(h:dm w A f av ov)(hO:au f):Calls prog 229 #[.pointer (some ⟨A,0,none⟩)] w λe w'=>∃D,e=.returned (.pointer (some ⟨D,0,none⟩))/\oY w' D A f av ov/\w.heap.size<=D/\Below w.heap.size w w':=by
 have f8:=hO.owLen;obtain⟨W1,dF⟩:∃W1,W1=w.alloc (.cells #[Wi A,.int .i64 0,.int .i64 0,.int .i64 0,.int .i64 0,.int .i64 0,.int .i64 0,.int .i64 0,.int .i64 0,.int .i64 0,.int .i64 0,.int .i64 0,.int .i64 0] 260):=⟨_,rfl⟩;have aO:Below w.heap.size w W1:=by rw[dF];exact af w _
 have hD:Bk W1 w.heap.size 260 (pF A (wy f 0) (wt f 0) 0 0):=by rw[dF];exact Bk.new w _ _
 obtain⟨D,hDe⟩:∃D,D=w.heap.size:=⟨_,rfl⟩;rw[<-hDe]at hD;have bR:=ab (zq2 hD aO);have H:=ab h;have HO:=ab hO;have HDe:=ab hDe;have zR:∀k∈aG A av ov,k≠D:=λk hk=>by have:=h.lt k hk;omega
 have HAl:=ab zR;clear h hO hD aO zR;unfold Wi at dF;go_enter func229,ntmps229;go_upto_region 2 with fail;rw[<-dF,<-hDe];clear dF hDe;go_wp2_with fail
 go_loopg [4] 5 (λgn iv wx=>∃(k:Nat),k+gn=5/\iv=.int .i64 k/\Hid (Bk wx D 260 (pF A (wy f k) (wt f k) 0 0)/\Below w.heap.size w wx))
 case atStart=>exact⟨0,by omega,rfl,bR⟩
 case round =>
  clear bR;obtain⟨k,fC,rfl,hI⟩:=hrel;obtain⟨G,hG⟩:∃G,G=gk:=⟨_,rfl⟩;by_cases ar:k<5
  .have hd:decide ((k:Int)<(5:Int))=true:=(by simp;omega);have mi:Hid (Bk wr D 260 (pF A ((wy f k).set k (LY f k (k+1))) (wt f k) 0 0)/\Below w.heap.size w wr):=ab ⟨by rw[Ry,RA f ar];exact(uh hI).1,(uh hI).2⟩;have i1:(0:Int)<=(k:Int):=(by omega);have i2:(k:Int)<(5:Int):=(by omega);clear hI;go_wp2_with fail
   go_loopg [5] (k+1) (λgn jv wx=>∃(z:Int),z+1=(gn:Int)/\gn<=k+1/\jv=.int .i64 z/\Hid (Bk wx D 260 (pF A ((wy f k).set k (LY f k gn)) (wt f k) 0 0)/\Below w.heap.size w wx))
   case atStart=>exact⟨(k:Int),by omega,zq4 _,rfl,mi⟩
   case round =>
    clear mi;obtain⟨z,hz,Kl,rfl,hJ⟩:=hrel;have hF:=(uh H).below (uh hJ).2;cases gk with
    |zero =>
     have du:z=-1:=(by omega);subst du;have hE:=(uh hJ).1;rw[L1,RC f ar]at hE;have MU:=Q8 f ar;have xk:=hF.cls (i:=k) (by omega);unfold eR at xk;have po:zN f k=match dJ f.ow (f.cl.getD k 0) with|some j=>(owA f j).k|none=>0:=rfl
     obtain⟨ck,Kh⟩:∃c,c=f.cl.getD k 0:=⟨_,rfl⟩;rw[<-Kh]at xk po;have kK:=ab (cj ck hF);have hg:=pX (dJ f.ow ck);have fB:=hE;have cf:=Q9 f ar;have bZ:w.heap.size<=D:=(by rw[uh HDe];exact zq4 _);have d0:decide ((0:Int)<=-1)=false:=(by decide);cases hb:dJ f.ow ck with
     |none =>
      rw[hb]at kK hg po;have qP:zN f k=0:=po;rw[qP,MU]at cf;have HN:Hid (Bk wr D 260 (pF A (wy f (k+1)) (wt f (k+1)) 0 0)/\Below w.heap.size w wr):=ab ⟨by rw[<-cf];exact hE,(uh hJ).2⟩;clear hF hE MU po Kh fB cf bZ hb qP hJ;go_wp2_with fail
      refine(uh kK).mono ?_;rintro e w3 ⟨rfl,rfl⟩;go_wp2_with fail
      go_roundg (G-1)
      case rel=>exact⟨k+1,by omega,by go_num,HN⟩
      case measure=>omega
     |some j =>
      rw[hb]at kK hg po;have qP:zN f k=(owA f j).k:=po;obtain⟨eh,-⟩:=eW hb;have c6:=hF.c6;obtain⟨oa,oc,dB,-,-⟩:=ah hF.ow;subst dB;obtain⟨go,gc,iP,-,-⟩:=aC hF.ow eh;simp only[Value.slice.injEq,true_and]at iP;obtain⟨rfl,rfl⟩:=iP;obtain⟨y0,-,-⟩:=aA hF.ow eh;obtain⟨kd,SE⟩:∃kd,kd=(f.ow.getD j az).k:=⟨_,rfl⟩;rw[<-SE]at y0;have ads:zN f k=kd:=(by rw[qP,SE];rfl);rw[ads]at cf;have ce:=hE.set (6+k) (.int .i64 (kd:Nat));rw[acv (eE f (k+1)) (eX f k) ar,cf]at ce;have y:=hE.cell (6+k) (ye (eE f (k+1)) (eX f k) ar).2;have zf:=hE.frz (6+k);have HN:Hid (Bk (wr.setCell ⟨D,6+k,none⟩ (.int .i64 (kd:Int))) D 260 (pF A (wy f (k+1)) (wt f (k+1)) 0 0)/\Below w.heap.size w (wr.setCell ⟨D,6+k,none⟩ (.int .i64 (kd:Int)))):=ab ⟨ce,(uh hJ).2.setCell (p:=⟨D,6+k,none⟩) bZ _⟩;rw[show eH (some j)=(j:Int) from rfl]at kK hg;have k1:(0:Int)<=(j:Int):=(by omega);have k2:(j:Int)<(f.ow.length:Int):=(by omega);clear hF hE MU po Kh fB cf bZ hb qP ads SE ce hJ;go_wp2_with fail
      refine(uh kK).mono ?_;rintro e w3 ⟨rfl,rfl⟩;go_wp2_with fail
      go_region
      go_wp2_with fail
      go_roundg (G-1)
      case rel=>exact⟨k+1,by omega,by go_num,ab ⟨(uh HN).1.of_eq rfl,⟨(uh HN).2.os,(uh HN).2.tape,(uh HN).2.output,(uh HN).2.size,(uh HN).2.block⟩⟩⟩
      case measure=>omega
    |succ m =>
     have hzm:z=(m:Int):=(by omega);subst hzm;have d0:decide ((0:Int)<=(m:Int))=true:=(by simp);have xm:=hF.cls (i:=m) (by omega);have xk:=hF.cls (i:=k) (by omega);unfold eR at xm xk;have aE:=LZ (f:=f) (i:=k) (k:=m) (by omega);obtain⟨cm,iw⟩:∃c,c=f.cl.getD m 0:=⟨_,rfl⟩;obtain⟨ck,Kh⟩:∃c,c=f.cl.getD k 0:=⟨_,rfl⟩;rw[<-iw]at xm aE;rw[<-Kh]at xk aE;have k1:(0:Int)<=(m:Int):=(by omega);have k2:(m:Int)<5:=(by omega);have hq0:IntKind.i64.wrap ((m:Int)-1)=(m:Int)-1:=(by rw[IntKind.wrap_i64];omega);by_cases CT:cm=ck
     .have d1:((cm:Int)==(ck:Int))=true:=(by simp[CT]);rw[if_pos CT]at aE;have ax:=(uh hJ).1.set (1+k) (.int .i64 (m:Nat));rw[acw (by rw[length_set,eE]) ar,set_set]at ax;have y:=(uh hJ).1.cell (1+k) (ye (by rw[length_set,eE]) (eX f k) ar).1;have zf:=(uh hJ).1.frz (1+k);have bZ:w.heap.size<=D:=(by rw[uh HDe];exact zq4 _);have HN:Hid (Bk (wr.setCell ⟨D,1+k,none⟩ (.int .i64 (m:Int))) D 260 (pF A ((wy f k).set k (LY f k m)) (wt f k) 0 0)/\Below w.heap.size w (wr.setCell ⟨D,1+k,none⟩ (.int .i64 (m:Int)))):=ab ⟨by rw[aE];exact ax,(uh hJ).2.setCell (p:=⟨D,1+k,none⟩) bZ _⟩;clear hF aE iw Kh CT ax bZ hJ;go_wp2_with fail
      go_quiet (fail)
      go_wp2_with fail
      go_roundg m
      case rel=>exact⟨(m:Int)-1,by omega,by omega,by go_num,ab ⟨(uh HN).1.of_eq rfl,⟨(uh HN).2.os,(uh HN).2.tape,(uh HN).2.output,(uh HN).2.size,(uh HN).2.block⟩⟩⟩
      case measure=>omega
     .have d1:((cm:Int)==(ck:Int))=false:=(by simp;omega);rw[if_neg CT]at aE;have HN:Hid (Bk wr D 260 (pF A ((wy f k).set k (LY f k m)) (wt f k) 0 0)/\Below w.heap.size w wr):=ab ⟨by rw[aE];exact(uh hJ).1,(uh hJ).2⟩;clear hF aE iw Kh CT hJ;go_wp2_with fail
      go_quiet (fail)
      go_wp2_with fail
      go_roundg m
      case rel=>exact⟨(m:Int)-1,by omega,by omega,by go_num,ab ⟨(uh HN).1.of_eq rfl,⟨(uh HN).2.os,(uh HN).2.tape,(uh HN).2.output,(uh HN).2.size,(uh HN).2.block⟩⟩⟩
      case measure=>omega
  .have hd:decide ((k:Int)<(5:Int))=false:=(by simp;omega);have D8:k=5:=(by omega);subst D8;rw[show((5:Nat):Int)=(5:Int) from rfl];have hF:=(uh H).below (uh hI).2;have c6:=hF.c6;obtain⟨oa,oc,dB,-,-⟩:=ah hF.ow;subst dB;have HL0:Hid (Bk wr D 260 (pF A (wy f 5) (wt f 5) ((f.ow.take 0).countP (λp=>decide (p.k=3))) ((f.ow.take 0).countP (λp=>!decide (p.k=3))))/\Below w.heap.size w wr):=ab ⟨(uh hI).1,(uh hI).2⟩;clear hF hI;go_wp2_with fail
   go_loopg [68] f.ow.length (λgn iv wx=>∃(m:Nat),m+gn=f.ow.length/\iv=.int .i64 m/\Hid (Bk wx D 260 (pF A (wy f 5) (wt f 5) ((f.ow.take m).countP (λp=>decide (p.k=3))) ((f.ow.take m).countP (λp=>!decide (p.k=3))))/\Below w.heap.size w wx))
   case atStart=>exact⟨0,by omega,rfl,HL0⟩
   case round =>
    clear HL0 c6;obtain⟨m,YT,rfl,hI⟩:=hrel;obtain⟨G2,AY⟩:∃G2,G2=gk:=⟨_,rfl⟩;have hF:=(uh H).below (uh hI).2;by_cases dl:m<f.ow.length
    .have gx:decide ((m:Int)<(f.ow.length:Int))=true:=(by simp;omega);obtain⟨go,gc,iP,-,-⟩:=aC hF.ow dl;simp only[Value.slice.injEq,true_and]at iP;obtain⟨rfl,rfl⟩:=iP;obtain⟨y0,y1,y2⟩:=aA hF.ow dl;have I0:(f.ow.take (m+1)).countP (λp=>decide (p.k=3))=(f.ow.take m).countP (λp=>decide (p.k=3))+(if (f.ow.getD m az).k=3 then 1 else 0):=by
      rw[take_add_one,getElem?_eq_getElem dl,countP_append,dq dl];by_cases e:f.ow[m].k=3 <;> simp[e]
     have tf:(f.ow.take (m+1)).countP (λp=>!decide (p.k=3))=(f.ow.take m).countP (λp=>!decide (p.k=3))+(if (f.ow.getD m az).k=3 then 0 else 1):=by
      rw[take_add_one,getElem?_eq_getElem dl,countP_append,dq dl];by_cases e:f.ow[m].k=3 <;> simp[e]
     have hp1:(f.ow.take m).countP (λp=>decide (p.k=3))<=24:=zq3 countP_le_length (by rw[length_take];omega);have Bs:(f.ow.take m).countP (λp=>!decide (p.k=3))<=24:=zq3 countP_le_length (by rw[length_take];omega);obtain⟨p,hp⟩:∃p,p=f.ow.getD m az:=⟨_,rfl⟩;rw[<-hp]at y0 y1 y2 I0 tf;obtain⟨np,hnp⟩:∃np,np=(f.ow.take m).countP (λp=>decide (p.k=3)):=⟨_,rfl⟩;obtain⟨nl,gz⟩:∃nl,nl=(f.ow.take m).countP (λp=>!decide (p.k=3)):=⟨_,rfl⟩;rw[<-hnp]at hI I0 hp1;rw[<-gz]at hI tf Bs;obtain⟨W1,dF⟩:∃W1,W1=wr.alloc (.cells #[Value.int .i64 p.k,.int .i64 p.l,.int .i64 p.r] 182):=⟨_,rfl⟩;have aT:Below wr.heap.size wr W1:=(by rw[dF];exact af wr _);have ir:Bk W1 wr.heap.size 182 [Value.int .i64 p.k,.int .i64 p.l,.int .i64 p.r]:=(by rw[dF];exact Bk.new wr _ _);obtain⟨X,fy⟩:∃X,X=wr.heap.size:=⟨_,rfl⟩;rw[<-fy]at ir;have b0:=ir.cell 0 rfl;have Mv:=(uh hI).1.below aT;have nV:=(uh hI).2.trans (aT.mono (uh hI).2.size);have e11:=Mv.cell 11 (Dx (n:=0) (eE f 5) (eX f 5)).2;have e12:=Mv.cell 12 (Dw (n:=0) (eE f 5) (eX f 5)).2;have z11:=Mv.frz 11;have z12:=Mv.frz 12;have bZ:w.heap.size<=D:=(by rw[uh HDe];exact zq4 _);have k1:(0:Int)<=(m:Int):=(by omega);have k2:(m:Int)<(f.ow.length:Int):=(by omega);by_cases Bj:p.k=3
     .have d3:((p.k:Int)==3)=true:=(by simp[Bj]);rw[if_pos Bj]at I0 tf;have hs:=Mv.set 11 (.int .i64 ((np+1:Nat):Int));rw[(Dx (eE f 5) (eX f 5)).1]at hs;rw[show((np+1:Nat):Int)=(np:Int)+1 by omega]at hs;have HN:Hid (Bk (W1.setCell ⟨D,11,none⟩ (.int .i64 ((np:Int)+1))) D 260 (pF A (wy f 5) (wt f 5) ((f.ow.take (m+1)).countP (λp=>decide (p.k=3))) ((f.ow.take (m+1)).countP (λp=>!decide (p.k=3))))/\Below w.heap.size w (W1.setCell ⟨D,11,none⟩ (.int .i64 ((np:Int)+1)))):=ab ⟨by rw[I0,tf];exact hs,nV.setCell (p:=⟨D,11,none⟩) bZ _⟩;clear hF hI I0 tf hp hnp gz aT ir Mv nV hs bZ Bj;go_upto_region 16 with fail;rw[<-dF,<-fy];clear dF fy;go_wp2_with fail
      go_roundg (G2-1)
      case rel=>exact⟨m+1,by omega,by go_num,HN⟩
      case measure=>omega
     .have d3:((p.k:Int)==3)=false:=(by simp;omega);rw[if_neg Bj]at I0 tf;have hs:=Mv.set 12 (.int .i64 ((nl+1:Nat):Int));rw[(Dw (eE f 5) (eX f 5)).1]at hs;rw[show((nl+1:Nat):Int)=(nl:Int)+1 by omega]at hs;have HN:Hid (Bk (W1.setCell ⟨D,12,none⟩ (.int .i64 ((nl:Int)+1))) D 260 (pF A (wy f 5) (wt f 5) ((f.ow.take (m+1)).countP (λp=>decide (p.k=3))) ((f.ow.take (m+1)).countP (λp=>!decide (p.k=3))))/\Below w.heap.size w (W1.setCell ⟨D,12,none⟩ (.int .i64 ((nl:Int)+1)))):=ab ⟨by rw[I0,tf];exact hs,nV.setCell (p:=⟨D,12,none⟩) bZ _⟩;clear hF hI I0 tf hp hnp gz aT ir Mv nV hs bZ Bj;go_upto_region 16 with fail;rw[<-dF,<-fy];clear dF fy;go_wp2_with fail
      go_roundg (G2-1)
      case rel=>exact⟨m+1,by omega,by go_num,HN⟩
      case measure=>omega
    .have gx:decide ((m:Int)<(f.ow.length:Int))=false:=(by simp;omega);have V2:f.ow.take m=f.ow:=take_of_length_le (by omega);rw[V2]at hI;have HN:=ab (zq2 (uh hI).1 hF);clear hF V2;go_wp2_with fail
     go_ret;exact⟨D,rfl,⟨(uh HN).1,(uh HN).2⟩,by rw[uh HDe];exact zq4 _,(uh hI).2⟩
end
theorem OJ{f:CF}(h:au f):OI f<=24:=zq3 countP_le_length h.owLen
theorem NR{f:CF}(h:au f):Tk f<=24:=zq3 countP_le_length h.owLen
section
variable {w:World} {D A D' A':Nat} {s t:CF} {av ov av' ov':Value}
theorem oY.pt(h:oY w D A s av ov):w.cell? ⟨D,11,none⟩=some (.int .i64 (OI s:Nat)):=h.bk.cell 11 (Dx (n:=0) (eE s 5) (eX s 5)).2
theorem oY.li(h:oY w D A s av ov):w.cell? ⟨D,12,none⟩=some (.int .i64 (Tk s:Nat)):=h.bk.cell 12 (Dw (n:=0) (eE s 5) (eX s 5)).2
theorem acA(f:CF){i:Nat}(hi:i<5):(wy f 5).getD i 0=AO f i/\(wt f 5).getD i 0=zN f i:=by
 have:i=0\/i=1\/i=2\/i=3\/i=4:=by omega
 rcases this with rfl|rfl|rfl|rfl|rfl <;> exact⟨rfl,rfl⟩
theorem oY.eq(h:oY w D A s av ov){i:Nat}(hi:i<5):w.cell? ⟨D,1+i,none⟩=some (.int .i64 (AO s i:Nat)):=by
 have:=h.bk.cell (1+i) (ye (eE s 5) (eX s 5) hi).1;rwa [(acA s hi).1]at this
theorem oY.bg(h:oY w D A s av ov){i:Nat}(hi:i<5):w.cell? ⟨D,6+i,none⟩=some (.int .i64 (zN s i:Nat)):=by
 have:=h.bk.cell (6+i) (ye (eE s 5) (eX s 5) hi).2;rwa [(acA s hi).2]at this
theorem oY.fo(h:oY w D A s av ov):w.cell? ⟨D,0,none⟩=some (.pointer (some ⟨A,0,none⟩)):=h.bk.cell 0 rfl
theorem oY.of_eq{w':World}(h:oY w D A s av ov)(he:∀k∈D::aG A av ov,w'.heap[k]?=w.heap[k]?):oY w' D A s av ov:=⟨h.bk.of_eq (he D (by simp)),h.ff.of_eq (λk hk=>he k (mem_cons_of_mem _ hk))⟩
theorem oY.lt(h:oY w D A s av ov):∀k∈D::aG A av ov,k<w.heap.size:=λk hk=>by
 rcases mem_cons.1 hk with rfl|hk
 .exact h.bk.lt
 .exact h.ff.lt k hk
theorem oY.below{w':World}(h:oY w D A s av ov)(hb:Below w.heap.size w w'):oY w' D A s av ov:=h.of_eq (λk hk=>hb.block k (h.lt k hk))
theorem A9(h:oY w D A s av ov)(h':oY w D' A' t av' ov')(hO:au s)(hO':au t):Calls prog 252 #[.pointer (some ⟨D,0,none⟩),.pointer (some ⟨D',0,none⟩)] w λe w'=>e=.returned (.bool (ZW s t))/\∃n,w'=w.drewN n:=by
 have x1:=h.pt;have x2:=h.li;have y1:=h'.pt;have y2:=h'.li;have l1:=OJ hO;have l2:=NR hO;have l3:=OJ hO';have l4:=NR hO';obtain⟨R,hR⟩:∃R,R=ZW s t:=⟨_,rfl⟩;rw[<-hR];unfold ZW at hR;obtain⟨a,ha⟩:∃a,a=OI s:=⟨_,rfl⟩;obtain⟨b,hb⟩:∃b,b=Tk s:=⟨_,rfl⟩;obtain⟨c,hc⟩:∃c,c=OI t:=⟨_,rfl⟩;obtain⟨d,hd⟩:∃d,d=Tk t:=⟨_,rfl⟩;rw[<-ha]at x1 l1 hR;rw[<-hb]at x2 l2 hR;rw[<-hc]at y1 l3 hR;rw[<-hd]at y2 l4 hR;have q1:IntKind.i64.wrap ((c:Int)+(d:Int))=(c:Int)+(d:Int):=by rw[IntKind.wrap_i64];omega
 have q2:IntKind.i64.wrap ((a:Int)+(b:Int))=(a:Int)+(b:Int):=by rw[IntKind.wrap_i64];omega
 have HR:=ab hR;clear h h' hO hO' ha hb hc hd hR;by_cases c1:a<c
 .have d1:decide ((a:Int)<(c:Int))=true:=by simp;omega
  have n1:decide (a<c)=true:=by simpa using c1
  have HE:Hid (R=false):=ab (by rw[uh HR];simp[c1]);clear c1;go_enter func252,ntmps252;go_upto_region 1 with fail;go_quiet (fail)
  go_wp2_with fail
  go_ret;exact⟨aw (uh HE).symm,_,rfl⟩
 .have d1:decide ((a:Int)<(c:Int))=false:=by simp;omega
  have n1:decide (a<c)=false:=by simpa using c1
  by_cases c2:a+b<c+d
  .have d2:decide ((a:Int)+(b:Int)<(c:Int)+(d:Int))=true:=(by simp;omega);have n2:decide (a+b<c+d)=true:=(by simpa using c2);have HE:Hid (R=false):=ab (by rw[uh HR];simp[c2]);clear c1 c2;go_enter func252,ntmps252;go_upto_region 1 with fail;go_quiet (fail)
   go_wp2_with fail
   go_ret;exact⟨aw (uh HE).symm,_,rfl⟩
  .have d2:decide ((a:Int)+(b:Int)<(c:Int)+(d:Int))=false:=(by simp;omega);have n2:decide (a+b<c+d)=false:=(by simpa using c2);have vZ:Hid (R=(decide (0<d)||(decide (b=0)&&decide (a=c)))):=ab (by rw[uh HR];simp[c1,c2]);clear c1 c2;by_cases c3:0<d
   .have d3:decide ((0:Int)<(d:Int))=true:=(by simp;omega);have n3:decide (0<d)=true:=(by simpa using c3);have HE:Hid (R=true):=ab (by rw[uh vZ];simp[c3]);clear c3;go_enter func252,ntmps252;go_upto_region 1 with fail;go_quiet (fail)
    go_wp2_with fail
    go_quiet (fail)
    go_wp2_with fail
    go_ret;exact⟨aw (uh HE).symm,_,drewN_drewN _ _ _⟩
   .have d3:decide ((0:Int)<(d:Int))=false:=(by simp;omega);have n3:decide (0<d)=false:=(by simpa using c3);by_cases c4:b=0
    .have d4:((b:Int)==0)=true:=(by simp[c4]);have HE:Hid (R=((a:Int)==(c:Int))):=ab (by rw[uh vZ,aU];simp[c3,c4]);clear c3 c4;cases d5:((a:Int)==(c:Int))
     all_goals
      rw[d5]at HE;go_enter func252,ntmps252;go_upto_region 1 with fail;go_quiet (fail)
      go_wp2_with fail
      go_quiet (fail)
      go_wp2_with fail
      go_ret;exact⟨aw (uh HE).symm,_,drewN_drewN _ _ _⟩
    .have d4:((b:Int)==0)=false:=(by simp;omega);have HE:Hid (R=false):=ab (by rw[uh vZ];simp[c3,c4]);clear c3 c4;go_enter func252,ntmps252;go_upto_region 1 with fail;go_quiet (fail)
     go_wp2_with fail
     go_quiet (fail)
     go_wp2_with fail
     go_ret;exact⟨aw (uh HE).symm,_,drewN_drewN _ _ _⟩
theorem GL{s t:CF}:Qn s t=true↔∀i,i<5->GJ s t i=true:=by
 unfold Qn;simp only[Bool.and_eq_true];constructor
 .rintro⟨⟨⟨⟨a,b⟩,c⟩,d⟩,e⟩ i hi;have:i=0\/i=1\/i=2\/i=3\/i=4:=by omega
  rcases this with rfl|rfl|rfl|rfl|rfl <;> assumption
 .intro h;exact⟨⟨⟨⟨h 0 (by omega),h 1 (by omega)⟩,h 2 (by omega)⟩,h 3 (by omega)⟩,h 4 (by omega)⟩
theorem Zn{s t:CF}{i:Nat}(hi:i<5)(h:GJ s t i=false):Qn s t=false:=by
 cases hb:Qn s t with
 |false=>rfl
 |true=>have:=GL.1 hb i hi;rw[h]at this;cases this
theorem vN(h:oY w D A s av ov)(h':oY w D' A' t av' ov'):Calls prog 253 #[.pointer (some ⟨D,0,none⟩),.pointer (some ⟨D',0,none⟩)] w λe w'=>e=.returned (.bool (Qn s t))/\∃n,w'=w.drewN n:=by
 obtain⟨R,hR⟩:∃R,R=Qn s t:=⟨_,rfl⟩;rw[<-hR];have HR:=ab hR;have H:=ab h;have H':=ab h';have bR:Hid ((∃n,w=w.drewN n)/\∀i,i<0->GJ s t i=true):=ab ⟨⟨0,rfl⟩,λi hi=>by omega⟩;clear h h' hR;go_enter func253,ntmps253;go_wp2_with fail
 go_loopw [5] (λiv wx=>∃(k:Nat),k<=5/\iv=.int .i64 k/\Hid ((∃n,wx=w.drewN n)/\∀i,i<k->GJ s t i=true)) (λiv _=>5-(intOf iv).toNat)
 case atStart=>exact⟨0,zq5 _,rfl,bR⟩
 case round =>
  clear bR;obtain⟨k,hk,rfl,hI⟩:=hrel;obtain⟨n0,qt⟩:=(uh hI).1;subst qt;by_cases ar:k<5
  .have hd:decide ((k:Int)<(5:Int))=true:=(by simp;omega);have x1:=(uh H).eq ar;have y1:=(uh H').eq ar;have x2:=(uh H).bg ar;have y2:=(uh H').bg ar;have mr:=XE t ar;have x3:=(uh H).eq mr;have uO:GJ s t k=(decide (AO s (AO t k)=AO s k)&&!(decide (zN t k=3)&&!decide (zN s k=3))&&!(decide (zN t k=4)&&decide (zN s k=0))):=rfl;obtain⟨a,ha⟩:∃a,a=AO s k:=⟨_,rfl⟩;obtain⟨b,hb⟩:∃b,b=AO t k:=⟨_,rfl⟩;obtain⟨c,hc⟩:∃c,c=zN s k:=⟨_,rfl⟩;obtain⟨d,Qa⟩:∃d,d=zN t k:=⟨_,rfl⟩;rw[<-hb]at y1 mr x3 uO;obtain⟨e,he⟩:∃e,e=AO s b:=⟨_,rfl⟩;rw[<-ha]at x1 uO;rw[<-hc]at x2 uO;rw[<-Qa]at y2 uO;rw[<-he]at x3 uO;have HL:=ab uO;have QF:Hid (GJ s t k=false->R=false):=ab (λh=>by rw[uh HR];exact Zn ar h);have i1:(0:Int)<=(k:Int):=(by omega);have i2:(k:Int)<5:=(by omega);have i3:(0:Int)<=(b:Int):=(by omega);have i4:(b:Int)<5:=(by omega);clear uO ha hb hc Qa he;by_cases q1:e=a
   .have d1:((e:Int) != (a:Int))=false:=(by simp[q1]);by_cases q2:d=3
    .have d2:((d:Int)==3)=true:=(by simp[q2]);have d4:((d:Int)==4)=false:=(by simp[q2]);by_cases q3:c=3
     .have d3:((c:Int) != 3)=false:=(by simp[q3]);have HY:Hid (GJ s t k=true):=ab (by rw[uh HL];simp[q1,q2,q3]);clear q1 q2 q3;go_wp2_with fail
      go_quiet (fail)
      go_wp2_with fail
      go_roundw
      case rel=>exact⟨k+1,by omega,by go_num,ab ⟨⟨_,rfl⟩,λi hi=>by
       by_cases e:i=k
       .rw[e];exact uh HY
       .exact(uh hI).2 i (by omega)⟩⟩
      case measure=>simp[intOf];omega
     .have d3:((c:Int) != 3)=true:=(by rw[bne_iff_ne];omega);have HE:Hid (R=false):=ab (uh QF (by rw[uh HL];simp[q1,q2,q3]));clear q1 q2 q3;go_wp2_with fail
      go_quiet (fail)
      go_wp2_with fail
      go_ret;exact⟨aw (uh HE).symm,_,rfl⟩
    .have d2:((d:Int)==3)=false:=(by simp;omega);by_cases q4:d=4
     .have d4:((d:Int)==4)=true:=(by simp[q4]);by_cases q5:c=0
      .have d5:((c:Int)==0)=true:=(by simp[q5]);have HE:Hid (R=false):=ab (uh QF (by rw[uh HL];simp[q1,q4,q5]));clear q1 q2 q4 q5;go_wp2_with fail
       go_quiet (fail)
       go_wp2_with fail
       go_ret;exact⟨aw (uh HE).symm,_,rfl⟩
      .have d5:((c:Int)==0)=false:=(by simp;omega);have HY:Hid (GJ s t k=true):=ab (by rw[uh HL];simp[q1,q4,q5]);clear q1 q2 q4 q5;go_wp2_with fail
       go_quiet (fail)
       go_wp2_with fail
       go_roundw
       case rel=>exact⟨k+1,by omega,by go_num,ab ⟨⟨_,rfl⟩,λi hi=>by
        by_cases e:i=k
        .rw[e];exact uh HY
        .exact(uh hI).2 i (by omega)⟩⟩
       case measure=>simp[intOf];omega
     .have d4:((d:Int)==4)=false:=(by simp;omega);have HY:Hid (GJ s t k=true):=ab (by rw[uh HL];simp[q1,q2,q4]);clear q1 q2 q4;go_wp2_with fail
      go_quiet (fail)
      go_wp2_with fail
      go_roundw
      case rel=>exact⟨k+1,by omega,by go_num,ab ⟨⟨_,rfl⟩,λi hi=>by
       by_cases e:i=k
       .rw[e];exact uh HY
       .exact(uh hI).2 i (by omega)⟩⟩
      case measure=>simp[intOf];omega
   .have d1:((e:Int) != (a:Int))=true:=(by rw[bne_iff_ne];omega);have HE:Hid (R=false):=ab (uh QF (by rw[uh HL];simp[q1]));clear q1;go_wp2_with fail
    go_quiet (fail)
    go_wp2_with fail
    go_ret;exact⟨aw (uh HE).symm,_,drewN_drewN _ _ _⟩
  .have hd:decide ((k:Int)<(5:Int))=false:=(by simp;omega);have HE:Hid (R=true):=ab (by rw[uh HR];exact GL.2 (λi hi=>(uh hI).2 i (by omega)));go_wp2_with fail
   go_ret;exact⟨aw (uh HE).symm,_,rfl⟩
end
def Sn(w:World)(q f t:Nat)(st:Int)(anc rest:List Value):Prop :=
 Ob w 202 55 q ([Wi f,Wi t]++(anc++rest))/\anc.length=24/\∃(mid:List Value) (vv ov uv pv:Value),rest=mid++[vv,ov,uv,pv,.int .i64 st]/\mid.length=24
theorem T9{a b:Value}{anc rest:List Value}{j:Nat}(hj:j<anc.length)(u:Value):([a,b]++(anc++rest)).set (2+j) u=[a,b]++(anc.set j u++rest):=by
 rw[set_append_right _ _ (by simp),show 2+j - [a,b].length=j by simp,set_append_left _ _ hj]
theorem RU{a b:Value}{anc rest:List Value}{j:Nat}(hj:j<anc.length):([a,b]++(anc++rest))[2+j]?=anc[j]?:=by
 rw[getElem?_append_right (by simp),show 2+j - [a,b].length=j by simp,getElem?_append_left hj]
theorem Sn.set{w:World}{q f t:Nat}{st:Int}{anc rest:List Value}(h:Sn w q f t st anc rest){j:Nat}(hj:j<24)(u:Value):Sn (w.setCell ⟨q,2+j,none⟩ u) q f t st (anc.set j u) rest:=by
 obtain⟨h1,h2,h3⟩:=h;have:=h1.set (2+j) u;rw[T9 (by omega)]at this;exact⟨this,by simpa using h2,h3⟩
theorem Sn.of_eq{w w':World}{q f t:Nat}{st:Int}{anc rest:List Value}(h:Sn w q f t st anc rest)(he:w'.heap[q]?=w.heap[q]?):Sn w' q f t st anc rest:=⟨h.1.of_eq he,h.2⟩
theorem In{anc:List Value}(h:anc.length=24)(ha:∀j,j<24->anc[j]?=some (.int .i64 (-1))):anc=aW (replicate 24 none):=by
 apply ext_getElem?;intro j;by_cases hj:j<24
 .rw[ha j hj];unfold aW;rw[map_replicate,getElem?_replicate,if_pos hj];rfl
 .rw[getElem?_eq_none (by omega),getElem?_eq_none (by simp[aW];omega)]
theorem LK{w:World}{q f t:Nat}{st:Int}{anc rest:List Value}{F T:CF}{fav fov tav tov:Value}(h:Sn w q f t st anc rest)(hF:dm w f F fav fov)(hT:dm w t T tav tov)(nf:∀k∈aG f fav fov,k≠q)(nt:∀k∈aG t tav tov,k≠q)(adh:∀i,i<5->T.cl.getD i 0<24):
  Calls prog 116 #[.pointer (some ⟨q,0,none⟩)] w λe w'=>e=.returned (.bool (yg F T [0,1,2,3,4] (replicate 24 none)).isSome)/\(∀an,yg F T [0,1,2,3,4] (replicate 24 none)=some an->Sq w' q f t an st)/\am [q] w [q] w':=by
 have HS:=ab h;have HF:=ab hF;have HT:=ab hT;have Ig:=ab nf;have HNt:=ab nt;have ah2:=ab adh;clear h hF hT nf nt adh;go_enter func116,ntmps116;go_wp2_with fail
 go_loopw [3] (λi wr=>∃(k:Nat) (an:List Value),k<=24/\i=.int .i64 k/\Hid (Sn wr q f t st an rest)/\Hid (∀j,j<k->an[j]?=some (.int .i64 (-1)))/\Hid (am [q] w [q] wr)) (λi _=>24-(intOf i).toNat)
 case atStart=>exact⟨0,anc,zq5 _,rfl,HS,ab (λj hj=>by omega),ab (am.refl _ _)⟩
 case round =>
  obtain⟨k,an,hk,rfl,bE,hm,aE⟩:=hrel;by_cases ar:k<24
  .have hd:decide ((k:Int)<24)=true:=(by simp;omega);obtain⟨⟨u,hu⟩,hz⟩:=(uh bE).1.some (j:=2+k) (by omega);have bz:=ab ((uh bE).set ar (.int .i64 (-1)));have Ah:Hid (∀j,j<k+1->(an.set k (.int .i64 (-1)))[j]?=some (.int .i64 (-1))):=ab (by
    intro j hj;have hl:=(uh bE).2.1;by_cases e:k=j
    .subst e;rw[getElem?_set_self (by omega)]
    .rw[getElem?_set_ne e];exact uh hm j (by omega))
   have mz:=ab ((uh aE).setCell (p:=⟨q,2+k,none⟩) (zq0 (by simp)) (.int .i64 (-1)));go_wp2_with fail
   go_roundw
   case rel=>exact⟨k+1,_,by omega,by go_num,bz,Ah,mz⟩
   case measure=>simp[intOf];omega
  .have hd:decide ((k:Int)<24)=false:=(by simp;omega);have D7:k=24:=(by omega);subst D7;have qe:Hid (Sn wr q f t st (aW (replicate 24 none)) rest):=ab (by
    have:=In (uh bE).2.1 (uh hm);rw[<-this];exact uh bE)
   go_wp2_with fail
   go_loopg [4] 5 (λgn i wr=>∃(k:Nat) (an:List (Option Nat)),k+gn=5/\i=.int .i64 k/\Hid (Sn wr q f t st (aW an) rest)/\Hid (yg F T ([0,1,2,3,4].drop k) an=yg F T [0,1,2,3,4] (replicate 24 none))/\Hid (am [q] w [q] wr))
   case atStart=>exact⟨0,_,by omega,rfl,qe,ab rfl,aE⟩
   case round =>
    obtain⟨k,an,hk,rfl,bK,lO,vF⟩:=hrel;by_cases bf:k<5
    .have gx:decide ((k:Int)<5)=true:=(by simp;omega);have fB:=λb hb aM=>(uh vF).block b hb (show b ∉ [q] by simpa using aM);have R8:=(uh HF).of_eq (λb hb=>fB b ((uh HF).lt b hb) (uh Ig b hb));have hTr:=(uh HT).of_eq (λb hb=>fB b ((uh HT).lt b hb) (uh HNt b hb));have hq0:wr.cell? ⟨q,0,none⟩=some (.pointer (some ⟨f,0,none⟩)):=(by rw[ownsRow.cellAt (uh bK).1 0 (by omega)];rfl);have SV:wr.cell? ⟨q,1,none⟩=some (.pointer (some ⟨t,0,none⟩)):=(by rw[ownsRow.cellAt (uh bK).1 1 (by omega)];rfl);have hfc:=R8.cls (i:=k) bf;have htc:=hTr.cls (i:=k) bf;unfold eR at hfc htc;have jX:=uh ah2 k bf;obtain⟨c,hc⟩:∃c,c=T.cl.getD k 0:=⟨_,rfl⟩;obtain⟨fk,MZ⟩:∃fk,fk=F.cl.getD k 0:=⟨_,rfl⟩;rw[<-hc]at htc jX;rw[<-MZ]at hfc;have mG:an.length=24:=(by have:=(uh bK).2.1;rw[aL]at this;exact this);have yx:wr.cell? ⟨q,2+c,none⟩=some (.int .i64 (eH (an.getD c none))):=by
      rw[ownsRow.cellAt (uh bK).1 (2+c) (by omega),RU (by rw[aL];omega)];have:c<an.length:=(by omega);simp[aW,this]
     have hzc:=ownsRow.frozenAt (uh bK).1 (2+c);obtain⟨o,ho⟩:∃o,o=an.getD c none:=⟨_,rfl⟩;rw[<-ho]at yx;have fh:yg F T ([0,1,2,3,4].drop k) an=if o≠none/\o≠some fk then none else yg F T ([0,1,2,3,4].drop (k+1)) (an.set c (some fk)):=by
      have D8:k=0\/k=1\/k=2\/k=3\/k=4:=(by omega);have e:([0,1,2,3,4]:List Nat).drop k=k::([0,1,2,3,4]:List Nat).drop (k+1):=by
       rcases D8 with rfl|rfl|rfl|rfl|rfl <;> rfl
      rw[e,yg,<-hc,<-MZ,<-ho]
     rw[uh lO]at fh;have jg:=lW o;have dd:=ab ((uh bK).set jX (.int .i64 (fk:Int)));have sk:Hid (Sn (wr.setCell ⟨q,2+c,none⟩ (.int .i64 (fk:Int))) q f t st (aW (an.set c (some fk))) rest):=ab (by
      have:=uh dd;rw[show(aW an).set c (.int .i64 (fk:Int))=aW (an.set c (some fk)) by simp[aW,map_set,eH]]at this;exact this)
     have sm:=ab ((uh vF).setCell (p:=⟨q,2+c,none⟩) (zq0 (by simp)) (.int .i64 (fk:Int)));have U6:=ab fh;clear fh hc MZ ho R8 hTr fB dd qe;by_cases fR:o≠none/\o≠some fk
     .have si:Hid (yg F T [0,1,2,3,4] (replicate 24 none)=none):=ab (by rw[uh U6,if_pos fR]);cases o with
      |none=>exact absurd rfl fR.1
      |some b0 =>
       rw[show eH (some b0)=(b0:Int) from rfl]at yx jg;rw[show(some b0).isSome=true from rfl]at jg;have nE:((b0:Int) != (fk:Int))=true:=by
        rw[bne_iff_ne];intro e;exact fR.2 (by rw[show b0=fk by omega])
       clear fR;go_wp2_with fail
       go_quiet (fail)
       go_wp2_with fail
       go_ret;refine⟨by rw[uh si];rfl,λan' h=>?_,(uh vF).drewN _⟩;rw[uh si]at h;cases h
     .have WS:Hid (yg F T ([0,1,2,3,4].drop (k+1)) (an.set c (some fk))=yg F T [0,1,2,3,4] (replicate 24 none)):=ab (by rw[uh U6,if_neg fR]);cases o with
      |none =>
       rw[show eH none=(-1:Int) from rfl]at yx;clear fR jg;go_wp2_with fail
       go_quiet (fail)
       go_wp2_with fail
       go_region
       go_wp2_with fail
       go_roundg (gk-1)
       case rel=>exact⟨k+1,_,by omega,by go_num,ab ((uh sk).of_eq rfl),WS,ab ⟨(uh sm).os,(uh sm).tape,(uh sm).output,(uh sm).size,(uh sm).block,(uh sm).foot⟩⟩
       case measure=>omega
      |some b0 =>
       have qP:b0=fk:=Classical.byContradiction (λh=>fR ⟨by simp,by simpa using h⟩);rw[show eH (some b0)=(b0:Int) from rfl]at yx jg;rw[show(some b0).isSome=true from rfl]at jg;have nE:((b0:Int) != (fk:Int))=false:=(by rw[qP];simp);clear fR qP;go_wp2_with fail
       go_quiet (fail)
       go_wp2_with fail
       go_region
       go_wp2_with fail
       go_roundg (gk-1)
       case rel=>exact⟨k+1,_,by omega,by go_num,ab ((uh sk).of_eq rfl),WS,ab ⟨(uh sm).os,(uh sm).tape,(uh sm).output,(uh sm).size,(uh sm).block,(uh sm).foot⟩⟩
       case measure=>omega
    .have gx:decide ((k:Int)<5)=false:=(by simp;omega);have D8:k=5:=(by omega);subst D8;have si:Hid (yg F T [0,1,2,3,4] (replicate 24 none)=some an):=ab ((uh lO).symm);clear qe;go_wp2_with fail
     go_ret;refine⟨by rw[uh si];rfl,λan' h=>?_,uh vF⟩;rw[uh si]at h;cases h
     obtain⟨h1,h2,mid,vv,ov,uv,pv,h3,h4⟩:=uh bK;refine⟨mid,vv,ov,uv,pv,?_,h4,by rw[aL]at h2;exact h2⟩;rw[h3]at h1;exact h1
