import Derived.Test.YtciihepbeacppaaGreatM18
set_option maxRecDepth 100000
set_option maxHeartbeats 0
namespace Go.Proofs.YtciihepbeacppaaGreat
open Tryz Go.RowKit List World Below
set_option linter.unusedVariables false
def NN(f:CF)(i k:Nat):Nat:=((List.range' k (i+1-k)).find? (λj=>f.cl.getD j 0==f.cl.getD i 0)).getD 0
theorem NP{f:CF}{i k:Nat}(hk:k<=i):NN f i k=if f.cl.getD k 0=f.cl.getD i 0 then k else NN f i (k+1):=by
 unfold NN;rw[show i+1-k=(i+1-(k+1))+1 by omega,range'_succ,find?_cons];by_cases h:f.cl.getD k 0=f.cl.getD i 0
 .rw[if_pos h];simp only[beq_iff_eq.2 h];rfl
 .rw[if_neg h];have:(f.cl.getD k 0==f.cl.getD i 0)=false:=by simpa using h
  rw[this]
theorem NQ(f:CF)(i:Nat):NN f i 0=Ct f i:=by unfold NN Ct;rw[Nat.sub_zero,range_eq_range']
theorem Tk(f:CF)(i:Nat):NN f i (i+1)=0:=by unfold NN;simp
theorem Y4(f:CF){i:Nat}(hi:i<5):Ct f i<5:=by
 unfold Ct;cases h:(range (i+1)).find? (λk=>f.cl.getD k 0==f.cl.getD i 0) with
 |none=>decide
 |some j =>
  have:=mem_of_find?_eq_some h;rw[mem_range]at this;simp only[Option.getD_some];omega
def se(l:List Nat):List Value:=l.map (λn=>Value.int .i64 (n:Nat))
def rL(A:Nat)(es bs:List Nat)(pt li:Nat):List Value:=XN A::(se es++(se bs++[.int .i64 (pt:Nat),.int .i64 (li:Nat)]))
def yA(f:CF)(k:Nat):List Nat:=(range 5).map (λj=>if j<k then Ct f j else 0)
def yw(f:CF)(k:Nat):List Nat:=(range 5).map (λj=>if j<k then BC f j else 0)
theorem fH(f:CF)(k:Nat):(yA f k).length=5:=by simp[yA]
theorem gy(f:CF)(k:Nat):(yw f k).length=5:=by simp[yw]
theorem Tm(f:CF){k:Nat}(hk:k<5):(yA f k).set k (Ct f k)=yA f (k+1):=by
 have:k=0\/k=1\/k=2\/k=3\/k=4:=by omega
 rcases this with rfl|rfl|rfl|rfl|rfl <;> rfl
theorem SU(f:CF){k:Nat}(hk:k<5):(yw f k).set k (BC f k)=yw f (k+1):=by
 have:k=0\/k=1\/k=2\/k=3\/k=4:=by omega
 rcases this with rfl|rfl|rfl|rfl|rfl <;> rfl
theorem Tl(f:CF){k:Nat}(hk:k<5):(yA f k).set k 0=yA f k:=by
 have:k=0\/k=1\/k=2\/k=3\/k=4:=by omega
 rcases this with rfl|rfl|rfl|rfl|rfl <;> rfl
theorem ST(f:CF){k:Nat}(hk:k<5):(yw f k).set k 0=yw f k:=by
 have:k=0\/k=1\/k=2\/k=3\/k=4:=by omega
 rcases this with rfl|rfl|rfl|rfl|rfl <;> rfl
theorem aeE{A i n:Nat}{es bs:List Nat}{pt li:Nat}(he:es.length=5)(hi:i<5):(rL A es bs pt li).set (1+i) (.int .i64 (n:Nat))=rL A (es.set i n) bs pt li:=by
 unfold rL se;rw[Nat.add_comm,set_cons_succ,set_append_left _ _ (by simpa using by omega),map_set]
theorem aeD{A i n:Nat}{es bs:List Nat}{pt li:Nat}(he:es.length=5)(hb:bs.length=5)(hi:i<5):(rL A es bs pt li).set (6+i) (.int .i64 (n:Nat))=rL A es (bs.set i n) pt li:=by
 unfold rL se;rw[show 6+i=(5+i)+1 by omega,set_cons_succ,set_append_right _ _ (by simp;omega),set_append_left _ _ (by simp;omega),map_set];simp[he]
theorem E1{A n:Nat}{es bs:List Nat}{pt li:Nat}(he:es.length=5)(hb:bs.length=5):(rL A es bs pt li).set 11 (.int .i64 (n:Nat))=rL A es bs n li/\(rL A es bs pt li)[11]?=some (.int .i64 (pt:Nat)):=by
 match es,he,bs,hb with
 |[a,b,c,d,e],_,[a',b',c',d',e'],_=>exact⟨rfl,rfl⟩
theorem E0{A n:Nat}{es bs:List Nat}{pt li:Nat}(he:es.length=5)(hb:bs.length=5):(rL A es bs pt li).set 12 (.int .i64 (n:Nat))=rL A es bs pt n/\(rL A es bs pt li)[12]?=some (.int .i64 (li:Nat)):=by
 match es,he,bs,hb with
 |[a,b,c,d,e],_,[a',b',c',d',e'],_=>exact⟨rfl,rfl⟩
theorem zM{A i:Nat}{es bs:List Nat}{pt li:Nat}(he:es.length=5)(hb:bs.length=5)(hi:i<5):(rL A es bs pt li)[1+i]?=some (.int .i64 ((es.getD i 0:Nat):Int))/\(rL A es bs pt li)[6+i]?=some (.int .i64 ((bs.getD i 0:Nat):Int)):=by
 match es,he,bs,hb with
 |[a,b,c,d,e],_,[a',b',c',d',e'],_ =>
  have:i=0\/i=1\/i=2\/i=3\/i=4:=by omega
  rcases this with rfl|rfl|rfl|rfl|rfl <;> exact⟨rfl,rfl⟩
structure rs(w:World)(D A:Nat)(f:CF)(av ov:Value):Prop where
 bk:Bk w D 260 (rL A (yA f 5) (yw f 5) (Qu f) (UR f))
 ff:ew w A f av ov
section
variable {w:World} {A:Nat} {f:CF} {av ov:Value}
theorem Ny(h:ew w A f av ov)(hO:aq f):Calls prog 229 #[.pointer (some ⟨A,0,none⟩)] w λe w'=>∃D,e=.returned (.pointer (some ⟨D,0,none⟩))/\rs w' D A f av ov/\w.heap.size<=D/\Below w.heap.size w w':=by
 have iE:=hO.owLen;obtain⟨W1,dV⟩:∃W1,W1=w.alloc (.cells #[XN A,.int .i64 0,.int .i64 0,.int .i64 0,.int .i64 0,.int .i64 0,.int .i64 0,.int .i64 0,.int .i64 0,.int .i64 0,.int .i64 0,.int .i64 0,.int .i64 0] 260):=⟨_,rfl⟩;have bH:Below w.heap.size w W1:=by rw[dV];exact ah w _
 have hD:Bk W1 w.heap.size 260 (rL A (yA f 0) (yw f 0) 0 0):=by rw[dV];exact Bk.new w _ _
 obtain⟨D,hDe⟩:∃D,D=w.heap.size:=⟨_,rfl⟩;rw[<-hDe]at hD;have cG:=ab (zq2 hD bH);have H:=ab h;have HO:=ab hO;have HDe:=ab hDe;have Ff:∀k∈aH A av ov,k≠D:=λk hk=>by have:=h.lt k hk;omega
 have HAl:=ab Ff;clear h hO hD bH Ff;unfold XN at dV;go_enter func229,ntmps229;go_upto_region 2 with fail;rw[<-dV,<-hDe];clear dV hDe;go_wp2_with fail
 go_loopg [4] 5 (λgn iv wx=>∃(k:Nat),k+gn=5/\iv=.int .i64 k/\Hid (Bk wx D 260 (rL A (yA f k) (yw f k) 0 0)/\Below w.heap.size w wx))
 case atStart=>exact⟨0,by omega,rfl,cG⟩
 case round =>
  clear cG;obtain⟨k,fJ,rfl,hI⟩:=hrel;obtain⟨G,hG⟩:∃G,G=gk:=⟨_,rfl⟩;by_cases ar:k<5
  .have hd:decide ((k:Int)<(5:Int))=true:=(by simp;omega);have oK:Hid (Bk wr D 260 (rL A ((yA f k).set k (NN f k (k+1))) (yw f k) 0 0)/\Below w.heap.size w wr):=ab ⟨by rw[Tk,Tl f ar];exact(uh hI).1,(uh hI).2⟩;have i1:(0:Int)<=(k:Int):=(by omega);have i2:(k:Int)<(5:Int):=(by omega);clear hI;go_wp2_with fail
   go_loopg [5] (k+1) (λgn jv wx=>∃(z:Int),z+1=(gn:Int)/\gn<=k+1/\jv=.int .i64 z/\Hid (Bk wx D 260 (rL A ((yA f k).set k (NN f k gn)) (yw f k) 0 0)/\Below w.heap.size w wx))
   case atStart=>exact⟨(k:Int),by omega,zq4 _,rfl,oK⟩
   case round =>
    clear oK;obtain⟨z,hz,hgk,rfl,hJ⟩:=hrel;have hF:=(uh H).below (uh hJ).2;cases gk with
    |zero =>
     have fK:z=-1:=(by omega);subst fK;have hE:=(uh hJ).1;rw[NQ,Tm f ar]at hE;have OH:=ST f ar;have xk:=hF.cls (i:=k) (by omega);unfold gZ at xk;have pJ:BC f k=match cU f.ow (f.cl.getD k 0) with|some j=>(owA f j).k|none=>0:=rfl
     obtain⟨ck,RN⟩:∃c,c=f.cl.getD k 0:=⟨_,rfl⟩;rw[<-RN]at xk pJ;have mL:=ab (cI ck hF);have hg:=sj (cU f.ow ck);have iy:=hE;have cO:=SU f ar;have cN:w.heap.size<=D:=(by rw[uh HDe];exact zq4 _);have d0:decide ((0:Int)<=-1)=false:=(by decide);cases hb:cU f.ow ck with
     |none =>
      rw[hb]at mL hg pJ;have tq:BC f k=0:=pJ;rw[tq,OH]at cO;have HN:Hid (Bk wr D 260 (rL A (yA f (k+1)) (yw f (k+1)) 0 0)/\Below w.heap.size w wr):=ab ⟨by rw[<-cO];exact hE,(uh hJ).2⟩;clear hF hE OH pJ RN iy cO cN hb tq hJ;go_wp2_with fail
      refine(uh mL).mono ?_;rintro e w3 ⟨rfl,rfl⟩;go_wp2_with fail
      go_roundg (G-1)
      case rel=>exact⟨k+1,by omega,by go_num,HN⟩
      case measure=>omega
     |some j =>
      rw[hb]at mL hg pJ;have tq:BC f k=(owA f j).k:=pJ;obtain⟨f7,-⟩:=eC hb;have c6:=hF.c6;obtain⟨oa,oc,gj,-,-⟩:=aj hF.ow;subst gj;obtain⟨go,gc,oQ,-,-⟩:=aE hF.ow f7;simp only[Value.slice.injEq,true_and]at oQ;obtain⟨rfl,rfl⟩:=oQ;obtain⟨y0,-,-⟩:=aD hF.ow f7;obtain⟨kd,Xl⟩:∃kd,kd=(f.ow.getD j ax).k:=⟨_,rfl⟩;rw[<-Xl]at y0;have afv:BC f k=kd:=(by rw[tq,Xl];rfl);rw[afv]at cO;have gQ:=hE.set (6+k) (.int .i64 (kd:Nat));rw[aeD (fH f (k+1)) (gy f k) ar,cO]at gQ;have y:=hE.cell (6+k) (zM (fH f (k+1)) (gy f k) ar).2;have zf:=hE.frz (6+k);have HN:Hid (Bk (wr.setCell ⟨D,6+k,none⟩ (.int .i64 (kd:Int))) D 260 (rL A (yA f (k+1)) (yw f (k+1)) 0 0)/\Below w.heap.size w (wr.setCell ⟨D,6+k,none⟩ (.int .i64 (kd:Int)))):=ab ⟨gQ,(uh hJ).2.setCell (p:=⟨D,6+k,none⟩) cN _⟩;rw[show fL (some j)=(j:Int) from rfl]at mL hg;have k1:(0:Int)<=(j:Int):=(by omega);have k2:(j:Int)<(f.ow.length:Int):=(by omega);clear hF hE OH pJ RN iy cO cN hb tq afv Xl gQ hJ;go_wp2_with fail
      refine(uh mL).mono ?_;rintro e w3 ⟨rfl,rfl⟩;go_wp2_with fail
      go_region
      go_wp2_with fail
      go_roundg (G-1)
      case rel=>exact⟨k+1,by omega,by go_num,ab ⟨(uh HN).1.of_eq rfl,⟨(uh HN).2.os,(uh HN).2.tape,(uh HN).2.output,(uh HN).2.size,(uh HN).2.block⟩⟩⟩
      case measure=>omega
    |succ m =>
     have hzm:z=(m:Int):=(by omega);subst hzm;have d0:decide ((0:Int)<=(m:Int))=true:=(by simp);have xm:=hF.cls (i:=m) (by omega);have xk:=hF.cls (i:=k) (by omega);unfold gZ at xm xk;have aV:=NP (f:=f) (i:=k) (k:=m) (by omega);obtain⟨cm,mC⟩:∃c,c=f.cl.getD m 0:=⟨_,rfl⟩;obtain⟨ck,RN⟩:∃c,c=f.cl.getD k 0:=⟨_,rfl⟩;rw[<-mC]at xm aV;rw[<-RN]at xk aV;have k1:(0:Int)<=(m:Int):=(by omega);have k2:(m:Int)<5:=(by omega);have hq0:IntKind.i64.wrap ((m:Int)-1)=(m:Int)-1:=(by rw[IntKind.wrap_i64];omega);by_cases T4:cm=ck
     .have d1:((cm:Int)==(ck:Int))=true:=(by simp[T4]);rw[if_pos T4]at aV;have aU:=(uh hJ).1.set (1+k) (.int .i64 (m:Nat));rw[aeE (by rw[length_set,fH]) ar,set_set]at aU;have y:=(uh hJ).1.cell (1+k) (zM (by rw[length_set,fH]) (gy f k) ar).1;have zf:=(uh hJ).1.frz (1+k);have cN:w.heap.size<=D:=(by rw[uh HDe];exact zq4 _);have HN:Hid (Bk (wr.setCell ⟨D,1+k,none⟩ (.int .i64 (m:Int))) D 260 (rL A ((yA f k).set k (NN f k m)) (yw f k) 0 0)/\Below w.heap.size w (wr.setCell ⟨D,1+k,none⟩ (.int .i64 (m:Int)))):=ab ⟨by rw[aV];exact aU,(uh hJ).2.setCell (p:=⟨D,1+k,none⟩) cN _⟩;clear hF aV mC RN T4 aU cN hJ;go_wp2_with fail
      go_quiet (fail)
      go_wp2_with fail
      go_roundg m
      case rel=>exact⟨(m:Int)-1,by omega,by omega,by go_num,ab ⟨(uh HN).1.of_eq rfl,⟨(uh HN).2.os,(uh HN).2.tape,(uh HN).2.output,(uh HN).2.size,(uh HN).2.block⟩⟩⟩
      case measure=>omega
     .have d1:((cm:Int)==(ck:Int))=false:=(by simp;omega);rw[if_neg T4]at aV;have HN:Hid (Bk wr D 260 (rL A ((yA f k).set k (NN f k m)) (yw f k) 0 0)/\Below w.heap.size w wr):=ab ⟨by rw[aV];exact(uh hJ).1,(uh hJ).2⟩;clear hF aV mC RN T4 hJ;go_wp2_with fail
      go_quiet (fail)
      go_wp2_with fail
      go_roundg m
      case rel=>exact⟨(m:Int)-1,by omega,by omega,by go_num,ab ⟨(uh HN).1.of_eq rfl,⟨(uh HN).2.os,(uh HN).2.tape,(uh HN).2.output,(uh HN).2.size,(uh HN).2.block⟩⟩⟩
      case measure=>omega
  .have hd:decide ((k:Int)<(5:Int))=false:=(by simp;omega);have FA:k=5:=(by omega);subst FA;rw[show((5:Nat):Int)=(5:Int) from rfl];have hF:=(uh H).below (uh hI).2;have c6:=hF.c6;obtain⟨oa,oc,gj,-,-⟩:=aj hF.ow;subst gj;have HL0:Hid (Bk wr D 260 (rL A (yA f 5) (yw f 5) ((f.ow.take 0).countP (λp=>decide (p.k=3))) ((f.ow.take 0).countP (λp=>!decide (p.k=3))))/\Below w.heap.size w wr):=ab ⟨(uh hI).1,(uh hI).2⟩;clear hF hI;go_wp2_with fail
   go_loopg [68] f.ow.length (λgn iv wx=>∃(m:Nat),m+gn=f.ow.length/\iv=.int .i64 m/\Hid (Bk wx D 260 (rL A (yA f 5) (yw f 5) ((f.ow.take m).countP (λp=>decide (p.k=3))) ((f.ow.take m).countP (λp=>!decide (p.k=3))))/\Below w.heap.size w wx))
   case atStart=>exact⟨0,by omega,rfl,HL0⟩
   case round =>
    clear HL0 c6;obtain⟨m,hmn,rfl,hI⟩:=hrel;obtain⟨G2,Fi⟩:∃G2,G2=gk:=⟨_,rfl⟩;have hF:=(uh H).below (uh hI).2;by_cases fy:m<f.ow.length
    .have kj:decide ((m:Int)<(f.ow.length:Int))=true:=(by simp;omega);obtain⟨go,gc,oQ,-,-⟩:=aE hF.ow fy;simp only[Value.slice.injEq,true_and]at oQ;obtain⟨rfl,rfl⟩:=oQ;obtain⟨y0,y1,y2⟩:=aD hF.ow fy;have Kz:(f.ow.take (m+1)).countP (λp=>decide (p.k=3))=(f.ow.take m).countP (λp=>decide (p.k=3))+(if (f.ow.getD m ax).k=3 then 1 else 0):=by
      rw[take_add_one,getElem?_eq_getElem fy,countP_append,cQ fy];by_cases e:f.ow[m].k=3 <;> simp[e]
     have tr:(f.ow.take (m+1)).countP (λp=>!decide (p.k=3))=(f.ow.take m).countP (λp=>!decide (p.k=3))+(if (f.ow.getD m ax).k=3 then 0 else 1):=by
      rw[take_add_one,getElem?_eq_getElem fy,countP_append,cQ fy];by_cases e:f.ow[m].k=3 <;> simp[e]
     have hp1:(f.ow.take m).countP (λp=>decide (p.k=3))<=24:=zq3 countP_le_length (by rw[length_take];omega);have Xs:(f.ow.take m).countP (λp=>!decide (p.k=3))<=24:=zq3 countP_le_length (by rw[length_take];omega);obtain⟨p,hp⟩:∃p,p=f.ow.getD m ax:=⟨_,rfl⟩;rw[<-hp]at y0 y1 y2 Kz tr;obtain⟨np,hnp⟩:∃np,np=(f.ow.take m).countP (λp=>decide (p.k=3)):=⟨_,rfl⟩;obtain⟨nl,jX⟩:∃nl,nl=(f.ow.take m).countP (λp=>!decide (p.k=3)):=⟨_,rfl⟩;rw[<-hnp]at hI Kz hp1;rw[<-jX]at hI tr Xs;obtain⟨W1,dV⟩:∃W1,W1=wr.alloc (.cells #[Value.int .i64 p.k,.int .i64 p.l,.int .i64 p.r] 182):=⟨_,rfl⟩;have cf:Below wr.heap.size wr W1:=(by rw[dV];exact ah wr _);have mX:Bk W1 wr.heap.size 182 [Value.int .i64 p.k,.int .i64 p.l,.int .i64 p.r]:=(by rw[dV];exact Bk.new wr _ _);obtain⟨X,gV⟩:∃X,X=wr.heap.size:=⟨_,rfl⟩;rw[<-gV]at mX;have b0:=mX.cell 0 rfl;have Of:=(uh hI).1.below cf;have nQ:=(uh hI).2.trans (cf.mono (uh hI).2.size);have e11:=Of.cell 11 (E1 (n:=0) (fH f 5) (gy f 5)).2;have e12:=Of.cell 12 (E0 (n:=0) (fH f 5) (gy f 5)).2;have z11:=Of.frz 11;have z12:=Of.frz 12;have cN:w.heap.size<=D:=(by rw[uh HDe];exact zq4 _);have k1:(0:Int)<=(m:Int):=(by omega);have k2:(m:Int)<(f.ow.length:Int):=(by omega);by_cases CR:p.k=3
     .have d3:((p.k:Int)==3)=true:=(by simp[CR]);rw[if_pos CR]at Kz tr;have hs:=Of.set 11 (.int .i64 ((np+1:Nat):Int));rw[(E1 (fH f 5) (gy f 5)).1]at hs;rw[show((np+1:Nat):Int)=(np:Int)+1 by omega]at hs;have HN:Hid (Bk (W1.setCell ⟨D,11,none⟩ (.int .i64 ((np:Int)+1))) D 260 (rL A (yA f 5) (yw f 5) ((f.ow.take (m+1)).countP (λp=>decide (p.k=3))) ((f.ow.take (m+1)).countP (λp=>!decide (p.k=3))))/\Below w.heap.size w (W1.setCell ⟨D,11,none⟩ (.int .i64 ((np:Int)+1)))):=ab ⟨by rw[Kz,tr];exact hs,nQ.setCell (p:=⟨D,11,none⟩) cN _⟩;clear hF hI Kz tr hp hnp jX cf mX Of nQ hs cN CR;go_upto_region 16 with fail;rw[<-dV,<-gV];clear dV gV;go_wp2_with fail
      go_roundg (G2-1)
      case rel=>exact⟨m+1,by omega,by go_num,HN⟩
      case measure=>omega
     .have d3:((p.k:Int)==3)=false:=(by simp;omega);rw[if_neg CR]at Kz tr;have hs:=Of.set 12 (.int .i64 ((nl+1:Nat):Int));rw[(E0 (fH f 5) (gy f 5)).1]at hs;rw[show((nl+1:Nat):Int)=(nl:Int)+1 by omega]at hs;have HN:Hid (Bk (W1.setCell ⟨D,12,none⟩ (.int .i64 ((nl:Int)+1))) D 260 (rL A (yA f 5) (yw f 5) ((f.ow.take (m+1)).countP (λp=>decide (p.k=3))) ((f.ow.take (m+1)).countP (λp=>!decide (p.k=3))))/\Below w.heap.size w (W1.setCell ⟨D,12,none⟩ (.int .i64 ((nl:Int)+1)))):=ab ⟨by rw[Kz,tr];exact hs,nQ.setCell (p:=⟨D,12,none⟩) cN _⟩;clear hF hI Kz tr hp hnp jX cf mX Of nQ hs cN CR;go_upto_region 16 with fail;rw[<-dV,<-gV];clear dV gV;go_wp2_with fail
      go_roundg (G2-1)
      case rel=>exact⟨m+1,by omega,by go_num,HN⟩
      case measure=>omega
    .have kj:decide ((m:Int)<(f.ow.length:Int))=false:=(by simp;omega);have hte:f.ow.take m=f.ow:=take_of_length_le (by omega);rw[hte]at hI;have HN:=ab (zq2 (uh hI).1 hF);clear hF hte;go_wp2_with fail
     go_ret;exact⟨D,rfl,⟨(uh HN).1,(uh HN).2⟩,by rw[uh HDe];exact zq4 _,(uh hI).2⟩
end
theorem Qv{f:CF}(h:aq f):Qu f<=24:=zq3 countP_le_length h.owLen
theorem PJ{f:CF}(h:aq f):UR f<=24:=zq3 countP_le_length h.owLen
section
variable {w:World} {D A D' A':Nat} {s t:CF} {av ov av' ov':Value}
theorem rs.pt(h:rs w D A s av ov):w.cell? ⟨D,11,none⟩=some (.int .i64 (Qu s:Nat)):=h.bk.cell 11 (E1 (n:=0) (fH s 5) (gy s 5)).2
theorem rs.li(h:rs w D A s av ov):w.cell? ⟨D,12,none⟩=some (.int .i64 (UR s:Nat)):=h.bk.cell 12 (E0 (n:=0) (fH s 5) (gy s 5)).2
theorem aeG(f:CF){i:Nat}(hi:i<5):(yA f 5).getD i 0=Ct f i/\(yw f 5).getD i 0=BC f i:=by
 have:i=0\/i=1\/i=2\/i=3\/i=4:=by omega
 rcases this with rfl|rfl|rfl|rfl|rfl <;> exact⟨rfl,rfl⟩
theorem rs.eq(h:rs w D A s av ov){i:Nat}(hi:i<5):w.cell? ⟨D,1+i,none⟩=some (.int .i64 (Ct s i:Nat)):=by
 have:=h.bk.cell (1+i) (zM (fH s 5) (gy s 5) hi).1;rwa [(aeG s hi).1]at this
theorem rs.bg(h:rs w D A s av ov){i:Nat}(hi:i<5):w.cell? ⟨D,6+i,none⟩=some (.int .i64 (BC s i:Nat)):=by
 have:=h.bk.cell (6+i) (zM (fH s 5) (gy s 5) hi).2;rwa [(aeG s hi).2]at this
theorem rs.fo(h:rs w D A s av ov):w.cell? ⟨D,0,none⟩=some (.pointer (some ⟨A,0,none⟩)):=h.bk.cell 0 rfl
theorem rs.of_eq{w':World}(h:rs w D A s av ov)(he:∀k∈D::aH A av ov,w'.heap[k]?=w.heap[k]?):rs w' D A s av ov:=⟨h.bk.of_eq (he D (by simp)),h.ff.of_eq (λk hk=>he k (mem_cons_of_mem _ hk))⟩
theorem rs.lt(h:rs w D A s av ov):∀k∈D::aH A av ov,k<w.heap.size:=λk hk=>by
 rcases mem_cons.1 hk with rfl|hk
 .exact h.bk.lt
 .exact h.ff.lt k hk
theorem rs.below{w':World}(h:rs w D A s av ov)(hb:Below w.heap.size w w'):rs w' D A s av ov:=h.of_eq (λk hk=>hb.block k (h.lt k hk))
theorem CI(h:rs w D A s av ov)(h':rs w D' A' t av' ov')(hO:aq s)(hO':aq t):Calls prog 252 #[.pointer (some ⟨D,0,none⟩),.pointer (some ⟨D',0,none⟩)] w λe w'=>e=.returned (.bool (roB s t))/\∃n,w'=w.drewN n:=by
 have x1:=h.pt;have x2:=h.li;have y1:=h'.pt;have y2:=h'.li;have l1:=Qv hO;have l2:=PJ hO;have l3:=Qv hO';have l4:=PJ hO';obtain⟨R,hR⟩:∃R,R=roB s t:=⟨_,rfl⟩;rw[<-hR];unfold roB at hR;obtain⟨a,ha⟩:∃a,a=Qu s:=⟨_,rfl⟩;obtain⟨b,hb⟩:∃b,b=UR s:=⟨_,rfl⟩;obtain⟨c,hc⟩:∃c,c=Qu t:=⟨_,rfl⟩;obtain⟨d,hd⟩:∃d,d=UR t:=⟨_,rfl⟩;rw[<-ha]at x1 l1 hR;rw[<-hb]at x2 l2 hR;rw[<-hc]at y1 l3 hR;rw[<-hd]at y2 l4 hR;have q1:IntKind.i64.wrap ((c:Int)+(d:Int))=(c:Int)+(d:Int):=by rw[IntKind.wrap_i64];omega
 have q2:IntKind.i64.wrap ((a:Int)+(b:Int))=(a:Int)+(b:Int):=by rw[IntKind.wrap_i64];omega
 have HR:=ab hR;clear h h' hO hO' ha hb hc hd hR;by_cases c1:a<c
 .have d1:decide ((a:Int)<(c:Int))=true:=by simp;omega
  have n1:decide (a<c)=true:=by simpa using c1
  have HE:Hid (R=false):=ab (by rw[uh HR];simp[c1]);clear c1;go_enter func252,ntmps252;go_upto_region 1 with fail;go_quiet (fail)
  go_wp2_with fail
  go_ret;exact⟨aB (uh HE).symm,_,rfl⟩
 .have d1:decide ((a:Int)<(c:Int))=false:=by simp;omega
  have n1:decide (a<c)=false:=by simpa using c1
  by_cases c2:a+b<c+d
  .have d2:decide ((a:Int)+(b:Int)<(c:Int)+(d:Int))=true:=(by simp;omega);have n2:decide (a+b<c+d)=true:=(by simpa using c2);have HE:Hid (R=false):=ab (by rw[uh HR];simp[c2]);clear c1 c2;go_enter func252,ntmps252;go_upto_region 1 with fail;go_quiet (fail)
   go_wp2_with fail
   go_ret;exact⟨aB (uh HE).symm,_,rfl⟩
  .have d2:decide ((a:Int)+(b:Int)<(c:Int)+(d:Int))=false:=(by simp;omega);have n2:decide (a+b<c+d)=false:=(by simpa using c2);have Su:Hid (R=(decide (0<d)||(decide (b=0)&&decide (a=c)))):=ab (by rw[uh HR];simp[c1,c2]);clear c1 c2;by_cases c3:0<d
   .have d3:decide ((0:Int)<(d:Int))=true:=(by simp;omega);have n3:decide (0<d)=true:=(by simpa using c3);have HE:Hid (R=true):=ab (by rw[uh Su];simp[c3]);clear c3;go_enter func252,ntmps252;go_upto_region 1 with fail;go_quiet (fail)
    go_wp2_with fail
    go_quiet (fail)
    go_wp2_with fail
    go_ret;exact⟨aB (uh HE).symm,_,drewN_drewN _ _ _⟩
   .have d3:decide ((0:Int)<(d:Int))=false:=(by simp;omega);have n3:decide (0<d)=false:=(by simpa using c3);by_cases c4:b=0
    .have d4:((b:Int)==0)=true:=(by simp[c4]);have HE:Hid (R=((a:Int)==(c:Int))):=ab (by rw[uh Su,bp];simp[c3,c4]);clear c3 c4;cases d5:((a:Int)==(c:Int))
     all_goals
      rw[d5]at HE;go_enter func252,ntmps252;go_upto_region 1 with fail;go_quiet (fail)
      go_wp2_with fail
      go_quiet (fail)
      go_wp2_with fail
      go_ret;exact⟨aB (uh HE).symm,_,drewN_drewN _ _ _⟩
    .have d4:((b:Int)==0)=false:=(by simp;omega);have HE:Hid (R=false):=ab (by rw[uh Su];simp[c3,c4]);clear c3 c4;go_enter func252,ntmps252;go_upto_region 1 with fail;go_quiet (fail)
     go_wp2_with fail
     go_quiet (fail)
     go_wp2_with fail
     go_ret;exact⟨aB (uh HE).symm,_,drewN_drewN _ _ _⟩
theorem IK{s t:CF}:RW s t=true↔∀i,i<5->IJ s t i=true:=by
 unfold RW;simp only[Bool.and_eq_true];constructor
 .rintro⟨⟨⟨⟨a,b⟩,c⟩,d⟩,e⟩ i hi;have:i=0\/i=1\/i=2\/i=3\/i=4:=by omega
  rcases this with rfl|rfl|rfl|rfl|rfl <;> assumption
 .intro h;exact⟨⟨⟨⟨h 0 (by omega),h 1 (by omega)⟩,h 2 (by omega)⟩,h 3 (by omega)⟩,h 4 (by omega)⟩
theorem aaZ{s t:CF}{i:Nat}(hi:i<5)(h:IJ s t i=false):RW s t=false:=by
 cases hb:RW s t with
 |false=>rfl
 |true=>have:=IK.1 hb i hi;rw[h]at this;cases this
theorem yc(h:rs w D A s av ov)(h':rs w D' A' t av' ov'):Calls prog 253 #[.pointer (some ⟨D,0,none⟩),.pointer (some ⟨D',0,none⟩)] w λe w'=>e=.returned (.bool (RW s t))/\∃n,w'=w.drewN n:=by
 obtain⟨R,hR⟩:∃R,R=RW s t:=⟨_,rfl⟩;rw[<-hR];have HR:=ab hR;have H:=ab h;have H':=ab h';have cG:Hid ((∃n,w=w.drewN n)/\∀i,i<0->IJ s t i=true):=ab ⟨⟨0,rfl⟩,λi hi=>by omega⟩;clear h h' hR;go_enter func253,ntmps253;go_wp2_with fail
 go_loopw [5] (λiv wx=>∃(k:Nat),k<=5/\iv=.int .i64 k/\Hid ((∃n,wx=w.drewN n)/\∀i,i<k->IJ s t i=true)) (λiv _=>5-(intOf iv).toNat)
 case atStart=>exact⟨0,zq5 _,rfl,cG⟩
 case round =>
  clear cG;obtain⟨k,hk,rfl,hI⟩:=hrel;obtain⟨n0,oS⟩:=(uh hI).1;subst oS;by_cases ar:k<5
  .have hd:decide ((k:Int)<(5:Int))=true:=(by simp;omega);have x1:=(uh H).eq ar;have y1:=(uh H').eq ar;have x2:=(uh H).bg ar;have y2:=(uh H').bg ar;have mD:=Y4 t ar;have x3:=(uh H).eq mD;have xB:IJ s t k=(decide (Ct s (Ct t k)=Ct s k)&&!(decide (BC t k=3)&&!decide (BC s k=3))&&!(decide (BC t k=4)&&decide (BC s k=0))):=rfl;obtain⟨a,ha⟩:∃a,a=Ct s k:=⟨_,rfl⟩;obtain⟨b,hb⟩:∃b,b=Ct t k:=⟨_,rfl⟩;obtain⟨c,hc⟩:∃c,c=BC s k:=⟨_,rfl⟩;obtain⟨d,Xe⟩:∃d,d=BC t k:=⟨_,rfl⟩;rw[<-hb]at y1 mD x3 xB;obtain⟨e,he⟩:∃e,e=Ct s b:=⟨_,rfl⟩;rw[<-ha]at x1 xB;rw[<-hc]at x2 xB;rw[<-Xe]at y2 xB;rw[<-he]at x3 xB;have HL:=ab xB;have HNo:Hid (IJ s t k=false->R=false):=ab (λh=>by rw[uh HR];exact aaZ ar h);have i1:(0:Int)<=(k:Int):=(by omega);have i2:(k:Int)<5:=(by omega);have i3:(0:Int)<=(b:Int):=(by omega);have i4:(b:Int)<5:=(by omega);clear xB ha hb hc Xe he;by_cases q1:e=a
   .have d1:((e:Int) != (a:Int))=false:=(by simp[q1]);by_cases q2:d=3
    .have d2:((d:Int)==3)=true:=(by simp[q2]);have d4:((d:Int)==4)=false:=(by simp[q2]);by_cases q3:c=3
     .have d3:((c:Int) != 3)=false:=(by simp[q3]);have HY:Hid (IJ s t k=true):=ab (by rw[uh HL];simp[q1,q2,q3]);clear q1 q2 q3;go_wp2_with fail
      go_quiet (fail)
      go_wp2_with fail
      go_roundw
      case rel=>exact⟨k+1,by omega,by go_num,ab ⟨⟨_,rfl⟩,λi hi=>by
       by_cases e:i=k
       .rw[e];exact uh HY
       .exact(uh hI).2 i (by omega)⟩⟩
      case measure=>simp[intOf];omega
     .have d3:((c:Int) != 3)=true:=(by rw[bne_iff_ne];omega);have HE:Hid (R=false):=ab (uh HNo (by rw[uh HL];simp[q1,q2,q3]));clear q1 q2 q3;go_wp2_with fail
      go_quiet (fail)
      go_wp2_with fail
      go_ret;exact⟨aB (uh HE).symm,_,rfl⟩
    .have d2:((d:Int)==3)=false:=(by simp;omega);by_cases q4:d=4
     .have d4:((d:Int)==4)=true:=(by simp[q4]);by_cases q5:c=0
      .have d5:((c:Int)==0)=true:=(by simp[q5]);have HE:Hid (R=false):=ab (uh HNo (by rw[uh HL];simp[q1,q4,q5]));clear q1 q2 q4 q5;go_wp2_with fail
       go_quiet (fail)
       go_wp2_with fail
       go_ret;exact⟨aB (uh HE).symm,_,rfl⟩
      .have d5:((c:Int)==0)=false:=(by simp;omega);have HY:Hid (IJ s t k=true):=ab (by rw[uh HL];simp[q1,q4,q5]);clear q1 q2 q4 q5;go_wp2_with fail
       go_quiet (fail)
       go_wp2_with fail
       go_roundw
       case rel=>exact⟨k+1,by omega,by go_num,ab ⟨⟨_,rfl⟩,λi hi=>by
        by_cases e:i=k
        .rw[e];exact uh HY
        .exact(uh hI).2 i (by omega)⟩⟩
       case measure=>simp[intOf];omega
     .have d4:((d:Int)==4)=false:=(by simp;omega);have HY:Hid (IJ s t k=true):=ab (by rw[uh HL];simp[q1,q2,q4]);clear q1 q2 q4;go_wp2_with fail
      go_quiet (fail)
      go_wp2_with fail
      go_roundw
      case rel=>exact⟨k+1,by omega,by go_num,ab ⟨⟨_,rfl⟩,λi hi=>by
       by_cases e:i=k
       .rw[e];exact uh HY
       .exact(uh hI).2 i (by omega)⟩⟩
      case measure=>simp[intOf];omega
   .have d1:((e:Int) != (a:Int))=true:=(by rw[bne_iff_ne];omega);have HE:Hid (R=false):=ab (uh HNo (by rw[uh HL];simp[q1]));clear q1;go_wp2_with fail
    go_quiet (fail)
    go_wp2_with fail
    go_ret;exact⟨aB (uh HE).symm,_,drewN_drewN _ _ _⟩
  .have hd:decide ((k:Int)<(5:Int))=false:=(by simp;omega);have HE:Hid (R=true):=ab (by rw[uh HR];exact IK.2 (λi hi=>(uh hI).2 i (by omega)));go_wp2_with fail
   go_ret;exact⟨aB (uh HE).symm,_,rfl⟩
end
def Sn(w:World)(q f t:Nat)(st:Int)(anc rest:List Value):Prop :=
 Ob w 202 55 q ([XN f,XN t]++(anc++rest))/\anc.length=24/\∃(mid:List Value) (vv ov uv pv:Value),rest=mid++[vv,ov,uv,pv,.int .i64 st]/\mid.length=24
theorem Vz{a b:Value}{anc rest:List Value}{j:Nat}(hj:j<anc.length)(u:Value):([a,b]++(anc++rest)).set (2+j) u=[a,b]++(anc.set j u++rest):=by
 rw[set_append_right _ _ (by simp),show 2+j - [a,b].length=j by simp,set_append_left _ _ hj]
theorem TE{a b:Value}{anc rest:List Value}{j:Nat}(hj:j<anc.length):([a,b]++(anc++rest))[2+j]?=anc[j]?:=by
 rw[getElem?_append_right (by simp),show 2+j - [a,b].length=j by simp,getElem?_append_left hj]
theorem Sn.set{w:World}{q f t:Nat}{st:Int}{anc rest:List Value}(h:Sn w q f t st anc rest){j:Nat}(hj:j<24)(u:Value):Sn (w.setCell ⟨q,2+j,none⟩ u) q f t st (anc.set j u) rest:=by
 obtain⟨h1,h2,h3⟩:=h;have:=h1.set (2+j) u;rw[Vz (by omega)]at this;exact⟨this,by simpa using h2,h3⟩
theorem Sn.of_eq{w w':World}{q f t:Nat}{st:Int}{anc rest:List Value}(h:Sn w q f t st anc rest)(he:w'.heap[q]?=w.heap[q]?):Sn w' q f t st anc rest:=⟨h.1.of_eq he,h.2⟩
theorem JT{anc:List Value}(h:anc.length=24)(ha:∀j,j<24->anc[j]?=some (.int .i64 (-1))):anc=bi (replicate 24 none):=by
 apply ext_getElem?;intro j;by_cases hj:j<24
 .rw[ha j hj];unfold bi;rw[map_replicate,getElem?_replicate,if_pos hj];rfl
 .rw[getElem?_eq_none (by omega),getElem?_eq_none (by simp[bi];omega)]
theorem Nz{w:World}{q f t:Nat}{st:Int}{anc rest:List Value}{F T:CF}{fav fov tav tov:Value}(h:Sn w q f t st anc rest)(hF:ew w f F fav fov)(hT:ew w t T tav tov)(nf:∀k∈aH f fav fov,k≠q)(nt:∀k∈aH t tav tov,k≠q)(afl:∀i,i<5->T.cl.getD i 0<24):
  Calls prog 116 #[.pointer (some ⟨q,0,none⟩)] w λe w'=>e=.returned (.bool (xP F T [0,1,2,3,4] (replicate 24 none)).isSome)/\(∀an,xP F T [0,1,2,3,4] (replicate 24 none)=some an->Sq w' q f t an st)/\au [q] w [q] w':=by
 have HS:=ab h;have HF:=ab hF;have HT:=ab hT;have HNf:=ab nf;have HNt:=ab nt;have ajS:=ab afl;clear h hF hT nf nt afl;go_enter func116,ntmps116;go_wp2_with fail
 go_loopw [3] (λi wr=>∃(k:Nat) (an:List Value),k<=24/\i=.int .i64 k/\Hid (Sn wr q f t st an rest)/\Hid (∀j,j<k->an[j]?=some (.int .i64 (-1)))/\Hid (au [q] w [q] wr)) (λi _=>24-(intOf i).toNat)
 case atStart=>exact⟨0,anc,zq5 _,rfl,HS,ab (λj hj=>by omega),ab (au.refl _ _)⟩
 case round =>
  obtain⟨k,an,hk,rfl,bX,hm,aV⟩:=hrel;by_cases ar:k<24
  .have hd:decide ((k:Int)<24)=true:=(by simp;omega);obtain⟨⟨u,hu⟩,hz⟩:=(uh bX).1.some (j:=2+k) (by omega);have cS:=ab ((uh bX).set ar (.int .i64 (-1)));have EF:Hid (∀j,j<k+1->(an.set k (.int .i64 (-1)))[j]?=some (.int .i64 (-1))):=ab (by
    intro j hj;have hl:=(uh bX).2.1;by_cases e:k=j
    .subst e;rw[getElem?_set_self (by omega)]
    .rw[getElem?_set_ne e];exact uh hm j (by omega))
   have GQ:=ab ((uh aV).setCell (p:=⟨q,2+k,none⟩) (zq0 (by simp)) (.int .i64 (-1)));go_wp2_with fail
   go_roundw
   case rel=>exact⟨k+1,_,by omega,by go_num,cS,EF,GQ⟩
   case measure=>simp[intOf];omega
  .have hd:decide ((k:Int)<24)=false:=(by simp;omega);have af4:k=24:=(by omega);subst af4;have sF:Hid (Sn wr q f t st (bi (replicate 24 none)) rest):=ab (by
    have:=JT (uh bX).2.1 (uh hm);rw[<-this];exact uh bX)
   go_wp2_with fail
   go_loopg [4] 5 (λgn i wr=>∃(k:Nat) (an:List (Option Nat)),k+gn=5/\i=.int .i64 k/\Hid (Sn wr q f t st (bi an) rest)/\Hid (xP F T ([0,1,2,3,4].drop k) an=xP F T [0,1,2,3,4] (replicate 24 none))/\Hid (au [q] w [q] wr))
   case atStart=>exact⟨0,_,by omega,rfl,sF,ab rfl,aV⟩
   case round =>
    obtain⟨k,an,hk,rfl,bS,kS,x8⟩:=hrel;by_cases cd:k<5
    .have kj:decide ((k:Int)<5)=true:=(by simp;omega);have iy:=λb hb aL=>(uh x8).block b hb (show b ∉ [q] by simpa using aL);have TO:=(uh HF).of_eq (λb hb=>iy b ((uh HF).lt b hb) (uh HNf b hb));have WW:=(uh HT).of_eq (λb hb=>iy b ((uh HT).lt b hb) (uh HNt b hb));have hq0:wr.cell? ⟨q,0,none⟩=some (.pointer (some ⟨f,0,none⟩)):=(by rw[ownsRow.cellAt (uh bS).1 0 (by omega)];rfl);have RT:wr.cell? ⟨q,1,none⟩=some (.pointer (some ⟨t,0,none⟩)):=(by rw[ownsRow.cellAt (uh bS).1 1 (by omega)];rfl);have hfc:=TO.cls (i:=k) cd;have htc:=WW.cls (i:=k) cd;unfold gZ at hfc htc;have zZ:=uh ajS k cd;obtain⟨c,hc⟩:∃c,c=T.cl.getD k 0:=⟨_,rfl⟩;obtain⟨fk,ON⟩:∃fk,fk=F.cl.getD k 0:=⟨_,rfl⟩;rw[<-hc]at htc zZ;rw[<-ON]at hfc;have qc:an.length=24:=(by have:=(uh bS).2.1;rw[aO]at this;exact this);have L5:wr.cell? ⟨q,2+c,none⟩=some (.int .i64 (fL (an.getD c none))):=by
      rw[ownsRow.cellAt (uh bS).1 (2+c) (by omega),TE (by rw[aO];omega)];have:c<an.length:=(by omega);simp[bi,this]
     have hzc:=ownsRow.frozenAt (uh bS).1 (2+c);obtain⟨o,ho⟩:∃o,o=an.getD c none:=⟨_,rfl⟩;rw[<-ho]at L5;have gI:xP F T ([0,1,2,3,4].drop k) an=if o≠none/\o≠some fk then none else xP F T ([0,1,2,3,4].drop (k+1)) (an.set c (some fk)):=by
      have FA:k=0\/k=1\/k=2\/k=3\/k=4:=(by omega);have e:([0,1,2,3,4]:List Nat).drop k=k::([0,1,2,3,4]:List Nat).drop (k+1):=by
       rcases FA with rfl|rfl|rfl|rfl|rfl <;> rfl
      rw[e,xP,<-hc,<-ON,<-ho]
     rw[uh kS]at gI;have j7:=oh o;have gu:=ab ((uh bS).set zZ (.int .i64 (fk:Int)));have uD:Hid (Sn (wr.setCell ⟨q,2+c,none⟩ (.int .i64 (fk:Int))) q f t st (bi (an.set c (some fk))) rest):=ab (by
      have:=uh gu;rw[show(bi an).set c (.int .i64 (fk:Int))=bi (an.set c (some fk)) by simp[bi,map_set,fL]]at this;exact this)
     have uE:=ab ((uh x8).setCell (p:=⟨q,2+c,none⟩) (zq0 (by simp)) (.int .i64 (fk:Int)));have Wq:=ab gI;clear gI hc ON ho TO WW iy gu sF;by_cases vm:o≠none/\o≠some fk
     .have zs:Hid (xP F T [0,1,2,3,4] (replicate 24 none)=none):=ab (by rw[uh Wq,if_pos vm]);cases o with
      |none=>exact absurd rfl vm.1
      |some b0 =>
       rw[show fL (some b0)=(b0:Int) from rfl]at L5 j7;rw[show(some b0).isSome=true from rfl]at j7;have tY:((b0:Int) != (fk:Int))=true:=by
        rw[bne_iff_ne];intro e;exact vm.2 (by rw[show b0=fk by omega])
       clear vm;go_wp2_with fail
       go_quiet (fail)
       go_wp2_with fail
       go_ret;refine⟨by rw[uh zs];rfl,λan' h=>?_,(uh x8).drewN _⟩;rw[uh zs]at h;cases h
     .have Yi:Hid (xP F T ([0,1,2,3,4].drop (k+1)) (an.set c (some fk))=xP F T [0,1,2,3,4] (replicate 24 none)):=ab (by rw[uh Wq,if_neg vm]);cases o with
      |none =>
       rw[show fL none=(-1:Int) from rfl]at L5;clear vm j7;go_wp2_with fail
       go_quiet (fail)
       go_wp2_with fail
       go_region
       go_wp2_with fail
       go_roundg (gk-1)
       case rel=>exact⟨k+1,_,by omega,by go_num,ab ((uh uD).of_eq rfl),Yi,ab ⟨(uh uE).os,(uh uE).tape,(uh uE).output,(uh uE).size,(uh uE).block,(uh uE).foot⟩⟩
       case measure=>omega
      |some b0 =>
       have tq:b0=fk:=Classical.byContradiction (λh=>vm ⟨by simp,by simpa using h⟩);rw[show fL (some b0)=(b0:Int) from rfl]at L5 j7;rw[show(some b0).isSome=true from rfl]at j7;have tY:((b0:Int) != (fk:Int))=false:=(by rw[tq];simp);clear vm tq;go_wp2_with fail
       go_quiet (fail)
       go_wp2_with fail
       go_region
       go_wp2_with fail
       go_roundg (gk-1)
       case rel=>exact⟨k+1,_,by omega,by go_num,ab ((uh uD).of_eq rfl),Yi,ab ⟨(uh uE).os,(uh uE).tape,(uh uE).output,(uh uE).size,(uh uE).block,(uh uE).foot⟩⟩
       case measure=>omega
    .have kj:decide ((k:Int)<5)=false:=(by simp;omega);have FA:k=5:=(by omega);subst FA;have zs:Hid (xP F T [0,1,2,3,4] (replicate 24 none)=some an):=ab ((uh kS).symm);clear sF;go_wp2_with fail
     go_ret;refine⟨by rw[uh zs];rfl,λan' h=>?_,uh x8⟩;rw[uh zs]at h;cases h
     obtain⟨h1,h2,mid,vv,ov,uv,pv,h3,h4⟩:=uh bS;refine⟨mid,vv,ov,uv,pv,?_,h4,by rw[aO]at h2;exact h2⟩;rw[h3]at h1;exact h1
