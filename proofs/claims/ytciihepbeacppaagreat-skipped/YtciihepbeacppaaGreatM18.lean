import Derived.Test.YtciihepbeacppaaGreatM17
set_option maxRecDepth 100000
set_option maxHeartbeats 0
namespace Go.Proofs.YtciihepbeacppaaGreat
open Tryz Go.RowKit List World Below
set_option linter.unusedVariables false
def N5(f:CF)(i k:Nat):Nat:=((List.range' k (i+1-k)).find? (λj=>f.cl.getD j 0==f.cl.getD i 0)).getD 0
theorem N6{f:CF}{i k:Nat}(hk:k<=i):N5 f i k=if f.cl.getD k 0=f.cl.getD i 0 then k else N5 f i (k+1):=by
 unfold N5;rw[show i+1-k=(i+1-(k+1))+1 by omega,range'_succ,find?_cons];by_cases h:f.cl.getD k 0=f.cl.getD i 0
 .rw[if_pos h];simp only[beq_iff_eq.2 h];rfl
 .rw[if_neg h];have:(f.cl.getD k 0==f.cl.getD i 0)=false:=by simpa using h
  rw[this]
theorem N7(f:CF)(i:Nat):N5 f i 0=CR f i:=by unfold N5 CR;rw[Nat.sub_zero,range_eq_range']
theorem TS(f:CF)(i:Nat):N5 f i (i+1)=0:=by unfold N5;simp
theorem Zd(f:CF){i:Nat}(hi:i<5):CR f i<5:=by
 unfold CR;cases h:(range (i+1)).find? (λk=>f.cl.getD k 0==f.cl.getD i 0) with
 |none=>decide
 |some j =>
  have:=mem_of_find?_eq_some h;rw[mem_range]at this;simp only[Option.getD_some];omega
def so(l:List Nat):List Value:=l.map (λn=>Value.int .i64 (n:Nat))
def rR(A:Nat)(es bs:List Nat)(pt li:Nat):List Value:=XZ A::(so es++(so bs++[.int .i64 (pt:Nat),.int .i64 (li:Nat)]))
def yW(f:CF)(k:Nat):List Nat:=(range 5).map (λj=>if j<k then CR f j else 0)
def yR(f:CF)(k:Nat):List Nat:=(range 5).map (λj=>if j<k then B9 f j else 0)
theorem fR(f:CF)(k:Nat):(yW f k).length=5:=by simp[yW]
theorem gE(f:CF)(k:Nat):(yR f k).length=5:=by simp[yR]
theorem TU(f:CF){k:Nat}(hk:k<5):(yW f k).set k (CR f k)=yW f (k+1):=by
 have:k=0\/k=1\/k=2\/k=3\/k=4:=by omega
 rcases this with rfl|rfl|rfl|rfl|rfl <;> rfl
theorem TB(f:CF){k:Nat}(hk:k<5):(yR f k).set k (B9 f k)=yR f (k+1):=by
 have:k=0\/k=1\/k=2\/k=3\/k=4:=by omega
 rcases this with rfl|rfl|rfl|rfl|rfl <;> rfl
theorem TT(f:CF){k:Nat}(hk:k<5):(yW f k).set k 0=yW f k:=by
 have:k=0\/k=1\/k=2\/k=3\/k=4:=by omega
 rcases this with rfl|rfl|rfl|rfl|rfl <;> rfl
theorem TA(f:CF){k:Nat}(hk:k<5):(yR f k).set k 0=yR f k:=by
 have:k=0\/k=1\/k=2\/k=3\/k=4:=by omega
 rcases this with rfl|rfl|rfl|rfl|rfl <;> rfl
theorem aeG{A i n:Nat}{es bs:List Nat}{pt li:Nat}(he:es.length=5)(hi:i<5):(rR A es bs pt li).set (1+i) (.int .i64 (n:Nat))=rR A (es.set i n) bs pt li:=by
 unfold rR so;rw[Nat.add_comm,set_cons_succ,set_append_left _ _ (by simpa using by omega),map_set]
theorem aeF{A i n:Nat}{es bs:List Nat}{pt li:Nat}(he:es.length=5)(hb:bs.length=5)(hi:i<5):(rR A es bs pt li).set (6+i) (.int .i64 (n:Nat))=rR A es (bs.set i n) pt li:=by
 unfold rR so;rw[show 6+i=(5+i)+1 by omega,set_cons_succ,set_append_right _ _ (by simp;omega),set_append_left _ _ (by simp;omega),map_set];simp[he]
theorem Fj{A n:Nat}{es bs:List Nat}{pt li:Nat}(he:es.length=5)(hb:bs.length=5):(rR A es bs pt li).set 11 (.int .i64 (n:Nat))=rR A es bs n li/\(rR A es bs pt li)[11]?=some (.int .i64 (pt:Nat)):=by
 match es,he,bs,hb with
 |[a,b,c,d,e],_,[a',b',c',d',e'],_=>exact⟨rfl,rfl⟩
theorem Fi{A n:Nat}{es bs:List Nat}{pt li:Nat}(he:es.length=5)(hb:bs.length=5):(rR A es bs pt li).set 12 (.int .i64 (n:Nat))=rR A es bs pt n/\(rR A es bs pt li)[12]?=some (.int .i64 (li:Nat)):=by
 match es,he,bs,hb with
 |[a,b,c,d,e],_,[a',b',c',d',e'],_=>exact⟨rfl,rfl⟩
theorem Ao{A i:Nat}{es bs:List Nat}{pt li:Nat}(he:es.length=5)(hb:bs.length=5)(hi:i<5):(rR A es bs pt li)[1+i]?=some (.int .i64 ((es.getD i 0:Nat):Int))/\(rR A es bs pt li)[6+i]?=some (.int .i64 ((bs.getD i 0:Nat):Int)):=by
 match es,he,bs,hb with
 |[a,b,c,d,e],_,[a',b',c',d',e'],_ =>
  have:i=0\/i=1\/i=2\/i=3\/i=4:=by omega
  rcases this with rfl|rfl|rfl|rfl|rfl <;> exact⟨rfl,rfl⟩
structure rB(w:World)(D A:Nat)(f:CF)(av ov:Value):Prop where
 bk:Bk w D 260 (rR A (yW f 5) (yR f 5) (QN f) (Ve f))
 ff:eP w A f av ov
section
variable {w:World} {A:Nat} {f:CF} {av ov:Value}
theorem NP(h:eP w A f av ov)(hO:aj f):Calls prog 229 #[.pointer (some ⟨A,0,none⟩)] w λe w'=>∃D,e=.returned (.pointer (some ⟨D,0,none⟩))/\rB w' D A f av ov/\w.heap.size<=D/\Below w.heap.size w w':=by
 have iH:=hO.owLen;obtain⟨W1,d7⟩:∃W1,W1=w.alloc (.cells #[XZ A,.int .i64 0,.int .i64 0,.int .i64 0,.int .i64 0,.int .i64 0,.int .i64 0,.int .i64 0,.int .i64 0,.int .i64 0,.int .i64 0,.int .i64 0,.int .i64 0] 260):=⟨_,rfl⟩;have bz:Below w.heap.size w W1:=by rw[d7];exact ah w _
 have hD:Bk W1 w.heap.size 260 (rR A (yW f 0) (yR f 0) 0 0):=by rw[d7];exact Bk.new w _ _
 obtain⟨D,hDe⟩:∃D,D=w.heap.size:=⟨_,rfl⟩;rw[<-hDe]at hD;have cF:=ab (zq2 hD bz);have H:=ab h;have HO:=ab hO;have HDe:=ab hDe;have Fz:∀k∈aG A av ov,k≠D:=λk hk=>by have:=h.lt k hk;omega
 have HAl:=ab Fz;clear h hO hD bz Fz;unfold XZ at d7;go_enter func229,ntmps229;go_upto_region 2 with fail;rw[<-d7,<-hDe];clear d7 hDe;go_wp2_with fail
 go_loopg [4] 5 (λgn iv wx=>∃(k:Nat),k+gn=5/\iv=.int .i64 k/\Hid (Bk wx D 260 (rR A (yW f k) (yR f k) 0 0)/\Below w.heap.size w wx))
 case atStart=>exact⟨0,by omega,rfl,cF⟩
 case round =>
  clear cF;obtain⟨k,gu,rfl,hI⟩:=hrel;obtain⟨G,hG⟩:∃G,G=gk:=⟨_,rfl⟩;by_cases au:k<5
  .have hd:decide ((k:Int)<(5:Int))=true:=(by simp;omega);have oO:Hid (Bk wr D 260 (rR A ((yW f k).set k (N5 f k (k+1))) (yR f k) 0 0)/\Below w.heap.size w wr):=ab ⟨by rw[TS,TT f au];exact(uh hI).1,(uh hI).2⟩;have i1:(0:Int)<=(k:Int):=(by omega);have i2:(k:Int)<(5:Int):=(by omega);clear hI;go_wp2_with fail
   go_loopg [5] (k+1) (λgn jv wx=>∃(z:Int),z+1=(gn:Int)/\gn<=k+1/\jv=.int .i64 z/\Hid (Bk wx D 260 (rR A ((yW f k).set k (N5 f k gn)) (yR f k) 0 0)/\Below w.heap.size w wx))
   case atStart=>exact⟨(k:Int),by omega,zq4 _,rfl,oO⟩
   case round =>
    clear oO;obtain⟨z,hz,hgk,rfl,hJ⟩:=hrel;have hF:=(uh H).below (uh hJ).2;cases gk with
    |zero =>
     have gy:z=-1:=(by omega);subst gy;have hE:=(uh hJ).1;rw[N7,TU f au]at hE;have O4:=TA f au;have xk:=hF.cls (i:=k) (by omega);unfold gZ at xk;have nV:B9 f k=match cD f.ow (f.cl.getD k 0) with|some j=>(owA f j).k|none=>0:=rfl
     obtain⟨ck,SB⟩:∃c,c=f.cl.getD k 0:=⟨_,rfl⟩;rw[<-SB]at xk nV;have mQ:=ab (cO ck hF);have hg:=sD (cD f.ow ck);have iA:=hE;have cS:=TB f au;have cW:w.heap.size<=D:=(by rw[uh HDe];exact zq4 _);have d0:decide ((0:Int)<=-1)=false:=(by decide);cases hb:cD f.ow ck with
     |none =>
      rw[hb]at mQ hg nV;have tH:B9 f k=0:=nV;rw[tH,O4]at cS;have HN:Hid (Bk wr D 260 (rR A (yW f (k+1)) (yR f (k+1)) 0 0)/\Below w.heap.size w wr):=ab ⟨by rw[<-cS];exact hE,(uh hJ).2⟩;clear hF hE O4 nV SB iA cS cW hb tH hJ;go_wp2_with fail
      refine(uh mQ).mono ?_;rintro e w3 ⟨rfl,rfl⟩;go_wp2_with fail
      go_roundg (G-1)
      case rel=>exact⟨k+1,by omega,by go_num,HN⟩
      case measure=>omega
     |some j =>
      rw[hb]at mQ hg nV;have tH:B9 f k=(owA f j).k:=nV;obtain⟨fT,-⟩:=eT hb;have c6:=hF.c6;obtain⟨oa,oc,gw,-,-⟩:=am hF.ow;subst gw;obtain⟨go,gc,oU,-,-⟩:=aE hF.ow fT;simp only[Value.slice.injEq,true_and]at oU;obtain⟨rfl,rfl⟩:=oU;obtain⟨y0,-,-⟩:=aB hF.ow fT;obtain⟨kd,SE⟩:∃kd,kd=(f.ow.getD j ay).k:=⟨_,rfl⟩;rw[<-SE]at y0;have afy:B9 f k=kd:=(by rw[tH,SE];rfl);rw[afy]at cS;have gS:=hE.set (6+k) (.int .i64 (kd:Nat));rw[aeF (fR f (k+1)) (gE f k) au,cS]at gS;have y:=hE.cell (6+k) (Ao (fR f (k+1)) (gE f k) au).2;have zf:=hE.frz (6+k);have HN:Hid (Bk (wr.setCell ⟨D,6+k,none⟩ (.int .i64 (kd:Int))) D 260 (rR A (yW f (k+1)) (yR f (k+1)) 0 0)/\Below w.heap.size w (wr.setCell ⟨D,6+k,none⟩ (.int .i64 (kd:Int)))):=ab ⟨gS,(uh hJ).2.setCell (p:=⟨D,6+k,none⟩) cW _⟩;rw[show fU (some j)=(j:Int) from rfl]at mQ hg;have k1:(0:Int)<=(j:Int):=(by omega);have k2:(j:Int)<(f.ow.length:Int):=(by omega);clear hF hE O4 nV SB iA cS cW hb tH afy SE gS hJ;go_wp2_with fail
      refine(uh mQ).mono ?_;rintro e w3 ⟨rfl,rfl⟩;go_wp2_with fail
      go_region
      go_wp2_with fail
      go_roundg (G-1)
      case rel=>exact⟨k+1,by omega,by go_num,ab ⟨(uh HN).1.of_eq rfl,⟨(uh HN).2.os,(uh HN).2.tape,(uh HN).2.output,(uh HN).2.size,(uh HN).2.block⟩⟩⟩
      case measure=>omega
    |succ m =>
     have hzm:z=(m:Int):=(by omega);subst hzm;have d0:decide ((0:Int)<=(m:Int))=true:=(by simp);have xm:=hF.cls (i:=m) (by omega);have xk:=hF.cls (i:=k) (by omega);unfold gZ at xm xk;have aP:=N6 (f:=f) (i:=k) (k:=m) (by omega);obtain⟨cm,oT⟩:∃c,c=f.cl.getD m 0:=⟨_,rfl⟩;obtain⟨ck,SB⟩:∃c,c=f.cl.getD k 0:=⟨_,rfl⟩;rw[<-oT]at xm aP;rw[<-SB]at xk aP;have k1:(0:Int)<=(m:Int):=(by omega);have k2:(m:Int)<5:=(by omega);have hq0:IntKind.i64.wrap ((m:Int)-1)=(m:Int)-1:=(by rw[IntKind.wrap_i64];omega);by_cases Xq:cm=ck
     .have d1:((cm:Int)==(ck:Int))=true:=(by simp[Xq]);rw[if_pos Xq]at aP;have aW:=(uh hJ).1.set (1+k) (.int .i64 (m:Nat));rw[aeG (by rw[length_set,fR]) au,set_set]at aW;have y:=(uh hJ).1.cell (1+k) (Ao (by rw[length_set,fR]) (gE f k) au).1;have zf:=(uh hJ).1.frz (1+k);have cW:w.heap.size<=D:=(by rw[uh HDe];exact zq4 _);have HN:Hid (Bk (wr.setCell ⟨D,1+k,none⟩ (.int .i64 (m:Int))) D 260 (rR A ((yW f k).set k (N5 f k m)) (yR f k) 0 0)/\Below w.heap.size w (wr.setCell ⟨D,1+k,none⟩ (.int .i64 (m:Int)))):=ab ⟨by rw[aP];exact aW,(uh hJ).2.setCell (p:=⟨D,1+k,none⟩) cW _⟩;clear hF aP oT SB Xq aW cW hJ;go_wp2_with fail
      go_quiet (fail)
      go_wp2_with fail
      go_roundg m
      case rel=>exact⟨(m:Int)-1,by omega,by omega,by go_num,ab ⟨(uh HN).1.of_eq rfl,⟨(uh HN).2.os,(uh HN).2.tape,(uh HN).2.output,(uh HN).2.size,(uh HN).2.block⟩⟩⟩
      case measure=>omega
     .have d1:((cm:Int)==(ck:Int))=false:=(by simp;omega);rw[if_neg Xq]at aP;have HN:Hid (Bk wr D 260 (rR A ((yW f k).set k (N5 f k m)) (yR f k) 0 0)/\Below w.heap.size w wr):=ab ⟨by rw[aP];exact(uh hJ).1,(uh hJ).2⟩;clear hF aP oT SB Xq hJ;go_wp2_with fail
      go_quiet (fail)
      go_wp2_with fail
      go_roundg m
      case rel=>exact⟨(m:Int)-1,by omega,by omega,by go_num,ab ⟨(uh HN).1.of_eq rfl,⟨(uh HN).2.os,(uh HN).2.tape,(uh HN).2.output,(uh HN).2.size,(uh HN).2.block⟩⟩⟩
      case measure=>omega
  .have hd:decide ((k:Int)<(5:Int))=false:=(by simp;omega);have FP:k=5:=(by omega);subst FP;rw[show((5:Nat):Int)=(5:Int) from rfl];have hF:=(uh H).below (uh hI).2;have c6:=hF.c6;obtain⟨oa,oc,gw,-,-⟩:=am hF.ow;subst gw;have HL0:Hid (Bk wr D 260 (rR A (yW f 5) (yR f 5) ((f.ow.take 0).countP (λp=>decide (p.k=3))) ((f.ow.take 0).countP (λp=>!decide (p.k=3))))/\Below w.heap.size w wr):=ab ⟨(uh hI).1,(uh hI).2⟩;clear hF hI;go_wp2_with fail
   go_loopg [68] f.ow.length (λgn iv wx=>∃(m:Nat),m+gn=f.ow.length/\iv=.int .i64 m/\Hid (Bk wx D 260 (rR A (yW f 5) (yR f 5) ((f.ow.take m).countP (λp=>decide (p.k=3))) ((f.ow.take m).countP (λp=>!decide (p.k=3))))/\Below w.heap.size w wx))
   case atStart=>exact⟨0,by omega,rfl,HL0⟩
   case round =>
    clear HL0 c6;obtain⟨m,hmn,rfl,hI⟩:=hrel;obtain⟨G2,FB⟩:∃G2,G2=gk:=⟨_,rfl⟩;have hF:=(uh H).below (uh hI).2;by_cases fI:m<f.ow.length
    .have kY:decide ((m:Int)<(f.ow.length:Int))=true:=(by simp;omega);obtain⟨go,gc,oU,-,-⟩:=aE hF.ow fI;simp only[Value.slice.injEq,true_and]at oU;obtain⟨rfl,rfl⟩:=oU;obtain⟨y0,y1,y2⟩:=aB hF.ow fI;have EC:(f.ow.take (m+1)).countP (λp=>decide (p.k=3))=(f.ow.take m).countP (λp=>decide (p.k=3))+(if (f.ow.getD m ay).k=3 then 1 else 0):=by
      rw[take_add_one,getElem?_eq_getElem fI,countP_append,bX fI];by_cases e:f.ow[m].k=3 <;> simp[e]
     have vO:(f.ow.take (m+1)).countP (λp=>!decide (p.k=3))=(f.ow.take m).countP (λp=>!decide (p.k=3))+(if (f.ow.getD m ay).k=3 then 0 else 1):=by
      rw[take_add_one,getElem?_eq_getElem fI,countP_append,bX fI];by_cases e:f.ow[m].k=3 <;> simp[e]
     have hp1:(f.ow.take m).countP (λp=>decide (p.k=3))<=24:=zq3 countP_le_length (by rw[length_take];omega);have Mt:(f.ow.take m).countP (λp=>!decide (p.k=3))<=24:=zq3 countP_le_length (by rw[length_take];omega);obtain⟨p,hp⟩:∃p,p=f.ow.getD m ay:=⟨_,rfl⟩;rw[<-hp]at y0 y1 y2 EC vO;obtain⟨np,hnp⟩:∃np,np=(f.ow.take m).countP (λp=>decide (p.k=3)):=⟨_,rfl⟩;obtain⟨nl,jO⟩:∃nl,nl=(f.ow.take m).countP (λp=>!decide (p.k=3)):=⟨_,rfl⟩;rw[<-hnp]at hI EC hp1;rw[<-jO]at hI vO Mt;obtain⟨W1,d7⟩:∃W1,W1=wr.alloc (.cells #[Value.int .i64 p.k,.int .i64 p.l,.int .i64 p.r] 182):=⟨_,rfl⟩;have ce:Below wr.heap.size wr W1:=(by rw[d7];exact ah wr _);have mZ:Bk W1 wr.heap.size 182 [Value.int .i64 p.k,.int .i64 p.l,.int .i64 p.r]:=(by rw[d7];exact Bk.new wr _ _);obtain⟨X,gV⟩:∃X,X=wr.heap.size:=⟨_,rfl⟩;rw[<-gV]at mZ;have b0:=mZ.cell 0 rfl;have OH:=(uh hI).1.below ce;have qE:=(uh hI).2.trans (ce.mono (uh hI).2.size);have e11:=OH.cell 11 (Fj (n:=0) (fR f 5) (gE f 5)).2;have e12:=OH.cell 12 (Fi (n:=0) (fR f 5) (gE f 5)).2;have z11:=OH.frz 11;have z12:=OH.frz 12;have cW:w.heap.size<=D:=(by rw[uh HDe];exact zq4 _);have k1:(0:Int)<=(m:Int):=(by omega);have k2:(m:Int)<(f.ow.length:Int):=(by omega);by_cases Dg:p.k=3
     .have d3:((p.k:Int)==3)=true:=(by simp[Dg]);rw[if_pos Dg]at EC vO;have hs:=OH.set 11 (.int .i64 ((np+1:Nat):Int));rw[(Fj (fR f 5) (gE f 5)).1]at hs;rw[show((np+1:Nat):Int)=(np:Int)+1 by omega]at hs;have HN:Hid (Bk (W1.setCell ⟨D,11,none⟩ (.int .i64 ((np:Int)+1))) D 260 (rR A (yW f 5) (yR f 5) ((f.ow.take (m+1)).countP (λp=>decide (p.k=3))) ((f.ow.take (m+1)).countP (λp=>!decide (p.k=3))))/\Below w.heap.size w (W1.setCell ⟨D,11,none⟩ (.int .i64 ((np:Int)+1)))):=ab ⟨by rw[EC,vO];exact hs,qE.setCell (p:=⟨D,11,none⟩) cW _⟩;clear hF hI EC vO hp hnp jO ce mZ OH qE hs cW Dg;go_upto_region 16 with fail;rw[<-d7,<-gV];clear d7 gV;go_wp2_with fail
      go_roundg (G2-1)
      case rel=>exact⟨m+1,by omega,by go_num,HN⟩
      case measure=>omega
     .have d3:((p.k:Int)==3)=false:=(by simp;omega);rw[if_neg Dg]at EC vO;have hs:=OH.set 12 (.int .i64 ((nl+1:Nat):Int));rw[(Fi (fR f 5) (gE f 5)).1]at hs;rw[show((nl+1:Nat):Int)=(nl:Int)+1 by omega]at hs;have HN:Hid (Bk (W1.setCell ⟨D,12,none⟩ (.int .i64 ((nl:Int)+1))) D 260 (rR A (yW f 5) (yR f 5) ((f.ow.take (m+1)).countP (λp=>decide (p.k=3))) ((f.ow.take (m+1)).countP (λp=>!decide (p.k=3))))/\Below w.heap.size w (W1.setCell ⟨D,12,none⟩ (.int .i64 ((nl:Int)+1)))):=ab ⟨by rw[EC,vO];exact hs,qE.setCell (p:=⟨D,12,none⟩) cW _⟩;clear hF hI EC vO hp hnp jO ce mZ OH qE hs cW Dg;go_upto_region 16 with fail;rw[<-d7,<-gV];clear d7 gV;go_wp2_with fail
      go_roundg (G2-1)
      case rel=>exact⟨m+1,by omega,by go_num,HN⟩
      case measure=>omega
    .have kY:decide ((m:Int)<(f.ow.length:Int))=false:=(by simp;omega);have hte:f.ow.take m=f.ow:=take_of_length_le (by omega);rw[hte]at hI;have HN:=ab (zq2 (uh hI).1 hF);clear hF hte;go_wp2_with fail
     go_ret;exact⟨D,rfl,⟨(uh HN).1,(uh HN).2⟩,by rw[uh HDe];exact zq4 _,(uh hI).2⟩
end
theorem QO{f:CF}(h:aj f):QN f<=24:=zq3 countP_le_length h.owLen
theorem P3{f:CF}(h:aj f):Ve f<=24:=zq3 countP_le_length h.owLen
section
variable {w:World} {D A D' A':Nat} {s t:CF} {av ov av' ov':Value}
theorem rB.pt(h:rB w D A s av ov):w.cell? ⟨D,11,none⟩=some (.int .i64 (QN s:Nat)):=h.bk.cell 11 (Fj (n:=0) (fR s 5) (gE s 5)).2
theorem rB.li(h:rB w D A s av ov):w.cell? ⟨D,12,none⟩=some (.int .i64 (Ve s:Nat)):=h.bk.cell 12 (Fi (n:=0) (fR s 5) (gE s 5)).2
theorem aeI(f:CF){i:Nat}(hi:i<5):(yW f 5).getD i 0=CR f i/\(yR f 5).getD i 0=B9 f i:=by
 have:i=0\/i=1\/i=2\/i=3\/i=4:=by omega
 rcases this with rfl|rfl|rfl|rfl|rfl <;> exact⟨rfl,rfl⟩
theorem rB.eq(h:rB w D A s av ov){i:Nat}(hi:i<5):w.cell? ⟨D,1+i,none⟩=some (.int .i64 (CR s i:Nat)):=by
 have:=h.bk.cell (1+i) (Ao (fR s 5) (gE s 5) hi).1;rwa [(aeI s hi).1]at this
theorem rB.bg(h:rB w D A s av ov){i:Nat}(hi:i<5):w.cell? ⟨D,6+i,none⟩=some (.int .i64 (B9 s i:Nat)):=by
 have:=h.bk.cell (6+i) (Ao (fR s 5) (gE s 5) hi).2;rwa [(aeI s hi).2]at this
theorem rB.fo(h:rB w D A s av ov):w.cell? ⟨D,0,none⟩=some (.pointer (some ⟨A,0,none⟩)):=h.bk.cell 0 rfl
theorem rB.of_eq{w':World}(h:rB w D A s av ov)(he:∀k∈D::aG A av ov,w'.heap[k]?=w.heap[k]?):rB w' D A s av ov:=⟨h.bk.of_eq (he D (by simp)),h.ff.of_eq (λk hk=>he k (mem_cons_of_mem _ hk))⟩
theorem rB.lt(h:rB w D A s av ov):∀k∈D::aG A av ov,k<w.heap.size:=λk hk=>by
 rcases mem_cons.1 hk with rfl|hk
 .exact h.bk.lt
 .exact h.ff.lt k hk
theorem rB.below{w':World}(h:rB w D A s av ov)(hb:Below w.heap.size w w'):rB w' D A s av ov:=h.of_eq (λk hk=>hb.block k (h.lt k hk))
theorem C7(h:rB w D A s av ov)(h':rB w D' A' t av' ov')(hO:aj s)(ON:aj t):Calls prog 252 #[.pointer (some ⟨D,0,none⟩),.pointer (some ⟨D',0,none⟩)] w λe w'=>e=.returned (.bool (roB s t))/\∃n,w'=w.drewN n:=by
 have x1:=h.pt;have x2:=h.li;have y1:=h'.pt;have y2:=h'.li;have l1:=QO hO;have l2:=P3 hO;have l3:=QO ON;have l4:=P3 ON;obtain⟨R,hR⟩:∃R,R=roB s t:=⟨_,rfl⟩;rw[<-hR];unfold roB at hR;obtain⟨a,ha⟩:∃a,a=QN s:=⟨_,rfl⟩;obtain⟨b,hb⟩:∃b,b=Ve s:=⟨_,rfl⟩;obtain⟨c,hc⟩:∃c,c=QN t:=⟨_,rfl⟩;obtain⟨d,hd⟩:∃d,d=Ve t:=⟨_,rfl⟩;rw[<-ha]at x1 l1 hR;rw[<-hb]at x2 l2 hR;rw[<-hc]at y1 l3 hR;rw[<-hd]at y2 l4 hR;have q1:IntKind.i64.wrap ((c:Int)+(d:Int))=(c:Int)+(d:Int):=by rw[IntKind.wrap_i64];omega
 have q2:IntKind.i64.wrap ((a:Int)+(b:Int))=(a:Int)+(b:Int):=by rw[IntKind.wrap_i64];omega
 have HR:=ab hR;clear h h' hO ON ha hb hc hd hR;by_cases c1:a<c
 .have d1:decide ((a:Int)<(c:Int))=true:=by simp;omega
  have n1:decide (a<c)=true:=by simpa using c1
  have HE:Hid (R=false):=ab (by rw[uh HR];simp[c1]);clear c1;go_enter func252,ntmps252;go_upto_region 1 with fail;go_quiet (fail)
  go_wp2_with fail
  go_ret;exact⟨aC (uh HE).symm,_,rfl⟩
 .have d1:decide ((a:Int)<(c:Int))=false:=by simp;omega
  have n1:decide (a<c)=false:=by simpa using c1
  by_cases c2:a+b<c+d
  .have d2:decide ((a:Int)+(b:Int)<(c:Int)+(d:Int))=true:=(by simp;omega);have n2:decide (a+b<c+d)=true:=(by simpa using c2);have HE:Hid (R=false):=ab (by rw[uh HR];simp[c2]);clear c1 c2;go_enter func252,ntmps252;go_upto_region 1 with fail;go_quiet (fail)
   go_wp2_with fail
   go_ret;exact⟨aC (uh HE).symm,_,rfl⟩
  .have d2:decide ((a:Int)+(b:Int)<(c:Int)+(d:Int))=false:=(by simp;omega);have n2:decide (a+b<c+d)=false:=(by simpa using c2);have Th:Hid (R=(decide (0<d)||(decide (b=0)&&decide (a=c)))):=ab (by rw[uh HR];simp[c1,c2]);clear c1 c2;by_cases c3:0<d
   .have d3:decide ((0:Int)<(d:Int))=true:=(by simp;omega);have n3:decide (0<d)=true:=(by simpa using c3);have HE:Hid (R=true):=ab (by rw[uh Th];simp[c3]);clear c3;go_enter func252,ntmps252;go_upto_region 1 with fail;go_quiet (fail)
    go_wp2_with fail
    go_quiet (fail)
    go_wp2_with fail
    go_ret;exact⟨aC (uh HE).symm,_,drewN_drewN _ _ _⟩
   .have d3:decide ((0:Int)<(d:Int))=false:=(by simp;omega);have n3:decide (0<d)=false:=(by simpa using c3);by_cases c4:b=0
    .have d4:((b:Int)==0)=true:=(by simp[c4]);have HE:Hid (R=((a:Int)==(c:Int))):=ab (by rw[uh Th,bf];simp[c3,c4]);clear c3 c4;cases d5:((a:Int)==(c:Int))
     all_goals
      rw[d5]at HE;go_enter func252,ntmps252;go_upto_region 1 with fail;go_quiet (fail)
      go_wp2_with fail
      go_quiet (fail)
      go_wp2_with fail
      go_ret;exact⟨aC (uh HE).symm,_,drewN_drewN _ _ _⟩
    .have d4:((b:Int)==0)=false:=(by simp;omega);have HE:Hid (R=false):=ab (by rw[uh Th];simp[c3,c4]);clear c3 c4;go_enter func252,ntmps252;go_upto_region 1 with fail;go_quiet (fail)
     go_wp2_with fail
     go_quiet (fail)
     go_wp2_with fail
     go_ret;exact⟨aC (uh HE).symm,_,drewN_drewN _ _ _⟩
theorem I7{s t:CF}:SM s t=true↔∀i,i<5->I6 s t i=true:=by
 unfold SM;simp only[Bool.and_eq_true];constructor
 .rintro⟨⟨⟨⟨a,b⟩,c⟩,d⟩,e⟩ i hi;have:i=0\/i=1\/i=2\/i=3\/i=4:=by omega
  rcases this with rfl|rfl|rfl|rfl|rfl <;> assumption
 .intro h;exact⟨⟨⟨⟨h 0 (by omega),h 1 (by omega)⟩,h 2 (by omega)⟩,h 3 (by omega)⟩,h 4 (by omega)⟩
theorem aaU{s t:CF}{i:Nat}(hi:i<5)(h:I6 s t i=false):SM s t=false:=by
 cases hb:SM s t with
 |false=>rfl
 |true=>have:=I7.1 hb i hi;rw[h]at this;cases this
theorem yw(h:rB w D A s av ov)(h':rB w D' A' t av' ov'):Calls prog 253 #[.pointer (some ⟨D,0,none⟩),.pointer (some ⟨D',0,none⟩)] w λe w'=>e=.returned (.bool (SM s t))/\∃n,w'=w.drewN n:=by
 obtain⟨R,hR⟩:∃R,R=SM s t:=⟨_,rfl⟩;rw[<-hR];have HR:=ab hR;have H:=ab h;have H':=ab h';have cF:Hid ((∃n,w=w.drewN n)/\∀i,i<0->I6 s t i=true):=ab ⟨⟨0,rfl⟩,λi hi=>by omega⟩;clear h h' hR;go_enter func253,ntmps253;go_wp2_with fail
 go_loopw [5] (λiv wx=>∃(k:Nat),k<=5/\iv=.int .i64 k/\Hid ((∃n,wx=w.drewN n)/\∀i,i<k->I6 s t i=true)) (λiv _=>5-(intOf iv).toNat)
 case atStart=>exact⟨0,zq5 _,rfl,cF⟩
 case round =>
  clear cF;obtain⟨k,hk,rfl,hI⟩:=hrel;obtain⟨n0,si⟩:=(uh hI).1;subst si;by_cases au:k<5
  .have hd:decide ((k:Int)<(5:Int))=true:=(by simp;omega);have x1:=(uh H).eq au;have y1:=(uh H').eq au;have x2:=(uh H).bg au;have y2:=(uh H').bg au;have mI:=Zd t au;have x3:=(uh H).eq mI;have EE:I6 s t k=(decide (CR s (CR t k)=CR s k)&&!(decide (B9 t k=3)&&!decide (B9 s k=3))&&!(decide (B9 t k=4)&&decide (B9 s k=0))):=rfl;obtain⟨a,ha⟩:∃a,a=CR s k:=⟨_,rfl⟩;obtain⟨b,hb⟩:∃b,b=CR t k:=⟨_,rfl⟩;obtain⟨c,hc⟩:∃c,c=B9 s k:=⟨_,rfl⟩;obtain⟨d,Cn⟩:∃d,d=B9 t k:=⟨_,rfl⟩;rw[<-hb]at y1 mI x3 EE;obtain⟨e,he⟩:∃e,e=CR s b:=⟨_,rfl⟩;rw[<-ha]at x1 EE;rw[<-hc]at x2 EE;rw[<-Cn]at y2 EE;rw[<-he]at x3 EE;have HL:=ab EE;have HNo:Hid (I6 s t k=false->R=false):=ab (λh=>by rw[uh HR];exact aaU au h);have i1:(0:Int)<=(k:Int):=(by omega);have i2:(k:Int)<5:=(by omega);have i3:(0:Int)<=(b:Int):=(by omega);have i4:(b:Int)<5:=(by omega);clear EE ha hb hc Cn he;by_cases q1:e=a
   .have d1:((e:Int) != (a:Int))=false:=(by simp[q1]);by_cases q2:d=3
    .have d2:((d:Int)==3)=true:=(by simp[q2]);have d4:((d:Int)==4)=false:=(by simp[q2]);by_cases q3:c=3
     .have d3:((c:Int) != 3)=false:=(by simp[q3]);have HY:Hid (I6 s t k=true):=ab (by rw[uh HL];simp[q1,q2,q3]);clear q1 q2 q3;go_wp2_with fail
      go_quiet (fail)
      go_wp2_with fail
      go_roundw
      case rel=>exact⟨k+1,by omega,by go_num,ab ⟨⟨_,rfl⟩,λi hi=>by
       by_cases e:i=k
       .rw[e];exact uh HY
       .exact(uh hI).2 i (by omega)⟩⟩
      case measure=>simp[intOf];omega
     .have d3:((c:Int) != 3)=true:=(by rw[bne_iff_ne];omega);have HE:Hid (R=false):=ab (uh HNo (by rw[uh HL];simp[q1,q2,q3]));clear q1 q2 q3;go_wp2_with fail
      go_quiet (fail)
      go_wp2_with fail
      go_ret;exact⟨aC (uh HE).symm,_,rfl⟩
    .have d2:((d:Int)==3)=false:=(by simp;omega);by_cases q4:d=4
     .have d4:((d:Int)==4)=true:=(by simp[q4]);by_cases q5:c=0
      .have d5:((c:Int)==0)=true:=(by simp[q5]);have HE:Hid (R=false):=ab (uh HNo (by rw[uh HL];simp[q1,q4,q5]));clear q1 q2 q4 q5;go_wp2_with fail
       go_quiet (fail)
       go_wp2_with fail
       go_ret;exact⟨aC (uh HE).symm,_,rfl⟩
      .have d5:((c:Int)==0)=false:=(by simp;omega);have HY:Hid (I6 s t k=true):=ab (by rw[uh HL];simp[q1,q4,q5]);clear q1 q2 q4 q5;go_wp2_with fail
       go_quiet (fail)
       go_wp2_with fail
       go_roundw
       case rel=>exact⟨k+1,by omega,by go_num,ab ⟨⟨_,rfl⟩,λi hi=>by
        by_cases e:i=k
        .rw[e];exact uh HY
        .exact(uh hI).2 i (by omega)⟩⟩
       case measure=>simp[intOf];omega
     .have d4:((d:Int)==4)=false:=(by simp;omega);have HY:Hid (I6 s t k=true):=ab (by rw[uh HL];simp[q1,q2,q4]);clear q1 q2 q4;go_wp2_with fail
      go_quiet (fail)
      go_wp2_with fail
      go_roundw
      case rel=>exact⟨k+1,by omega,by go_num,ab ⟨⟨_,rfl⟩,λi hi=>by
       by_cases e:i=k
       .rw[e];exact uh HY
       .exact(uh hI).2 i (by omega)⟩⟩
      case measure=>simp[intOf];omega
   .have d1:((e:Int) != (a:Int))=true:=(by rw[bne_iff_ne];omega);have HE:Hid (R=false):=ab (uh HNo (by rw[uh HL];simp[q1]));clear q1;go_wp2_with fail
    go_quiet (fail)
    go_wp2_with fail
    go_ret;exact⟨aC (uh HE).symm,_,drewN_drewN _ _ _⟩
  .have hd:decide ((k:Int)<(5:Int))=false:=(by simp;omega);have HE:Hid (R=true):=ab (by rw[uh HR];exact I7.2 (λi hi=>(uh hI).2 i (by omega)));go_wp2_with fail
   go_ret;exact⟨aC (uh HE).symm,_,rfl⟩
end
def Sn(w:World)(q f t:Nat)(st:Int)(anc rest:List Value):Prop :=
 Ob w 202 55 q ([XZ f,XZ t]++(anc++rest))/\anc.length=24/\∃(mid:List Value) (vv ov uv pv:Value),rest=mid++[vv,ov,uv,pv,.int .i64 st]/\mid.length=24
theorem VV{a b:Value}{anc rest:List Value}{j:Nat}(hj:j<anc.length)(u:Value):([a,b]++(anc++rest)).set (2+j) u=[a,b]++(anc.set j u++rest):=by
 rw[set_append_right _ _ (by simp),show 2+j - [a,b].length=j by simp,set_append_left _ _ hj]
theorem Ub{a b:Value}{anc rest:List Value}{j:Nat}(hj:j<anc.length):([a,b]++(anc++rest))[2+j]?=anc[j]?:=by
 rw[getElem?_append_right (by simp),show 2+j - [a,b].length=j by simp,getElem?_append_left hj]
theorem Sn.set{w:World}{q f t:Nat}{st:Int}{anc rest:List Value}(h:Sn w q f t st anc rest){j:Nat}(hj:j<24)(u:Value):Sn (w.setCell ⟨q,2+j,none⟩ u) q f t st (anc.set j u) rest:=by
 obtain⟨h1,h2,h3⟩:=h;have:=h1.set (2+j) u;rw[VV (by omega)]at this;exact⟨this,by simpa using h2,h3⟩
theorem Sn.of_eq{w w':World}{q f t:Nat}{st:Int}{anc rest:List Value}(h:Sn w q f t st anc rest)(he:w'.heap[q]?=w.heap[q]?):Sn w' q f t st anc rest:=⟨h.1.of_eq he,h.2⟩
theorem Kb{anc:List Value}(h:anc.length=24)(ha:∀j,j<24->anc[j]?=some (.int .i64 (-1))):anc=a9 (replicate 24 none):=by
 apply ext_getElem?;intro j;by_cases hj:j<24
 .rw[ha j hj];unfold a9;rw[map_replicate,getElem?_replicate,if_pos hj];rfl
 .rw[getElem?_eq_none (by omega),getElem?_eq_none (by simp[a9];omega)]
theorem NQ{w:World}{q f t:Nat}{st:Int}{anc rest:List Value}{F T:CF}{fav fov tav tov:Value}(h:Sn w q f t st anc rest)(hF:eP w f F fav fov)(hT:eP w t T tav tov)(nf:∀k∈aG f fav fov,k≠q)(nt:∀k∈aG t tav tov,k≠q)(afo:∀i,i<5->T.cl.getD i 0<24):
  Calls prog 116 #[.pointer (some ⟨q,0,none⟩)] w λe w'=>e=.returned (.bool (Ap F T [0,1,2,3,4] (replicate 24 none)).isSome)/\(∀an,Ap F T [0,1,2,3,4] (replicate 24 none)=some an->Sq w' q f t an st)/\ar [q] w [q] w':=by
 have HS:=ab h;have HF:=ab hF;have HT:=ab hT;have HNf:=ab nf;have HNt:=ab nt;have aj2:=ab afo;clear h hF hT nf nt afo;go_enter func116,ntmps116;go_wp2_with fail
 go_loopw [3] (λi wr=>∃(k:Nat) (an:List Value),k<=24/\i=.int .i64 k/\Hid (Sn wr q f t st an rest)/\Hid (∀j,j<k->an[j]?=some (.int .i64 (-1)))/\Hid (ar [q] w [q] wr)) (λi _=>24-(intOf i).toNat)
 case atStart=>exact⟨0,anc,zq5 _,rfl,HS,ab (λj hj=>by omega),ab (ar.refl _ _)⟩
 case round =>
  obtain⟨k,an,hk,rfl,bT,hm,aP⟩:=hrel;by_cases au:k<24
  .have hd:decide ((k:Int)<24)=true:=(by simp;omega);obtain⟨⟨u,hu⟩,hz⟩:=(uh bT).1.some (j:=2+k) (by omega);have dg:=ab ((uh bT).set au (.int .i64 (-1)));have EX:Hid (∀j,j<k+1->(an.set k (.int .i64 (-1)))[j]?=some (.int .i64 (-1))):=ab (by
    intro j hj;have hl:=(uh bT).2.1;by_cases e:k=j
    .subst e;rw[getElem?_set_self (by omega)]
    .rw[getElem?_set_ne e];exact uh hm j (by omega))
   have Hb:=ab ((uh aP).setCell (p:=⟨q,2+k,none⟩) (zq0 (by simp)) (.int .i64 (-1)));go_wp2_with fail
   go_roundw
   case rel=>exact⟨k+1,_,by omega,by go_num,dg,EX,Hb⟩
   case measure=>simp[intOf];omega
  .have hd:decide ((k:Int)<24)=false:=(by simp;omega);have af5:k=24:=(by omega);subst af5;have sP:Hid (Sn wr q f t st (a9 (replicate 24 none)) rest):=ab (by
    have:=Kb (uh bT).2.1 (uh hm);rw[<-this];exact uh bT)
   go_wp2_with fail
   go_loopg [4] 5 (λgn i wr=>∃(k:Nat) (an:List (Option Nat)),k+gn=5/\i=.int .i64 k/\Hid (Sn wr q f t st (a9 an) rest)/\Hid (Ap F T ([0,1,2,3,4].drop k) an=Ap F T [0,1,2,3,4] (replicate 24 none))/\Hid (ar [q] w [q] wr))
   case atStart=>exact⟨0,_,by omega,rfl,sP,ab rfl,aP⟩
   case round =>
    obtain⟨k,an,hk,rfl,bY,nX,yt⟩:=hrel;by_cases b7:k<5
    .have kY:decide ((k:Int)<5)=true:=(by simp;omega);have iA:=λb hb aH=>(uh yt).block b hb (show b ∉ [q] by simpa using aH);have Un:=(uh HF).of_eq (λb hb=>iA b ((uh HF).lt b hb) (uh HNf b hb));have Xj:=(uh HT).of_eq (λb hb=>iA b ((uh HT).lt b hb) (uh HNt b hb));have hq0:wr.cell? ⟨q,0,none⟩=some (.pointer (some ⟨f,0,none⟩)):=(by rw[ownsRow.cellAt (uh bY).1 0 (by omega)];rfl);have hq1:wr.cell? ⟨q,1,none⟩=some (.pointer (some ⟨t,0,none⟩)):=(by rw[ownsRow.cellAt (uh bY).1 1 (by omega)];rfl);have hfc:=Un.cls (i:=k) b7;have htc:=Xj.cls (i:=k) b7;unfold gZ at hfc htc;have AA:=uh aj2 k b7;obtain⟨c,hc⟩:∃c,c=T.cl.getD k 0:=⟨_,rfl⟩;obtain⟨fk,O8⟩:∃fk,fk=F.cl.getD k 0:=⟨_,rfl⟩;rw[<-hc]at htc AA;rw[<-O8]at hfc;have m0:an.length=24:=(by have:=(uh bY).2.1;rw[aO]at this;exact this);have Mh:wr.cell? ⟨q,2+c,none⟩=some (.int .i64 (fU (an.getD c none))):=by
      rw[ownsRow.cellAt (uh bY).1 (2+c) (by omega),Ub (by rw[aO];omega)];have:c<an.length:=(by omega);simp[a9,this]
     have hzc:=ownsRow.frozenAt (uh bY).1 (2+c);obtain⟨o,ho⟩:∃o,o=an.getD c none:=⟨_,rfl⟩;rw[<-ho]at Mh;have fC:Ap F T ([0,1,2,3,4].drop k) an=if o≠none/\o≠some fk then none else Ap F T ([0,1,2,3,4].drop (k+1)) (an.set c (some fk)):=by
      have FP:k=0\/k=1\/k=2\/k=3\/k=4:=(by omega);have e:([0,1,2,3,4]:List Nat).drop k=k::([0,1,2,3,4]:List Nat).drop (k+1):=by
       rcases FP with rfl|rfl|rfl|rfl|rfl <;> rfl
      rw[e,Ap,<-hc,<-O8,<-ho]
     rw[uh nX]at fC;have kq:=ou o;have iT:=ab ((uh bY).set AA (.int .i64 (fk:Int)));have uY:Hid (Sn (wr.setCell ⟨q,2+c,none⟩ (.int .i64 (fk:Int))) q f t st (a9 (an.set c (some fk))) rest):=ab (by
      have:=uh iT;rw[show(a9 an).set c (.int .i64 (fk:Int))=a9 (an.set c (some fk)) by simp[a9,map_set,fU]]at this;exact this)
     have uZ:=ab ((uh yt).setCell (p:=⟨q,2+c,none⟩) (zq0 (by simp)) (.int .i64 (fk:Int)));have WN:=ab fC;clear fC hc O8 ho Un Xj iA iT sP;by_cases vM:o≠none/\o≠some fk
     .have zU:Hid (Ap F T [0,1,2,3,4] (replicate 24 none)=none):=ab (by rw[uh WN,if_pos vM]);cases o with
      |none=>exact absurd rfl vM.1
      |some b0 =>
       rw[show fU (some b0)=(b0:Int) from rfl]at Mh kq;rw[show(some b0).isSome=true from rfl]at kq;have xS:((b0:Int) != (fk:Int))=true:=by
        rw[bne_iff_ne];intro e;exact vM.2 (by rw[show b0=fk by omega])
       clear vM;go_wp2_with fail
       go_quiet (fail)
       go_wp2_with fail
       go_ret;refine⟨by rw[uh zU];rfl,λan' h=>?_,(uh yt).drewN _⟩;rw[uh zU]at h;cases h
     .have Yu:Hid (Ap F T ([0,1,2,3,4].drop (k+1)) (an.set c (some fk))=Ap F T [0,1,2,3,4] (replicate 24 none)):=ab (by rw[uh WN,if_neg vM]);cases o with
      |none =>
       rw[show fU none=(-1:Int) from rfl]at Mh;clear vM kq;go_wp2_with fail
       go_quiet (fail)
       go_wp2_with fail
       go_region
       go_wp2_with fail
       go_roundg (gk-1)
       case rel=>exact⟨k+1,_,by omega,by go_num,ab ((uh uY).of_eq rfl),Yu,ab ⟨(uh uZ).os,(uh uZ).tape,(uh uZ).output,(uh uZ).size,(uh uZ).block,(uh uZ).foot⟩⟩
       case measure=>omega
      |some b0 =>
       have tH:b0=fk:=Classical.byContradiction (λh=>vM ⟨by simp,by simpa using h⟩);rw[show fU (some b0)=(b0:Int) from rfl]at Mh kq;rw[show(some b0).isSome=true from rfl]at kq;have xS:((b0:Int) != (fk:Int))=false:=(by rw[tH];simp);clear vM tH;go_wp2_with fail
       go_quiet (fail)
       go_wp2_with fail
       go_region
       go_wp2_with fail
       go_roundg (gk-1)
       case rel=>exact⟨k+1,_,by omega,by go_num,ab ((uh uY).of_eq rfl),Yu,ab ⟨(uh uZ).os,(uh uZ).tape,(uh uZ).output,(uh uZ).size,(uh uZ).block,(uh uZ).foot⟩⟩
       case measure=>omega
    .have kY:decide ((k:Int)<5)=false:=(by simp;omega);have FP:k=5:=(by omega);subst FP;have zU:Hid (Ap F T [0,1,2,3,4] (replicate 24 none)=some an):=ab ((uh nX).symm);clear sP;go_wp2_with fail
     go_ret;refine⟨by rw[uh zU];rfl,λan' h=>?_,uh yt⟩;rw[uh zU]at h;cases h
     obtain⟨h1,h2,mid,vv,ov,uv,pv,h3,h4⟩:=uh bY;refine⟨mid,vv,ov,uv,pv,?_,h4,by rw[aO]at h2;exact h2⟩;rw[h3]at h1;exact h1
