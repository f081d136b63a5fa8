import Derived.Test.YtciihepbeacppaaGreatM17
set_option maxRecDepth 100000
set_option maxHeartbeats 0
namespace Go.Proofs.YtciihepbeacppaaGreat
open Tryz Go.RowKit List World Below
set_option linter.unusedVariables false
def N7(f:CF)(i k:Nat):Nat:=((List.range' k (i+1-k)).find? (λj=>f.cl.getD j 0==f.cl.getD i 0)).getD 0
theorem N8{f:CF}{i k:Nat}(hk:k<=i):N7 f i k=if f.cl.getD k 0=f.cl.getD i 0 then k else N7 f i (k+1):=by
 unfold N7;rw[show i+1-k=(i+1-(k+1))+1 by omega,range'_succ,find?_cons];by_cases h:f.cl.getD k 0=f.cl.getD i 0
 .rw[if_pos h];simp only[beq_iff_eq.2 h];rfl
 .rw[if_neg h];have:(f.cl.getD k 0==f.cl.getD i 0)=false:=by simpa using h
  rw[this]
theorem N9(f:CF)(i:Nat):N7 f i 0=CT f i:=by unfold N7 CT;rw[Nat.sub_zero,range_eq_range']
theorem TU(f:CF)(i:Nat):N7 f i (i+1)=0:=by unfold N7;simp
theorem Zf(f:CF){i:Nat}(hi:i<5):CT f i<5:=by
 unfold CT;cases h:(range (i+1)).find? (λk=>f.cl.getD k 0==f.cl.getD i 0) with
 |none=>decide
 |some j =>
  have:=mem_of_find?_eq_some h;rw[mem_range]at this;simp only[Option.getD_some];omega
def su(l:List Nat):List Value:=l.map (λn=>Value.int .i64 (n:Nat))
def rT(A:Nat)(es bs:List Nat)(pt li:Nat):List Value:=X3 A::(su es++(su bs++[.int .i64 (pt:Nat),.int .i64 (li:Nat)]))
def yZ(f:CF)(k:Nat):List Nat:=(range 5).map (λj=>if j<k then CT f j else 0)
def yU(f:CF)(k:Nat):List Nat:=(range 5).map (λj=>if j<k then Cc f j else 0)
theorem fS(f:CF)(k:Nat):(yZ f k).length=5:=by simp[yZ]
theorem gF(f:CF)(k:Nat):(yU f k).length=5:=by simp[yU]
theorem TW(f:CF){k:Nat}(hk:k<5):(yZ f k).set k (CT f k)=yZ f (k+1):=by
 have:k=0\/k=1\/k=2\/k=3\/k=4:=by omega
 rcases this with rfl|rfl|rfl|rfl|rfl <;> rfl
theorem TD(f:CF){k:Nat}(hk:k<5):(yU f k).set k (Cc f k)=yU f (k+1):=by
 have:k=0\/k=1\/k=2\/k=3\/k=4:=by omega
 rcases this with rfl|rfl|rfl|rfl|rfl <;> rfl
theorem TV(f:CF){k:Nat}(hk:k<5):(yZ f k).set k 0=yZ f k:=by
 have:k=0\/k=1\/k=2\/k=3\/k=4:=by omega
 rcases this with rfl|rfl|rfl|rfl|rfl <;> rfl
theorem TC(f:CF){k:Nat}(hk:k<5):(yU f k).set k 0=yU f k:=by
 have:k=0\/k=1\/k=2\/k=3\/k=4:=by omega
 rcases this with rfl|rfl|rfl|rfl|rfl <;> rfl
theorem aeI{A i n:Nat}{es bs:List Nat}{pt li:Nat}(he:es.length=5)(hi:i<5):(rT A es bs pt li).set (1+i) (.int .i64 (n:Nat))=rT A (es.set i n) bs pt li:=by
 unfold rT su;rw[Nat.add_comm,set_cons_succ,set_append_left _ _ (by simpa using by omega),map_set]
theorem aeH{A i n:Nat}{es bs:List Nat}{pt li:Nat}(he:es.length=5)(hb:bs.length=5)(hi:i<5):(rT A es bs pt li).set (6+i) (.int .i64 (n:Nat))=rT A es (bs.set i n) pt li:=by
 unfold rT su;rw[show 6+i=(5+i)+1 by omega,set_cons_succ,set_append_right _ _ (by simp;omega),set_append_left _ _ (by simp;omega),map_set];simp[he]
theorem Fo{A n:Nat}{es bs:List Nat}{pt li:Nat}(he:es.length=5)(hb:bs.length=5):(rT A es bs pt li).set 11 (.int .i64 (n:Nat))=rT A es bs n li/\(rT A es bs pt li)[11]?=some (.int .i64 (pt:Nat)):=by
 match es,he,bs,hb with
 |[a,b,c,d,e],_,[a',b',c',d',e'],_=>exact⟨rfl,rfl⟩
theorem Fk{A n:Nat}{es bs:List Nat}{pt li:Nat}(he:es.length=5)(hb:bs.length=5):(rT A es bs pt li).set 12 (.int .i64 (n:Nat))=rT A es bs pt n/\(rT A es bs pt li)[12]?=some (.int .i64 (li:Nat)):=by
 match es,he,bs,hb with
 |[a,b,c,d,e],_,[a',b',c',d',e'],_=>exact⟨rfl,rfl⟩
theorem Ar{A i:Nat}{es bs:List Nat}{pt li:Nat}(he:es.length=5)(hb:bs.length=5)(hi:i<5):(rT A es bs pt li)[1+i]?=some (.int .i64 ((es.getD i 0:Nat):Int))/\(rT A es bs pt li)[6+i]?=some (.int .i64 ((bs.getD i 0:Nat):Int)):=by
 match es,he,bs,hb with
 |[a,b,c,d,e],_,[a',b',c',d',e'],_ =>
  have:i=0\/i=1\/i=2\/i=3\/i=4:=by omega
  rcases this with rfl|rfl|rfl|rfl|rfl <;> exact⟨rfl,rfl⟩
structure rC(w:World)(D A:Nat)(f:CF)(av ov:Value):Prop where
 bk:Bk w D 260 (rT A (yZ f 5) (yU f 5) (QQ f) (Vg f))
 ff:eQ w A f av ov
section
variable {w:World} {A:Nat} {f:CF} {av ov:Value}
theorem NR(h:eQ w A f av ov)(hO:aj f):Calls prog 229 #[.pointer (some ⟨A,0,none⟩)] w λe w'=>∃D,e=.returned (.pointer (some ⟨D,0,none⟩))/\rC w' D A f av ov/\w.heap.size<=D/\Below w.heap.size w w':=by
 have iJ:=hO.owLen;obtain⟨W1,d9⟩:∃W1,W1=w.alloc (.cells #[X3 A,.int .i64 0,.int .i64 0,.int .i64 0,.int .i64 0,.int .i64 0,.int .i64 0,.int .i64 0,.int .i64 0,.int .i64 0,.int .i64 0,.int .i64 0,.int .i64 0] 260):=⟨_,rfl⟩;have bB:Below w.heap.size w W1:=by rw[d9];exact ah w _
 have hD:Bk W1 w.heap.size 260 (rT A (yZ f 0) (yU f 0) 0 0):=by rw[d9];exact Bk.new w _ _
 obtain⟨D,hDe⟩:∃D,D=w.heap.size:=⟨_,rfl⟩;rw[<-hDe]at hD;have cG:=ab (zq2 hD bB);have H:=ab h;have HO:=ab hO;have HDe:=ab hDe;have FB:∀k∈aG A av ov,k≠D:=λk hk=>by have:=h.lt k hk;omega
 have HAl:=ab FB;clear h hO hD bB FB;unfold X3 at d9;go_enter func229,ntmps229;go_upto_region 2 with fail;rw[<-d9,<-hDe];clear d9 hDe;go_wp2_with fail
 go_loopg [4] 5 (λgn iv wx=>∃(k:Nat),k+gn=5/\iv=.int .i64 k/\Hid (Bk wx D 260 (rT A (yZ f k) (yU f k) 0 0)/\Below w.heap.size w wx))
 case atStart=>exact⟨0,by omega,rfl,cG⟩
 case round =>
  clear cG;obtain⟨k,gw,rfl,hI⟩:=hrel;obtain⟨G,hG⟩:∃G,G=gk:=⟨_,rfl⟩;by_cases au:k<5
  .have hd:decide ((k:Int)<(5:Int))=true:=(by simp;omega);have oP:Hid (Bk wr D 260 (rT A ((yZ f k).set k (N7 f k (k+1))) (yU f k) 0 0)/\Below w.heap.size w wr):=ab ⟨by rw[TU,TV f au];exact(uh hI).1,(uh hI).2⟩;have i1:(0:Int)<=(k:Int):=(by omega);have i2:(k:Int)<(5:Int):=(by omega);clear hI;go_wp2_with fail
   go_loopg [5] (k+1) (λgn jv wx=>∃(z:Int),z+1=(gn:Int)/\gn<=k+1/\jv=.int .i64 z/\Hid (Bk wx D 260 (rT A ((yZ f k).set k (N7 f k gn)) (yU f k) 0 0)/\Below w.heap.size w wx))
   case atStart=>exact⟨(k:Int),by omega,zq4 _,rfl,oP⟩
   case round =>
    clear oP;obtain⟨z,hz,hgk,rfl,hJ⟩:=hrel;have hF:=(uh H).below (uh hJ).2;cases gk with
    |zero =>
     have gz:z=-1:=(by omega);subst gz;have hE:=(uh hJ).1;rw[N9,TW f au]at hE;have O6:=TC f au;have xk:=hF.cls (i:=k) (by omega);unfold hU at xk;have nX:Cc f k=match cE f.ow (f.cl.getD k 0) with|some j=>(owA f j).k|none=>0:=rfl
     obtain⟨ck,SD⟩:∃c,c=f.cl.getD k 0:=⟨_,rfl⟩;rw[<-SD]at xk nX;have mR:=ab (cP ck hF);have hg:=sF (cE f.ow ck);have iC:=hE;have cU:=TD f au;have cX:w.heap.size<=D:=(by rw[uh HDe];exact zq4 _);have d0:decide ((0:Int)<=-1)=false:=(by decide);cases hb:cE f.ow ck with
     |none =>
      rw[hb]at mR hg nX;have tK:Cc f k=0:=nX;rw[tK,O6]at cU;have HN:Hid (Bk wr D 260 (rT A (yZ f (k+1)) (yU f (k+1)) 0 0)/\Below w.heap.size w wr):=ab ⟨by rw[<-cU];exact hE,(uh hJ).2⟩;clear hF hE O6 nX SD iC cU cX hb tK hJ;go_wp2_with fail
      refine(uh mR).mono ?_;rintro e w3 ⟨rfl,rfl⟩;go_wp2_with fail
      go_roundg (G-1)
      case rel=>exact⟨k+1,by omega,by go_num,HN⟩
      case measure=>omega
     |some j =>
      rw[hb]at mR hg nX;have tK:Cc f k=(owA f j).k:=nX;obtain⟨fU,-⟩:=eU hb;have c6:=hF.c6;obtain⟨oa,oc,gy,-,-⟩:=am hF.ow;subst gy;obtain⟨go,gc,oW,-,-⟩:=aE hF.ow fU;simp only[Value.slice.injEq,true_and]at oW;obtain⟨rfl,rfl⟩:=oW;obtain⟨y0,-,-⟩:=aB hF.ow fU;obtain⟨kd,SG⟩:∃kd,kd=(f.ow.getD j ay).k:=⟨_,rfl⟩;rw[<-SG]at y0;have afA:Cc f k=kd:=(by rw[tK,SG];rfl);rw[afA]at cU;have gT:=hE.set (6+k) (.int .i64 (kd:Nat));rw[aeH (fS f (k+1)) (gF f k) au,cU]at gT;have y:=hE.cell (6+k) (Ar (fS f (k+1)) (gF f k) au).2;have zf:=hE.frz (6+k);have HN:Hid (Bk (wr.setCell ⟨D,6+k,none⟩ (.int .i64 (kd:Int))) D 260 (rT A (yZ f (k+1)) (yU f (k+1)) 0 0)/\Below w.heap.size w (wr.setCell ⟨D,6+k,none⟩ (.int .i64 (kd:Int)))):=ab ⟨gT,(uh hJ).2.setCell (p:=⟨D,6+k,none⟩) cX _⟩;rw[show fV (some j)=(j:Int) from rfl]at mR hg;have k1:(0:Int)<=(j:Int):=(by omega);have k2:(j:Int)<(f.ow.length:Int):=(by omega);clear hF hE O6 nX SD iC cU cX hb tK afA SG gT hJ;go_wp2_with fail
      refine(uh mR).mono ?_;rintro e w3 ⟨rfl,rfl⟩;go_wp2_with fail
      go_region
      go_wp2_with fail
      go_roundg (G-1)
      case rel=>exact⟨k+1,by omega,by go_num,ab ⟨(uh HN).1.of_eq rfl,⟨(uh HN).2.os,(uh HN).2.tape,(uh HN).2.output,(uh HN).2.size,(uh HN).2.block⟩⟩⟩
      case measure=>omega
    |succ m =>
     have hzm:z=(m:Int):=(by omega);subst hzm;have d0:decide ((0:Int)<=(m:Int))=true:=(by simp);have xm:=hF.cls (i:=m) (by omega);have xk:=hF.cls (i:=k) (by omega);unfold hU at xm xk;have aP:=N8 (f:=f) (i:=k) (k:=m) (by omega);obtain⟨cm,oU⟩:∃c,c=f.cl.getD m 0:=⟨_,rfl⟩;obtain⟨ck,SD⟩:∃c,c=f.cl.getD k 0:=⟨_,rfl⟩;rw[<-oU]at xm aP;rw[<-SD]at xk aP;have k1:(0:Int)<=(m:Int):=(by omega);have k2:(m:Int)<5:=(by omega);have hq0:IntKind.i64.wrap ((m:Int)-1)=(m:Int)-1:=(by rw[IntKind.wrap_i64];omega);by_cases Xs:cm=ck
     .have d1:((cm:Int)==(ck:Int))=true:=(by simp[Xs]);rw[if_pos Xs]at aP;have aW:=(uh hJ).1.set (1+k) (.int .i64 (m:Nat));rw[aeI (by rw[length_set,fS]) au,set_set]at aW;have y:=(uh hJ).1.cell (1+k) (Ar (by rw[length_set,fS]) (gF f k) au).1;have zf:=(uh hJ).1.frz (1+k);have cX:w.heap.size<=D:=(by rw[uh HDe];exact zq4 _);have HN:Hid (Bk (wr.setCell ⟨D,1+k,none⟩ (.int .i64 (m:Int))) D 260 (rT A ((yZ f k).set k (N7 f k m)) (yU f k) 0 0)/\Below w.heap.size w (wr.setCell ⟨D,1+k,none⟩ (.int .i64 (m:Int)))):=ab ⟨by rw[aP];exact aW,(uh hJ).2.setCell (p:=⟨D,1+k,none⟩) cX _⟩;clear hF aP oU SD Xs aW cX hJ;go_wp2_with fail
      go_quiet (fail)
      go_wp2_with fail
      go_roundg m
      case rel=>exact⟨(m:Int)-1,by omega,by omega,by go_num,ab ⟨(uh HN).1.of_eq rfl,⟨(uh HN).2.os,(uh HN).2.tape,(uh HN).2.output,(uh HN).2.size,(uh HN).2.block⟩⟩⟩
      case measure=>omega
     .have d1:((cm:Int)==(ck:Int))=false:=(by simp;omega);rw[if_neg Xs]at aP;have HN:Hid (Bk wr D 260 (rT A ((yZ f k).set k (N7 f k m)) (yU f k) 0 0)/\Below w.heap.size w wr):=ab ⟨by rw[aP];exact(uh hJ).1,(uh hJ).2⟩;clear hF aP oU SD Xs hJ;go_wp2_with fail
      go_quiet (fail)
      go_wp2_with fail
      go_roundg m
      case rel=>exact⟨(m:Int)-1,by omega,by omega,by go_num,ab ⟨(uh HN).1.of_eq rfl,⟨(uh HN).2.os,(uh HN).2.tape,(uh HN).2.output,(uh HN).2.size,(uh HN).2.block⟩⟩⟩
      case measure=>omega
  .have hd:decide ((k:Int)<(5:Int))=false:=(by simp;omega);have FT:k=5:=(by omega);subst FT;rw[show((5:Nat):Int)=(5:Int) from rfl];have hF:=(uh H).below (uh hI).2;have c6:=hF.c6;obtain⟨oa,oc,gy,-,-⟩:=am hF.ow;subst gy;have HL0:Hid (Bk wr D 260 (rT A (yZ f 5) (yU f 5) ((f.ow.take 0).countP (λp=>decide (p.k=3))) ((f.ow.take 0).countP (λp=>!decide (p.k=3))))/\Below w.heap.size w wr):=ab ⟨(uh hI).1,(uh hI).2⟩;clear hF hI;go_wp2_with fail
   go_loopg [68] f.ow.length (λgn iv wx=>∃(m:Nat),m+gn=f.ow.length/\iv=.int .i64 m/\Hid (Bk wx D 260 (rT A (yZ f 5) (yU f 5) ((f.ow.take m).countP (λp=>decide (p.k=3))) ((f.ow.take m).countP (λp=>!decide (p.k=3))))/\Below w.heap.size w wx))
   case atStart=>exact⟨0,by omega,rfl,HL0⟩
   case round =>
    clear HL0 c6;obtain⟨m,hmn,rfl,hI⟩:=hrel;obtain⟨G2,FD⟩:∃G2,G2=gk:=⟨_,rfl⟩;have hF:=(uh H).below (uh hI).2;by_cases fJ:m<f.ow.length
    .have k6:decide ((m:Int)<(f.ow.length:Int))=true:=(by simp;omega);obtain⟨go,gc,oW,-,-⟩:=aE hF.ow fJ;simp only[Value.slice.injEq,true_and]at oW;obtain⟨rfl,rfl⟩:=oW;obtain⟨y0,y1,y2⟩:=aB hF.ow fJ;have EE:(f.ow.take (m+1)).countP (λp=>decide (p.k=3))=(f.ow.take m).countP (λp=>decide (p.k=3))+(if (f.ow.getD m ay).k=3 then 1 else 0):=by
      rw[take_add_one,getElem?_eq_getElem fJ,countP_append,bY fJ];by_cases e:f.ow[m].k=3 <;> simp[e]
     have vS:(f.ow.take (m+1)).countP (λp=>!decide (p.k=3))=(f.ow.take m).countP (λp=>!decide (p.k=3))+(if (f.ow.getD m ay).k=3 then 0 else 1):=by
      rw[take_add_one,getElem?_eq_getElem fJ,countP_append,bY fJ];by_cases e:f.ow[m].k=3 <;> simp[e]
     have hp1:(f.ow.take m).countP (λp=>decide (p.k=3))<=24:=zq3 countP_le_length (by rw[length_take];omega);have Mv:(f.ow.take m).countP (λp=>!decide (p.k=3))<=24:=zq3 countP_le_length (by rw[length_take];omega);obtain⟨p,hp⟩:∃p,p=f.ow.getD m ay:=⟨_,rfl⟩;rw[<-hp]at y0 y1 y2 EE vS;obtain⟨np,hnp⟩:∃np,np=(f.ow.take m).countP (λp=>decide (p.k=3)):=⟨_,rfl⟩;obtain⟨nl,jQ⟩:∃nl,nl=(f.ow.take m).countP (λp=>!decide (p.k=3)):=⟨_,rfl⟩;rw[<-hnp]at hI EE hp1;rw[<-jQ]at hI vS Mv;obtain⟨W1,d9⟩:∃W1,W1=wr.alloc (.cells #[Value.int .i64 p.k,.int .i64 p.l,.int .i64 p.r] 182):=⟨_,rfl⟩;have cf:Below wr.heap.size wr W1:=(by rw[d9];exact ah wr _);have m0:Bk W1 wr.heap.size 182 [Value.int .i64 p.k,.int .i64 p.l,.int .i64 p.r]:=(by rw[d9];exact Bk.new wr _ _);obtain⟨X,gW⟩:∃X,X=wr.heap.size:=⟨_,rfl⟩;rw[<-gW]at m0;have b0:=m0.cell 0 rfl;have OJ:=(uh hI).1.below cf;have qE:=(uh hI).2.trans (cf.mono (uh hI).2.size);have e11:=OJ.cell 11 (Fo (n:=0) (fS f 5) (gF f 5)).2;have e12:=OJ.cell 12 (Fk (n:=0) (fS f 5) (gF f 5)).2;have z11:=OJ.frz 11;have z12:=OJ.frz 12;have cX:w.heap.size<=D:=(by rw[uh HDe];exact zq4 _);have k1:(0:Int)<=(m:Int):=(by omega);have k2:(m:Int)<(f.ow.length:Int):=(by omega);by_cases Di:p.k=3
     .have d3:((p.k:Int)==3)=true:=(by simp[Di]);rw[if_pos Di]at EE vS;have hs:=OJ.set 11 (.int .i64 ((np+1:Nat):Int));rw[(Fo (fS f 5) (gF f 5)).1]at hs;rw[show((np+1:Nat):Int)=(np:Int)+1 by omega]at hs;have HN:Hid (Bk (W1.setCell ⟨D,11,none⟩ (.int .i64 ((np:Int)+1))) D 260 (rT A (yZ f 5) (yU f 5) ((f.ow.take (m+1)).countP (λp=>decide (p.k=3))) ((f.ow.take (m+1)).countP (λp=>!decide (p.k=3))))/\Below w.heap.size w (W1.setCell ⟨D,11,none⟩ (.int .i64 ((np:Int)+1)))):=ab ⟨by rw[EE,vS];exact hs,qE.setCell (p:=⟨D,11,none⟩) cX _⟩;clear hF hI EE vS hp hnp jQ cf m0 OJ qE hs cX Di;go_upto_region 16 with fail;rw[<-d9,<-gW];clear d9 gW;go_wp2_with fail
      go_roundg (G2-1)
      case rel=>exact⟨m+1,by omega,by go_num,HN⟩
      case measure=>omega
     .have d3:((p.k:Int)==3)=false:=(by simp;omega);rw[if_neg Di]at EE vS;have hs:=OJ.set 12 (.int .i64 ((nl+1:Nat):Int));rw[(Fk (fS f 5) (gF f 5)).1]at hs;rw[show((nl+1:Nat):Int)=(nl:Int)+1 by omega]at hs;have HN:Hid (Bk (W1.setCell ⟨D,12,none⟩ (.int .i64 ((nl:Int)+1))) D 260 (rT A (yZ f 5) (yU f 5) ((f.ow.take (m+1)).countP (λp=>decide (p.k=3))) ((f.ow.take (m+1)).countP (λp=>!decide (p.k=3))))/\Below w.heap.size w (W1.setCell ⟨D,12,none⟩ (.int .i64 ((nl:Int)+1)))):=ab ⟨by rw[EE,vS];exact hs,qE.setCell (p:=⟨D,12,none⟩) cX _⟩;clear hF hI EE vS hp hnp jQ cf m0 OJ qE hs cX Di;go_upto_region 16 with fail;rw[<-d9,<-gW];clear d9 gW;go_wp2_with fail
      go_roundg (G2-1)
      case rel=>exact⟨m+1,by omega,by go_num,HN⟩
      case measure=>omega
    .have k6:decide ((m:Int)<(f.ow.length:Int))=false:=(by simp;omega);have hte:f.ow.take m=f.ow:=take_of_length_le (by omega);rw[hte]at hI;have HN:=ab (zq2 (uh hI).1 hF);clear hF hte;go_wp2_with fail
     go_ret;exact⟨D,rfl,⟨(uh HN).1,(uh HN).2⟩,by rw[uh HDe];exact zq4 _,(uh hI).2⟩
end
theorem QR{f:CF}(h:aj f):QQ f<=24:=zq3 countP_le_length h.owLen
theorem P5{f:CF}(h:aj f):Vg f<=24:=zq3 countP_le_length h.owLen
section
variable {w:World} {D A D' A':Nat} {s t:CF} {av ov av' ov':Value}
theorem rC.pt(h:rC w D A s av ov):w.cell? ⟨D,11,none⟩=some (.int .i64 (QQ s:Nat)):=h.bk.cell 11 (Fo (n:=0) (fS s 5) (gF s 5)).2
theorem rC.li(h:rC w D A s av ov):w.cell? ⟨D,12,none⟩=some (.int .i64 (Vg s:Nat)):=h.bk.cell 12 (Fk (n:=0) (fS s 5) (gF s 5)).2
theorem aeK(f:CF){i:Nat}(hi:i<5):(yZ f 5).getD i 0=CT f i/\(yU f 5).getD i 0=Cc f i:=by
 have:i=0\/i=1\/i=2\/i=3\/i=4:=by omega
 rcases this with rfl|rfl|rfl|rfl|rfl <;> exact⟨rfl,rfl⟩
theorem rC.eq(h:rC w D A s av ov){i:Nat}(hi:i<5):w.cell? ⟨D,1+i,none⟩=some (.int .i64 (CT s i:Nat)):=by
 have:=h.bk.cell (1+i) (Ar (fS s 5) (gF s 5) hi).1;rwa [(aeK s hi).1]at this
theorem rC.bg(h:rC w D A s av ov){i:Nat}(hi:i<5):w.cell? ⟨D,6+i,none⟩=some (.int .i64 (Cc s i:Nat)):=by
 have:=h.bk.cell (6+i) (Ar (fS s 5) (gF s 5) hi).2;rwa [(aeK s hi).2]at this
theorem rC.fo(h:rC w D A s av ov):w.cell? ⟨D,0,none⟩=some (.pointer (some ⟨A,0,none⟩)):=h.bk.cell 0 rfl
theorem rC.of_eq{w':World}(h:rC w D A s av ov)(he:∀k∈D::aG A av ov,w'.heap[k]?=w.heap[k]?):rC w' D A s av ov:=⟨h.bk.of_eq (he D (by simp)),h.ff.of_eq (λk hk=>he k (mem_cons_of_mem _ hk))⟩
theorem rC.lt(h:rC w D A s av ov):∀k∈D::aG A av ov,k<w.heap.size:=λk hk=>by
 rcases mem_cons.1 hk with rfl|hk
 .exact h.bk.lt
 .exact h.ff.lt k hk
theorem rC.below{w':World}(h:rC w D A s av ov)(hb:Below w.heap.size w w'):rC w' D A s av ov:=h.of_eq (λk hk=>hb.block k (h.lt k hk))
theorem C9(h:rC w D A s av ov)(h':rC w D' A' t av' ov')(hO:aj s)(OP:aj t):Calls prog 252 #[.pointer (some ⟨D,0,none⟩),.pointer (some ⟨D',0,none⟩)] w λe w'=>e=.returned (.bool (roB s t))/\∃n,w'=w.drewN n:=by
 have x1:=h.pt;have x2:=h.li;have y1:=h'.pt;have y2:=h'.li;have l1:=QR hO;have l2:=P5 hO;have l3:=QR OP;have l4:=P5 OP;obtain⟨R,hR⟩:∃R,R=roB s t:=⟨_,rfl⟩;rw[<-hR];unfold roB at hR;obtain⟨a,ha⟩:∃a,a=QQ s:=⟨_,rfl⟩;obtain⟨b,hb⟩:∃b,b=Vg s:=⟨_,rfl⟩;obtain⟨c,hc⟩:∃c,c=QQ t:=⟨_,rfl⟩;obtain⟨d,hd⟩:∃d,d=Vg t:=⟨_,rfl⟩;rw[<-ha]at x1 l1 hR;rw[<-hb]at x2 l2 hR;rw[<-hc]at y1 l3 hR;rw[<-hd]at y2 l4 hR;have q1:IntKind.i64.wrap ((c:Int)+(d:Int))=(c:Int)+(d:Int):=by rw[IntKind.wrap_i64];omega
 have q2:IntKind.i64.wrap ((a:Int)+(b:Int))=(a:Int)+(b:Int):=by rw[IntKind.wrap_i64];omega
 have HR:=ab hR;clear h h' hO OP ha hb hc hd hR;by_cases c1:a<c
 .have d1:decide ((a:Int)<(c:Int))=true:=by simp;omega
  have n1:decide (a<c)=true:=by simpa using c1
  have HE:Hid (R=false):=ab (by rw[uh HR];simp[c1]);clear c1;go_enter func252,ntmps252;go_upto_region 1 with fail;go_quiet (fail)
  go_wp2_with fail
  go_ret;exact⟨aC (uh HE).symm,_,rfl⟩
 .have d1:decide ((a:Int)<(c:Int))=false:=by simp;omega
  have n1:decide (a<c)=false:=by simpa using c1
  by_cases c2:a+b<c+d
  .have d2:decide ((a:Int)+(b:Int)<(c:Int)+(d:Int))=true:=(by simp;omega);have n2:decide (a+b<c+d)=true:=(by simpa using c2);have HE:Hid (R=false):=ab (by rw[uh HR];simp[c2]);clear c1 c2;go_enter func252,ntmps252;go_upto_region 1 with fail;go_quiet (fail)
   go_wp2_with fail
   go_ret;exact⟨aC (uh HE).symm,_,rfl⟩
  .have d2:decide ((a:Int)+(b:Int)<(c:Int)+(d:Int))=false:=(by simp;omega);have n2:decide (a+b<c+d)=false:=(by simpa using c2);have Tj:Hid (R=(decide (0<d)||(decide (b=0)&&decide (a=c)))):=ab (by rw[uh HR];simp[c1,c2]);clear c1 c2;by_cases c3:0<d
   .have d3:decide ((0:Int)<(d:Int))=true:=(by simp;omega);have n3:decide (0<d)=true:=(by simpa using c3);have HE:Hid (R=true):=ab (by rw[uh Tj];simp[c3]);clear c3;go_enter func252,ntmps252;go_upto_region 1 with fail;go_quiet (fail)
    go_wp2_with fail
    go_quiet (fail)
    go_wp2_with fail
    go_ret;exact⟨aC (uh HE).symm,_,drewN_drewN _ _ _⟩
   .have d3:decide ((0:Int)<(d:Int))=false:=(by simp;omega);have n3:decide (0<d)=false:=(by simpa using c3);by_cases c4:b=0
    .have d4:((b:Int)==0)=true:=(by simp[c4]);have HE:Hid (R=((a:Int)==(c:Int))):=ab (by rw[uh Tj,bh];simp[c3,c4]);clear c3 c4;cases d5:((a:Int)==(c:Int))
     all_goals
      rw[d5]at HE;go_enter func252,ntmps252;go_upto_region 1 with fail;go_quiet (fail)
      go_wp2_with fail
      go_quiet (fail)
      go_wp2_with fail
      go_ret;exact⟨aC (uh HE).symm,_,drewN_drewN _ _ _⟩
    .have d4:((b:Int)==0)=false:=(by simp;omega);have HE:Hid (R=false):=ab (by rw[uh Tj];simp[c3,c4]);clear c3 c4;go_enter func252,ntmps252;go_upto_region 1 with fail;go_quiet (fail)
     go_wp2_with fail
     go_quiet (fail)
     go_wp2_with fail
     go_ret;exact⟨aC (uh HE).symm,_,drewN_drewN _ _ _⟩
theorem I9{s t:CF}:SO s t=true↔∀i,i<5->I8 s t i=true:=by
 unfold SO;simp only[Bool.and_eq_true];constructor
 .rintro⟨⟨⟨⟨a,b⟩,c⟩,d⟩,e⟩ i hi;have:i=0\/i=1\/i=2\/i=3\/i=4:=by omega
  rcases this with rfl|rfl|rfl|rfl|rfl <;> assumption
 .intro h;exact⟨⟨⟨⟨h 0 (by omega),h 1 (by omega)⟩,h 2 (by omega)⟩,h 3 (by omega)⟩,h 4 (by omega)⟩
theorem aaW{s t:CF}{i:Nat}(hi:i<5)(h:I8 s t i=false):SO s t=false:=by
 cases hb:SO s t with
 |false=>rfl
 |true=>have:=I9.1 hb i hi;rw[h]at this;cases this
theorem yz(h:rC w D A s av ov)(h':rC w D' A' t av' ov'):Calls prog 253 #[.pointer (some ⟨D,0,none⟩),.pointer (some ⟨D',0,none⟩)] w λe w'=>e=.returned (.bool (SO s t))/\∃n,w'=w.drewN n:=by
 obtain⟨R,hR⟩:∃R,R=SO s t:=⟨_,rfl⟩;rw[<-hR];have HR:=ab hR;have H:=ab h;have H':=ab h';have cG:Hid ((∃n,w=w.drewN n)/\∀i,i<0->I8 s t i=true):=ab ⟨⟨0,rfl⟩,λi hi=>by omega⟩;clear h h' hR;go_enter func253,ntmps253;go_wp2_with fail
 go_loopw [5] (λiv wx=>∃(k:Nat),k<=5/\iv=.int .i64 k/\Hid ((∃n,wx=w.drewN n)/\∀i,i<k->I8 s t i=true)) (λiv _=>5-(intOf iv).toNat)
 case atStart=>exact⟨0,zq5 _,rfl,cG⟩
 case round =>
  clear cG;obtain⟨k,hk,rfl,hI⟩:=hrel;obtain⟨n0,sl⟩:=(uh hI).1;subst sl;by_cases au:k<5
  .have hd:decide ((k:Int)<(5:Int))=true:=(by simp;omega);have x1:=(uh H).eq au;have y1:=(uh H').eq au;have x2:=(uh H).bg au;have y2:=(uh H').bg au;have mJ:=Zf t au;have x3:=(uh H).eq mJ;have EG:I8 s t k=(decide (CT s (CT t k)=CT s k)&&!(decide (Cc t k=3)&&!decide (Cc s k=3))&&!(decide (Cc t k=4)&&decide (Cc s k=0))):=rfl;obtain⟨a,ha⟩:∃a,a=CT s k:=⟨_,rfl⟩;obtain⟨b,hb⟩:∃b,b=CT t k:=⟨_,rfl⟩;obtain⟨c,hc⟩:∃c,c=Cc s k:=⟨_,rfl⟩;obtain⟨d,Cr⟩:∃d,d=Cc t k:=⟨_,rfl⟩;rw[<-hb]at y1 mJ x3 EG;obtain⟨e,he⟩:∃e,e=CT s b:=⟨_,rfl⟩;rw[<-ha]at x1 EG;rw[<-hc]at x2 EG;rw[<-Cr]at y2 EG;rw[<-he]at x3 EG;have HL:=ab EG;have HNo:Hid (I8 s t k=false->R=false):=ab (λh=>by rw[uh HR];exact aaW au h);have i1:(0:Int)<=(k:Int):=(by omega);have i2:(k:Int)<5:=(by omega);have i3:(0:Int)<=(b:Int):=(by omega);have i4:(b:Int)<5:=(by omega);clear EG ha hb hc Cr he;by_cases q1:e=a
   .have d1:((e:Int) != (a:Int))=false:=(by simp[q1]);by_cases q2:d=3
    .have d2:((d:Int)==3)=true:=(by simp[q2]);have d4:((d:Int)==4)=false:=(by simp[q2]);by_cases q3:c=3
     .have d3:((c:Int) != 3)=false:=(by simp[q3]);have HY:Hid (I8 s t k=true):=ab (by rw[uh HL];simp[q1,q2,q3]);clear q1 q2 q3;go_wp2_with fail
      go_quiet (fail)
      go_wp2_with fail
      go_roundw
      case rel=>exact⟨k+1,by omega,by go_num,ab ⟨⟨_,rfl⟩,λi hi=>by
       by_cases e:i=k
       .rw[e];exact uh HY
       .exact(uh hI).2 i (by omega)⟩⟩
      case measure=>simp[intOf];omega
     .have d3:((c:Int) != 3)=true:=(by rw[bne_iff_ne];omega);have HE:Hid (R=false):=ab (uh HNo (by rw[uh HL];simp[q1,q2,q3]));clear q1 q2 q3;go_wp2_with fail
      go_quiet (fail)
      go_wp2_with fail
      go_ret;exact⟨aC (uh HE).symm,_,rfl⟩
    .have d2:((d:Int)==3)=false:=(by simp;omega);by_cases q4:d=4
     .have d4:((d:Int)==4)=true:=(by simp[q4]);by_cases q5:c=0
      .have d5:((c:Int)==0)=true:=(by simp[q5]);have HE:Hid (R=false):=ab (uh HNo (by rw[uh HL];simp[q1,q4,q5]));clear q1 q2 q4 q5;go_wp2_with fail
       go_quiet (fail)
       go_wp2_with fail
       go_ret;exact⟨aC (uh HE).symm,_,rfl⟩
      .have d5:((c:Int)==0)=false:=(by simp;omega);have HY:Hid (I8 s t k=true):=ab (by rw[uh HL];simp[q1,q4,q5]);clear q1 q2 q4 q5;go_wp2_with fail
       go_quiet (fail)
       go_wp2_with fail
       go_roundw
       case rel=>exact⟨k+1,by omega,by go_num,ab ⟨⟨_,rfl⟩,λi hi=>by
        by_cases e:i=k
        .rw[e];exact uh HY
        .exact(uh hI).2 i (by omega)⟩⟩
       case measure=>simp[intOf];omega
     .have d4:((d:Int)==4)=false:=(by simp;omega);have HY:Hid (I8 s t k=true):=ab (by rw[uh HL];simp[q1,q2,q4]);clear q1 q2 q4;go_wp2_with fail
      go_quiet (fail)
      go_wp2_with fail
      go_roundw
      case rel=>exact⟨k+1,by omega,by go_num,ab ⟨⟨_,rfl⟩,λi hi=>by
       by_cases e:i=k
       .rw[e];exact uh HY
       .exact(uh hI).2 i (by omega)⟩⟩
      case measure=>simp[intOf];omega
   .have d1:((e:Int) != (a:Int))=true:=(by rw[bne_iff_ne];omega);have HE:Hid (R=false):=ab (uh HNo (by rw[uh HL];simp[q1]));clear q1;go_wp2_with fail
    go_quiet (fail)
    go_wp2_with fail
    go_ret;exact⟨aC (uh HE).symm,_,drewN_drewN _ _ _⟩
  .have hd:decide ((k:Int)<(5:Int))=false:=(by simp;omega);have HE:Hid (R=true):=ab (by rw[uh HR];exact I9.2 (λi hi=>(uh hI).2 i (by omega)));go_wp2_with fail
   go_ret;exact⟨aC (uh HE).symm,_,rfl⟩
end
def Sn(w:World)(q f t:Nat)(st:Int)(anc rest:List Value):Prop :=
 Ob w 202 55 q ([X3 f,X3 t]++(anc++rest))/\anc.length=24/\∃(mid:List Value) (vv ov uv pv:Value),rest=mid++[vv,ov,uv,pv,.int .i64 st]/\mid.length=24
theorem VX{a b:Value}{anc rest:List Value}{j:Nat}(hj:j<anc.length)(u:Value):([a,b]++(anc++rest)).set (2+j) u=[a,b]++(anc.set j u++rest):=by
 rw[set_append_right _ _ (by simp),show 2+j - [a,b].length=j by simp,set_append_left _ _ hj]
theorem Ud{a b:Value}{anc rest:List Value}{j:Nat}(hj:j<anc.length):([a,b]++(anc++rest))[2+j]?=anc[j]?:=by
 rw[getElem?_append_right (by simp),show 2+j - [a,b].length=j by simp,getElem?_append_left hj]
theorem Sn.set{w:World}{q f t:Nat}{st:Int}{anc rest:List Value}(h:Sn w q f t st anc rest){j:Nat}(hj:j<24)(u:Value):Sn (w.setCell ⟨q,2+j,none⟩ u) q f t st (anc.set j u) rest:=by
 obtain⟨h1,h2,h3⟩:=h;have:=h1.set (2+j) u;rw[VX (by omega)]at this;exact⟨this,by simpa using h2,h3⟩
theorem Sn.of_eq{w w':World}{q f t:Nat}{st:Int}{anc rest:List Value}(h:Sn w q f t st anc rest)(he:w'.heap[q]?=w.heap[q]?):Sn w' q f t st anc rest:=⟨h.1.of_eq he,h.2⟩
theorem Ke{anc:List Value}(h:anc.length=24)(ha:∀j,j<24->anc[j]?=some (.int .i64 (-1))):anc=a9 (replicate 24 none):=by
 apply ext_getElem?;intro j;by_cases hj:j<24
 .rw[ha j hj];unfold a9;rw[map_replicate,getElem?_replicate,if_pos hj];rfl
 .rw[getElem?_eq_none (by omega),getElem?_eq_none (by simp[a9];omega)]
theorem NS{w:World}{q f t:Nat}{st:Int}{anc rest:List Value}{F T:CF}{fav fov tav tov:Value}(h:Sn w q f t st anc rest)(hF:eQ w f F fav fov)(hT:eQ w t T tav tov)(nf:∀k∈aG f fav fov,k≠q)(nt:∀k∈aG t tav tov,k≠q)(afq:∀i,i<5->T.cl.getD i 0<24):
  Calls prog 116 #[.pointer (some ⟨q,0,none⟩)] w λe w'=>e=.returned (.bool (As F T [0,1,2,3,4] (replicate 24 none)).isSome)/\(∀an,As F T [0,1,2,3,4] (replicate 24 none)=some an->Sq w' q f t an st)/\ar [q] w [q] w':=by
 have HS:=ab h;have HF:=ab hF;have HT:=ab hT;have HNf:=ab nf;have HNt:=ab nt;have aj4:=ab afq;clear h hF hT nf nt afq;go_enter func116,ntmps116;go_wp2_with fail
 go_loopw [3] (λi wr=>∃(k:Nat) (an:List Value),k<=24/\i=.int .i64 k/\Hid (Sn wr q f t st an rest)/\Hid (∀j,j<k->an[j]?=some (.int .i64 (-1)))/\Hid (ar [q] w [q] wr)) (λi _=>24-(intOf i).toNat)
 case atStart=>exact⟨0,anc,zq5 _,rfl,HS,ab (λj hj=>by omega),ab (ar.refl _ _)⟩
 case round =>
  obtain⟨k,an,hk,rfl,bU,hm,aP⟩:=hrel;by_cases au:k<24
  .have hd:decide ((k:Int)<24)=true:=(by simp;omega);obtain⟨⟨u,hu⟩,hz⟩:=(uh bU).1.some (j:=2+k) (by omega);have dh:=ab ((uh bU).set au (.int .i64 (-1)));have EZ:Hid (∀j,j<k+1->(an.set k (.int .i64 (-1)))[j]?=some (.int .i64 (-1))):=ab (by
    intro j hj;have hl:=(uh bU).2.1;by_cases e:k=j
    .subst e;rw[getElem?_set_self (by omega)]
    .rw[getElem?_set_ne e];exact uh hm j (by omega))
   have Hd:=ab ((uh aP).setCell (p:=⟨q,2+k,none⟩) (zq0 (by simp)) (.int .i64 (-1)));go_wp2_with fail
   go_roundw
   case rel=>exact⟨k+1,_,by omega,by go_num,dh,EZ,Hd⟩
   case measure=>simp[intOf];omega
  .have hd:decide ((k:Int)<24)=false:=(by simp;omega);have af7:k=24:=(by omega);subst af7;have sR:Hid (Sn wr q f t st (a9 (replicate 24 none)) rest):=ab (by
    have:=Ke (uh bU).2.1 (uh hm);rw[<-this];exact uh bU)
   go_wp2_with fail
   go_loopg [4] 5 (λgn i wr=>∃(k:Nat) (an:List (Option Nat)),k+gn=5/\i=.int .i64 k/\Hid (Sn wr q f t st (a9 an) rest)/\Hid (As F T ([0,1,2,3,4].drop k) an=As F T [0,1,2,3,4] (replicate 24 none))/\Hid (ar [q] w [q] wr))
   case atStart=>exact⟨0,_,by omega,rfl,sR,ab rfl,aP⟩
   case round =>
    obtain⟨k,an,hk,rfl,bZ,nY,yw⟩:=hrel;by_cases b8:k<5
    .have k6:decide ((k:Int)<5)=true:=(by simp;omega);have iC:=λb hb aH=>(uh yw).block b hb (show b ∉ [q] by simpa using aH);have Up:=(uh HF).of_eq (λb hb=>iC b ((uh HF).lt b hb) (uh HNf b hb));have Xl:=(uh HT).of_eq (λb hb=>iC b ((uh HT).lt b hb) (uh HNt b hb));have hq0:wr.cell? ⟨q,0,none⟩=some (.pointer (some ⟨f,0,none⟩)):=(by rw[ownsRow.cellAt (uh bZ).1 0 (by omega)];rfl);have hq1:wr.cell? ⟨q,1,none⟩=some (.pointer (some ⟨t,0,none⟩)):=(by rw[ownsRow.cellAt (uh bZ).1 1 (by omega)];rfl);have hfc:=Up.cls (i:=k) b8;have htc:=Xl.cls (i:=k) b8;unfold hU at hfc htc;have AD:=uh aj4 k b8;obtain⟨c,hc⟩:∃c,c=T.cl.getD k 0:=⟨_,rfl⟩;obtain⟨fk,Pb⟩:∃fk,fk=F.cl.getD k 0:=⟨_,rfl⟩;rw[<-hc]at htc AD;rw[<-Pb]at hfc;have m6:an.length=24:=(by have:=(uh bZ).2.1;rw[aO]at this;exact this);have Mj:wr.cell? ⟨q,2+c,none⟩=some (.int .i64 (fV (an.getD c none))):=by
      rw[ownsRow.cellAt (uh bZ).1 (2+c) (by omega),Ud (by rw[aO];omega)];have:c<an.length:=(by omega);simp[a9,this]
     have hzc:=ownsRow.frozenAt (uh bZ).1 (2+c);obtain⟨o,ho⟩:∃o,o=an.getD c none:=⟨_,rfl⟩;rw[<-ho]at Mj;have fD:As F T ([0,1,2,3,4].drop k) an=if o≠none/\o≠some fk then none else As F T ([0,1,2,3,4].drop (k+1)) (an.set c (some fk)):=by
      have FT:k=0\/k=1\/k=2\/k=3\/k=4:=(by omega);have e:([0,1,2,3,4]:List Nat).drop k=k::([0,1,2,3,4]:List Nat).drop (k+1):=by
       rcases FT with rfl|rfl|rfl|rfl|rfl <;> rfl
      rw[e,As,<-hc,<-Pb,<-ho]
     rw[uh nY]at fD;have ku:=oy o;have iV:=ab ((uh bZ).set AD (.int .i64 (fk:Int)));have vf:Hid (Sn (wr.setCell ⟨q,2+c,none⟩ (.int .i64 (fk:Int))) q f t st (a9 (an.set c (some fk))) rest):=ab (by
      have:=uh iV;rw[show(a9 an).set c (.int .i64 (fk:Int))=a9 (an.set c (some fk)) by simp[a9,map_set,fV]]at this;exact this)
     have vh:=ab ((uh yw).setCell (p:=⟨q,2+c,none⟩) (zq0 (by simp)) (.int .i64 (fk:Int)));have WP:=ab fD;clear fD hc Pb ho Up Xl iC iV sR;by_cases vP:o≠none/\o≠some fk
     .have zX:Hid (As F T [0,1,2,3,4] (replicate 24 none)=none):=ab (by rw[uh WP,if_pos vP]);cases o with
      |none=>exact absurd rfl vP.1
      |some b0 =>
       rw[show fV (some b0)=(b0:Int) from rfl]at Mj ku;rw[show(some b0).isSome=true from rfl]at ku;have xV:((b0:Int) != (fk:Int))=true:=by
        rw[bne_iff_ne];intro e;exact vP.2 (by rw[show b0=fk by omega])
       clear vP;go_wp2_with fail
       go_quiet (fail)
       go_wp2_with fail
       go_ret;refine⟨by rw[uh zX];rfl,λan' h=>?_,(uh yw).drewN _⟩;rw[uh zX]at h;cases h
     .have Yw:Hid (As F T ([0,1,2,3,4].drop (k+1)) (an.set c (some fk))=As F T [0,1,2,3,4] (replicate 24 none)):=ab (by rw[uh WP,if_neg vP]);cases o with
      |none =>
       rw[show fV none=(-1:Int) from rfl]at Mj;clear vP ku;go_wp2_with fail
       go_quiet (fail)
       go_wp2_with fail
       go_region
       go_wp2_with fail
       go_roundg (gk-1)
       case rel=>exact⟨k+1,_,by omega,by go_num,ab ((uh vf).of_eq rfl),Yw,ab ⟨(uh vh).os,(uh vh).tape,(uh vh).output,(uh vh).size,(uh vh).block,(uh vh).foot⟩⟩
       case measure=>omega
      |some b0 =>
       have tK:b0=fk:=Classical.byContradiction (λh=>vP ⟨by simp,by simpa using h⟩);rw[show fV (some b0)=(b0:Int) from rfl]at Mj ku;rw[show(some b0).isSome=true from rfl]at ku;have xV:((b0:Int) != (fk:Int))=false:=(by rw[tK];simp);clear vP tK;go_wp2_with fail
       go_quiet (fail)
       go_wp2_with fail
       go_region
       go_wp2_with fail
       go_roundg (gk-1)
       case rel=>exact⟨k+1,_,by omega,by go_num,ab ((uh vf).of_eq rfl),Yw,ab ⟨(uh vh).os,(uh vh).tape,(uh vh).output,(uh vh).size,(uh vh).block,(uh vh).foot⟩⟩
       case measure=>omega
    .have k6:decide ((k:Int)<5)=false:=(by simp;omega);have FT:k=5:=(by omega);subst FT;have zX:Hid (As F T [0,1,2,3,4] (replicate 24 none)=some an):=ab ((uh nY).symm);clear sR;go_wp2_with fail
     go_ret;refine⟨by rw[uh zX];rfl,λan' h=>?_,uh yw⟩;rw[uh zX]at h;cases h
     obtain⟨h1,h2,mid,vv,ov,uv,pv,h3,h4⟩:=uh bZ;refine⟨mid,vv,ov,uv,pv,?_,h4,by rw[aO]at h2;exact h2⟩;rw[h3]at h1;exact h1
