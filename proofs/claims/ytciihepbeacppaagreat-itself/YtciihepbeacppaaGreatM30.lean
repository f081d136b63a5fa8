import Derived.Test.YtciihepbeacppaaGreatM29
set_option maxRecDepth 100000
set_option maxHeartbeats 0
namespace Go.Proofs.YtciihepbeacppaaGreat
open Tryz Go.RowKit List World Below
set_option linter.unusedVariables false
def BC:List UInt8:=[65,66,67,68,69,70,71,72,73,74,75,76,77,78,79,80,81,82,83,84,85,86,87,88,89,90]
def iw(N:List (List UInt8)):List Value:=N.map (λl=>.string ⟨l.toArray⟩)
def naS(vs:List UInt8)(f:CF)(k:Nat)(N:List (List UInt8)):List (List UInt8):=N.set (f.cl.getD (1+k) 0) [vs.getD k 0]
def Ds(vs:List UInt8)(f:CF):Nat->List (List UInt8)->List (List UInt8)
 |0,N=>N
 |k+1,N=>Ds vs f k (naS vs f k N)
def q7(r:List (List UInt8) × Nat)(c:Nat):List (List UInt8) × Nat:=if r.1.getD c []=[] then (r.1.set c [BC.getD r.2 0],r.2+1) else r
def dx(vs:List UInt8)(f:CF):List (List UInt8):=((range 24).foldl q7 ((Ds vs f vs.length (replicate 24 [])).set (f.cl.getD 0 0) [110,105,108],0)).1
theorem mO{N:List (List UInt8)}{j:Nat}(h:j<N.length):(iw N)[j]?=some (.string ⟨(N.getD j []).toArray⟩):=by simp[iw,h]
theorem zS(N:List (List UInt8))(j:Nat)(l:List UInt8):(iw N).set j (.string ⟨l.toArray⟩)=iw (N.set j l):=by simp[iw,map_set]
theorem Hw(vs:List UInt8)(f:CF):∀(k:Nat) (N:List (List UInt8)),(Ds vs f k N).length=N.length
 |0,_=>rfl
 |k+1,N=>by unfold Ds;rw[Hw];simp[naS]
theorem grE:∀(n:Nat),n<26->(⟨#[65,66,67,68,69,70,71,72,73,74,75,76,77,78,79,80,81,82,83,84,85,86,87,88,89,90]⟩:ByteArray).extract n (n+1)=⟨[BC.getD n 0].toArray⟩
 |0,_=>by kernel_rfl
 |1,_=>by kernel_rfl
 |2,_=>by kernel_rfl
 |3,_=>by kernel_rfl
 |4,_=>by kernel_rfl
 |5,_=>by kernel_rfl
 |6,_=>by kernel_rfl
 |7,_=>by kernel_rfl
 |8,_=>by kernel_rfl
 |9,_=>by kernel_rfl
 |10,_=>by kernel_rfl
 |11,_=>by kernel_rfl
 |12,_=>by kernel_rfl
 |13,_=>by kernel_rfl
 |14,_=>by kernel_rfl
 |15,_=>by kernel_rfl
 |16,_=>by kernel_rfl
 |17,_=>by kernel_rfl
 |18,_=>by kernel_rfl
 |19,_=>by kernel_rfl
 |20,_=>by kernel_rfl
 |21,_=>by kernel_rfl
 |22,_=>by kernel_rfl
 |23,_=>by kernel_rfl
 |24,_=>by kernel_rfl
 |25,_=>by kernel_rfl
 |n+26,h=>absurd h (by omega)
theorem infoS24:(prog.info? 174).map (·.size)=some 24:=by kernel_rfl
section
variable {w:World} {A:Nat} {f:CF} {av ov lv:Value} {vs:List UInt8}
theorem Uh(h:dF w A f av ov)(hO:am f)(hl:w.ownsRow 0 5 1 lv vs.length (bc vs))(qp:vs.length<=4):Calls prog 100 #[.pointer (some ⟨A,0,none⟩),lv] w λe w'=>e=.returned (.agg (iw (dx vs f)).toArray)/\Below w.heap.size w w':=by
 obtain⟨la,lc,dX,-,-⟩:=aj hl;subst dX;obtain⟨W2,ey⟩:∃W2,W2=(w.alloc (.cells (iw (replicate 24 [])).toArray 174)).alloc (.cells (iw (replicate 24 [])).toArray 174):=⟨_,rfl⟩;have aL:Below w.heap.size w W2:=by rw[ey];exact(ah w _).trans ((ah (w.alloc _) _).mono (by simp))
 have Nh:Bk W2 (w.heap.size+1) 174 (iw (replicate 24 [])):=by
  rw[ey];have:=Bk.new (w.alloc (.cells (iw (replicate 24 [])).toArray 174)) 174 (iw (replicate 24 []));simpa using this
 have Az:Bk W2 w.heap.size 174 (iw (replicate 24 [])):=by rw[ey];exact(Bk.new w _ _).alloc _
 obtain⟨B,hB⟩:∃B,B=w.heap.size+1:=⟨_,rfl⟩;rw[<-hB]at Nh;have H:=ab h;have HO:=ab hO;have HL:=ab hl;have H2:=ab (zq2 aL (zq2 Nh Az));simp only[iw,replicate,map_cons,map_nil]at ey;clear h hO hl aL Nh Az;go_enter func100,ntmps100;go_upto_region 2 with fail;rw[<-hB,<-ey];have nO:=ab hB;clear ey hB;have nA:=(uh H).below (uh H2).1;have bX:Hid (Bk W2 B 174 (iw (replicate 24 []))/\Bk W2 w.heap.size 174 (iw (replicate 24 []))/\Below w.heap.size w W2/\(replicate 24 ([]:List UInt8)).length=24/\Ds vs f vs.length (replicate 24 [])=Ds vs f vs.length (replicate 24 [])):=ab ⟨(uh H2).2.1,(uh H2).2.2,(uh H2).1,length_replicate,rfl⟩;obtain⟨F1,jk⟩:∃F1,F1=Ds vs f vs.length (replicate 24 []):=⟨_,rfl⟩;have vO:=ab jk;have xF:IntKind.i64.wrap ((vs.length:Int)-1)=(vs.length:Int)-1:=by rw[IntKind.wrap_i64];omega
 clear nA jk;go_wp2_with fail
 go_loopg [6] vs.length (λgn iv wx=>∃(z:Int) (N:List (List UInt8)),z+1=(gn:Int)/\gn<=vs.length/\iv=.int .i64 z/\Hid (Bk wx B 174 (iw N)/\Bk wx w.heap.size 174 (iw (replicate 24 []))/\Below w.heap.size w wx/\N.length=24/\Ds vs f gn N=F1))
 case atStart=>exact⟨(vs.length:Int)-1,_,by omega,zq4 _,rfl,ab ⟨(uh H2).2.1,(uh H2).2.2,(uh H2).1,length_replicate,(uh vO).symm⟩⟩
 case round =>
  clear bX xF;obtain⟨z,N,hz,KU,rfl,hI⟩:=hrel;obtain⟨h1,h2,h3,h4,h5⟩:=uh hI;have hF:=(uh H).below h3;cases gk with
  |zero =>
   have ep:z=-1:=(by omega);subst ep;have hN:N=F1:=h5;subst hN;have x0:=hF.cls (i:=0) (by omega);unfold fH at x0;have kI:=(uh HO).get 0;have uj:dx vs f=((List.range' 0 (24-0)).foldl q7 (N.set (f.cl.getD 0 0) [110,105,108],0)).1:=(by unfold dx;rw[<-uh vO,range_eq_range']);obtain⟨cl,du⟩:∃cl,cl=f.cl.getD 0 0:=⟨_,rfl⟩;rw[<-du]at x0 kI uj;have bc0:=h1.cell cl (mO (by omega));have bz0:=h1.frz cl;have h6:=h1.set cl (.string ⟨([110,105,108]:List UInt8).toArray⟩);rw[zS]at h6;have S1:w.heap.size<=B:=(by have:=uh nO;omega);have V7:B≠w.heap.size:=(by have:=uh nO;omega);have dD:Hid (Bk (wr.setCell ⟨B,cl,none⟩ (.string ⟨#[110,105,108]⟩)) B 174 (iw (N.set cl [110,105,108]))/\Bk (wr.setCell ⟨B,cl,none⟩ (.string ⟨#[110,105,108]⟩)) w.heap.size 174 (iw (replicate 24 []))/\Below w.heap.size w (wr.setCell ⟨B,cl,none⟩ (.string ⟨#[110,105,108]⟩))/\(N.set cl [110,105,108]).length=24/\0<=0/\((List.range' 0 (24-0)).foldl q7 (N.set cl [110,105,108],0)).1=dx vs f):=ab ⟨h6,h2.setO (p:=⟨B,cl,none⟩) V7 _,h3.setCell (p:=⟨B,cl,none⟩) S1 _,by rw[length_set];exact h4,zq4 _,uj.symm⟩;have k6:(cl:Int)<24:=(by omega);have XF:Hid ((N.set cl [110,105,108]).length=24):=ab (by rw[length_set];exact h4);obtain⟨N1,pq⟩:∃N1,N1=N.set cl [110,105,108]:=⟨_,rfl⟩;rw[<-pq]at dD;clear hF h1 h2 h3 h4 h5 h6 hI uj du kI S1 V7 pq XF hz KU qp;go_wp2_with fail
   go_loopg [7,8] 24 (λgn hv iv wx=>∃(k hh:Nat) (N:List (List UInt8)),k+gn=24/\iv=.int .i64 k/\hv=.int .i64 hh/\Hid (Bk wx B 174 (iw N)/\Bk wx w.heap.size 174 (iw (replicate 24 []))/\Below w.heap.size w wx/\N.length=24/\hh<=k/\((List.range' k (24-k)).foldl q7 (N,hh)).1=dx vs f))
   case atStart=>exact⟨0,0,N1,by omega,rfl,rfl,dD⟩
   case round =>
    clear dD x0 bc0 bz0;obtain⟨k,hh,N,eV,rfl,rfl,hI⟩:=hrel;obtain⟨G2,BF⟩:∃G2,G2=gk:=⟨_,rfl⟩;obtain⟨h1,h2,h3,h4,h5,h6⟩:=uh hI;by_cases aq:k<24
    .have hd:decide ((k:Int)<(24:Int))=true:=(by simp;omega);have bcell:=h1.cell k (mO (by omega));have bfrz:=h1.frz k;have J1:List.range' k (24-k)=k::List.range' (k+1) (24-(k+1)):=(by rw[show 24-k=(24-(k+1))+1 by omega,range'_succ]);rw[J1,foldl_cons]at h6;have k1:(0:Int)<=(k:Int):=(by omega);have k2:(k:Int)<(24:Int):=(by omega);by_cases he:N.getD k []=[]
     .have e6:q7 (N,hh) k=(N.set k [BC.getD hh 0],hh+1):=(by unfold q7;rw[if_pos he]);rw[e6]at h6;have dE:(N.getD k []).isEmpty=true:=(by rw[he];rfl);obtain⟨b,hb⟩:∃b,b=BC.getD hh 0:=⟨_,rfl⟩;rw[<-hb]at h6;have g6:=h1.set k (.string ⟨[b].toArray⟩);rw[zS]at g6;have S1:w.heap.size<=B:=(by have:=uh nO;omega);have V7:B≠w.heap.size:=(by have:=uh nO;omega);have HN:=ab (zq2 g6 (zq2 (h2.setO (p:=⟨B,k,none⟩) V7 (.string ⟨[b].toArray⟩)) (zq2 (h3.setCell (p:=⟨B,k,none⟩) S1 (.string ⟨[b].toArray⟩)) (zq2 (show(N.set k [b]).length=24 by rw[length_set];exact h4) (zq2 (show hh+1<=k+1 by omega) h6)))));have m1:(0:Int)<=(hh:Int):=(by omega);have m2:(hh:Int)<=(hh:Int)+1:=(by omega);have m3:(hh:Int)+1<=26:=(by omega);have m4:hh<26:=(by omega);have Ad:Hid ((⟨#[65,66,67,68,69,70,71,72,73,74,75,76,77,78,79,80,81,82,83,84,85,86,87,88,89,90]⟩:ByteArray).extract hh (hh+1)=⟨[b].toArray⟩):=ab (by rw[hb];exact grE hh m4);rw[he]at bcell;clear h1 h2 h3 h4 h5 h6 g6 e6 he J1 hI S1 V7 hb;go_wp2_with fail
      go_roundg (G2-1)
      case rel=>exact⟨k+1,hh+1,N.set k [b],by omega,by go_num,by go_num,by rw[uh Ad];exact HN⟩
      case measure=>omega
     .have e6:q7 (N,hh) k=(N,hh):=(by unfold q7;rw[if_neg he]);rw[e6]at h6;have dE:(N.getD k []).isEmpty=false:=qU he;have HN:=ab (zq2 h1 (zq2 h2 (zq2 h3 (zq2 h4 (zq2 (show hh<=k+1 by omega) h6)))));obtain⟨nk,Q9⟩:∃nk,nk=N.getD k []:=⟨_,rfl⟩;rw[<-Q9]at bcell dE;clear h1 h2 h3 h4 h5 h6 e6 he J1 hI Q9;go_wp2_with fail
      go_roundg (G2-1)
      case rel=>exact⟨k+1,hh,N,by omega,by go_num,rfl,HN⟩
      case measure=>omega
    .have hd:decide ((k:Int)<(24:Int))=false:=(by simp;omega);have NY:24-k=0:=(by omega);rw[NY]at h6;have hNM:N=dx vs f:=h6;have dJ:(iw N).length=24:=(by simp[iw,h4]);obtain⟨M,hM⟩:∃M,M=iw N:=⟨_,rfl⟩;rw[<-hM]at dJ h1;have Ti:wr.rangeAt B 0 M:=λj v hj=>by rw[Nat.zero_add];exact h1.cell j hj
     have rZ:wr.there w.heap.size 0 M.toArray.size:=λj hj=>by
      rw[size_toArray,dJ]at hj;rw[Nat.zero_add];exact⟨by rw[h2.cell j (mO (by rw[length_replicate];exact hj))];rfl,h2.frz j⟩
     have df:(prog.info? 174).map (·.size)=some M.length:=(by rw[dJ];exact infoS24);have bP:(prog.info? 174).map (·.size)=some M.toArray.size:=(by rw[size_toArray,dJ];exact infoS24);have t0:M.toArray.all (·.oneCell')=true:=all_oneCell_toArray (by
      intro v hv;rw[hM]at hv;obtain⟨o,_,rfl⟩:=mem_map.1 hv;rfl)
     have Aw:∀(us:List Value) (o:Nat) (x:World),Below w.heap.size w x->Below w.heap.size w (x.setCells w.heap.size o us):=by
      intro us;induction us with
      |nil=>intro o x h;exact h
      |cons v r ih=>intro o x h;exact ih (o+1) _ (h.setCell (zq4 _) v)
     have HM:Hid (M=iw (dx vs f)):=ab (by rw[hM,hNM]);have HRg:=ab Ti;have sy:=ab rZ;have dD:=ab df;have dc:=ab bP;have DD:=ab t0;obtain⟨R0,Az⟩:∃R0,R0=w.heap.size:=⟨_,rfl⟩;have io:Hid (Below w.heap.size w (wr.setCells R0 0 M)):=ab (by rw[Az];exact Aw M 0 wr h3);rw[<-Az]at sy ⊢;have ru:=ab Az;clear Ti rZ df bP t0 Aw hM dJ h1 h2 h3 h4 h5 h6 hNM NY hI Az;go_wp2_with (first|refine wpList_load_mid rfl 174 (.tmp 5) rfl B 0 rfl M _ (uh HRg) underlying174 rfl (uh dD) ?_|refine wpList_store_mid rfl 174 (.tmp 4) (.tmp 55) rfl R0 0 M.toArray rfl rfl (uh sy) (uh dc) (uh DD) ?_)
     have Oq:(wr.setCells R0 0 M).rangeAt R0 0 M:=rangeAt_setCells_same wr R0 0 M (by simpa using uh sy);have hld:=run_loadVar_mid (P:=prog) (wr.setCells R0 0 M) R0 0 174 M _ Oq underlying174 rfl (uh dD);refine bodyPost_ret (v:=.agg M.toArray) ?_ rfl ⟨by rw[uh HM],uh io⟩;simp[results,Tryz.results100,Act.put,asAddr,hld]
  |succ m =>
   have hzm:z=(m:Int):=(by omega);subst hzm;have AB:m<4:=(by omega);have x0:=hF.cls (i:=1+m) (by omega);unfold fH at x0;have kI:=(uh HO).get (1+m);have aR:=dy (uh HL) h3;obtain⟨g,cap,cM,hgc,-⟩:=bM aR (by omega);simp only[Value.slice.injEq,true_and]at cM;obtain⟨rfl,rfl⟩:=cM;have y0:=aR.cellAt m (by omega);have hbv:(bc vs)[m]?=some (.int .u8 ((vs.getD m 0).toNat:Int)):=(by simp[bc,show m<vs.length by omega]);rw[hbv]at y0;have e5:Ds vs f m (N.set (f.cl.getD (1+m) 0) [vs.getD m 0])=F1:=h5;obtain⟨cl,du⟩:∃cl,cl=f.cl.getD (1+m) 0:=⟨_,rfl⟩;rw[<-du]at x0 kI e5;obtain⟨b,hb⟩:∃b,b=vs.getD m 0:=⟨_,rfl⟩;rw[<-hb]at y0 e5;have bc0:=h1.cell cl (mO (by omega));have bz0:=h1.frz cl;have h6:=h1.set cl (.string ⟨[b].toArray⟩);rw[zS]at h6;have S1:w.heap.size<=B:=(by have:=uh nO;omega);have V7:B≠w.heap.size:=(by have:=uh nO;omega);have HN:=ab (zq2 h6 (zq2 (h2.setO (p:=⟨B,cl,none⟩) V7 (.string ⟨[b].toArray⟩)) (zq2 (h3.setCell (p:=⟨B,cl,none⟩) S1 (.string ⟨[b].toArray⟩)) (zq2 (show(N.set cl [b]).length=24 by rw[length_set];exact h4) e5))));have k6:(cl:Int)<24:=(by omega);have wd:m=0\/m=1\/m=2\/m=3:=(by omega);clear hF aR hbv h1 h2 h3 h4 h5 h6 e5 du hb hI hz AB V7 kI S1;rcases wd with rfl|rfl|rfl|rfl
   .have x0:wr.cell? ⟨A,1,none⟩=some (.int .i64 (cl:Int)):=x0;have k2:(0:Int)<(vs.length:Int):=(by omega);have kc:(1:Int)<=(lc:Int):=(by omega);have NE:(convert 101 9 (.slice (some ⟨g,0,none⟩) 1 lc)).run prog wr.drew=.ok (.string ⟨[b].toArray⟩) wr.drew:=run_convert_bytes_back wr.drew 101 9 5 ⟨g,0,none⟩ lc [b] underlying101 underlying5 underlying9 (λj hj=>by
     have xC:j=0:=(by simpa using hj);subst xC;exact y0)
    rw[show(((0:Nat):Int))=(0:Int) from rfl];clear KU qp hgc;go_upto_region 6 with fail;go_region
    all_goals
     go_wp2_with fail
     go_roundg 0
     case rel=>exact⟨(0:Int)-1,_,by omega,by omega,by first|rfl|go_num,ab ⟨(uh HN).1.of_eq rfl,(uh HN).2.1.of_eq rfl,⟨(uh HN).2.2.1.os,(uh HN).2.2.1.tape,(uh HN).2.2.1.output,(uh HN).2.2.1.size,(uh HN).2.2.1.block⟩,(uh HN).2.2.2⟩⟩
     case measure=>omega
   .have x0:wr.cell? ⟨A,2,none⟩=some (.int .i64 (cl:Int)):=x0;have k2:(1:Int)<(vs.length:Int):=(by omega);have kc:(2:Int)<=(lc:Int):=(by omega);have NE:(convert 101 9 (.slice (some ⟨g,1,none⟩) 1 (lc-1))).run prog wr.drew=.ok (.string ⟨[b].toArray⟩) wr.drew:=run_convert_bytes_back wr.drew 101 9 5 ⟨g,1,none⟩ (lc-1) [b] underlying101 underlying5 underlying9 (λj hj=>by
     have xC:j=0:=(by simpa using hj);subst xC;exact y0)
    rw[show(((1:Nat):Int))=(1:Int) from rfl];clear KU qp hgc;go_upto_region 6 with fail;go_region
    all_goals
     go_wp2_with fail
     go_roundg 1
     case rel=>exact⟨(1:Int)-1,_,by omega,by omega,by first|rfl|go_num,ab ⟨(uh HN).1.of_eq rfl,(uh HN).2.1.of_eq rfl,⟨(uh HN).2.2.1.os,(uh HN).2.2.1.tape,(uh HN).2.2.1.output,(uh HN).2.2.1.size,(uh HN).2.2.1.block⟩,(uh HN).2.2.2⟩⟩
     case measure=>omega
   .have x0:wr.cell? ⟨A,3,none⟩=some (.int .i64 (cl:Int)):=x0;have k2:(2:Int)<(vs.length:Int):=(by omega);have kc:(3:Int)<=(lc:Int):=(by omega);have NE:(convert 101 9 (.slice (some ⟨g,2,none⟩) 1 (lc-2))).run prog wr.drew=.ok (.string ⟨[b].toArray⟩) wr.drew:=run_convert_bytes_back wr.drew 101 9 5 ⟨g,2,none⟩ (lc-2) [b] underlying101 underlying5 underlying9 (λj hj=>by
     have xC:j=0:=(by simpa using hj);subst xC;exact y0)
    rw[show(((2:Nat):Int))=(2:Int) from rfl];clear KU qp hgc;go_upto_region 6 with fail;go_region
    all_goals
     go_wp2_with fail
     go_roundg 2
     case rel=>exact⟨(2:Int)-1,_,by omega,by omega,by first|rfl|go_num,ab ⟨(uh HN).1.of_eq rfl,(uh HN).2.1.of_eq rfl,⟨(uh HN).2.2.1.os,(uh HN).2.2.1.tape,(uh HN).2.2.1.output,(uh HN).2.2.1.size,(uh HN).2.2.1.block⟩,(uh HN).2.2.2⟩⟩
     case measure=>omega
   .have x0:wr.cell? ⟨A,4,none⟩=some (.int .i64 (cl:Int)):=x0;have k2:(3:Int)<(vs.length:Int):=(by omega);have kc:(4:Int)<=(lc:Int):=(by omega);have NE:(convert 101 9 (.slice (some ⟨g,3,none⟩) 1 (lc-3))).run prog wr.drew=.ok (.string ⟨[b].toArray⟩) wr.drew:=run_convert_bytes_back wr.drew 101 9 5 ⟨g,3,none⟩ (lc-3) [b] underlying101 underlying5 underlying9 (λj hj=>by
     have xC:j=0:=(by simpa using hj);subst xC;exact y0)
    rw[show(((3:Nat):Int))=(3:Int) from rfl];clear KU qp hgc;go_upto_region 6 with fail;go_region
    all_goals
     go_wp2_with fail
     go_roundg 3
     case rel=>exact⟨(3:Int)-1,_,by omega,by omega,by first|rfl|go_num,ab ⟨(uh HN).1.of_eq rfl,(uh HN).2.1.of_eq rfl,⟨(uh HN).2.2.1.os,(uh HN).2.2.1.tape,(uh HN).2.2.1.output,(uh HN).2.2.1.size,(uh HN).2.2.1.block⟩,(uh HN).2.2.2⟩⟩
     case measure=>omega
end
def lC(a b:List UInt8):List UInt8:=a++[32,61,32]++b
def Jg(a b:List UInt8):List UInt8:=a++[32,45,62,32]++b
def Ho(a b:List UInt8):List UInt8:=[108,115,40]++a++[44]++b++[41]
def Fx(vs:List UInt8)(f:CF)(nm:List (List UInt8))(t:List UInt8)(i:Nat):List UInt8:=if nm.getD (f.cl.getD (1+i) 0) []=[vs.getD i 0] then t else rs t (lC [vs.getD i 0] (nm.getD (f.cl.getD (1+i) 0) []))
def KB(nm:List (List UInt8))(t:List UInt8)(p:Pr):List UInt8:=rs t (K8 (nm.getD p.l []) (nm.getD p.r []))
def KC(nm:List (List UInt8))(t:List UInt8)(p:Pr):List UInt8:=rs t (if p.k=4 then Ho (nm.getD p.l []) (nm.getD p.r []) else Jg (nm.getD p.l []) (nm.getD p.r []))
def wr3(vs:List UInt8)(f:CF):List UInt8:=f.ow.foldl (KC (dx vs f)) (f.ap.foldl (KB (dx vs f)) ((range vs.length).foldl (Fx vs f (dx vs f)) []))
def qe(vs:List UInt8)(f:CF):List UInt8:=if wr3 vs f=[] then [101,109,112] else wr3 vs f
theorem eqB(b:UInt8)(l:List UInt8):(⟨#[b]⟩++⟨#[32,61,32]⟩++⟨l.toArray⟩:ByteArray)=⟨(lC [b] l).toArray⟩:=by
 rw[show(⟨#[b]⟩:ByteArray)=⟨[b].toArray⟩ from rfl,show(⟨#[32,61,32]⟩:ByteArray)=⟨([32,61,32]:List UInt8).toArray⟩ from rfl,oY,oY];rfl
theorem lsB(a b:List UInt8):(⟨#[108,115,40]⟩++⟨a.toArray⟩++⟨#[44]⟩++⟨b.toArray⟩++⟨#[41]⟩:ByteArray)=⟨(Ho a b).toArray⟩:=by
 rw[show(⟨#[108,115,40]⟩:ByteArray)=⟨([108,115,40]:List UInt8).toArray⟩ from rfl,show(⟨#[44]⟩:ByteArray)=⟨([44]:List UInt8).toArray⟩ from rfl,show(⟨#[41]⟩:ByteArray)=⟨([41]:List UInt8).toArray⟩ from rfl,oY,oY,oY,oY];rfl
theorem arB(a b:List UInt8):(⟨a.toArray⟩++⟨#[32,45,62,32]⟩++⟨b.toArray⟩:ByteArray)=⟨(Jg a b).toArray⟩:=by
 rw[show(⟨#[32,45,62,32]⟩:ByteArray)=⟨([32,45,62,32]:List UInt8).toArray⟩ from rfl,oY,oY];rfl
theorem fN(t a:List UInt8):(rs t a).length<=t.length+3+a.length:=by unfold rs;split <;> simp <;> omega
theorem IR(a b:List UInt8):(K8 a b).length=a.length+b.length+4:=by unfold K8;split <;> simp <;> omega
def RO(N:List (List UInt8)):Prop:=N.length=24/\∀j,(N.getD j []).length<=3
theorem RO.set{N:List (List UInt8)}(h:RO N)(j:Nat){l:List UInt8}(hl:l.length<=3):RO (N.set j l):=by
 refine⟨by rw[length_set];exact h.1,λi=>?_⟩;rw[getD_eq_getElem?_getD,getElem?_set];split
 .split
  .exact hl
  .exact zq5 _
 .rw[<-getD_eq_getElem?_getD];exact h.2 i
theorem Hx(vs:List UInt8)(f:CF):∀(k:Nat) {N:List (List UInt8)},RO N->RO (Ds vs f k N)
 |0,_,h=>h
 |k+1,_,h=>Hx vs f k (h.set _ (by simp))
theorem Hy:∀(l:List Nat) {r:List (List UInt8) × Nat},RO r.1->RO (l.foldl q7 r).1
 |[],_,h=>h
 |c::l,r,h=>by
  rw[foldl_cons];refine Hy l ?_;unfold q7;split
  .exact h.set c (by simp)
  .exact h
theorem Hz(vs:List UInt8)(f:CF):RO (dx vs f):=by
 unfold dx;refine Hy _ (RO.set (Hx vs f _ ⟨by simp,λj=>?_⟩) _ (by simp));rw[getD_eq_getElem?_getD];by_cases hj:j<24
 .rw[getElem?_replicate,if_pos hj];exact zq5 _
 .rw[getElem?_eq_none (by rw[length_replicate];omega)];exact zq5 _
section
variable {w:World} {A:Nat} {f:CF} {av ov lv:Value} {vs:List UInt8}
theorem KD(h:dF w A f av ov)(hT:Td f)(hl:w.ownsRow 0 5 1 lv vs.length (bc vs))(qp:vs.length<=4):Calls prog 63 #[.pointer (some ⟨A,0,none⟩),lv] w λe w'=>e=.returned (.string ⟨(qe vs f).toArray⟩)/\Below w.heap.size w w':=by
 have HNA:=ab (Uh h hT.ok hl qp);obtain⟨la,lc,dX,hlc,-⟩:=aj hl;subst dX;have TJ:=Hz vs f;obtain⟨nm,uj⟩:∃nm,nm=dx vs f:=⟨_,rfl⟩;rw[<-uj]at HNA TJ;have H:=ab h;have HT:=ab hT;have HL:=ab hl;have Ll:=ab uj;have HSH:=ab TJ;have dJ:(iw nm).length=24:=by simp[iw,TJ.1]
 obtain⟨M,hM⟩:∃M,M=iw nm:=⟨_,rfl⟩;rw[<-hM]at HNA dJ;have HM:=ab hM;have HWT:Hid (qe vs f=if f.ow.foldl (KC nm) (f.ap.foldl (KB nm) ((range vs.length).foldl (Fx vs f nm) []))=[] then [101,109,112] else f.ow.foldl (KC nm) (f.ap.foldl (KB nm) ((range vs.length).foldl (Fx vs f nm) []))):=ab (by rw[uj];rfl);clear h hT hl uj TJ hM;go_enter func63,ntmps63;go_wp2_with fail
 refine(uh HNA).mono ?_;rintro e w1 ⟨rfl,a7⟩;have rZ:(w1.alloc (.cells (iw (replicate 24 [])).toArray 174)).there w1.heap.size 0 M.toArray.size:=λj hj=>by
  rw[size_toArray,dJ]at hj;rw[Nat.zero_add];have fq:=Bk.new w1 174 (iw (replicate 24 []));exact⟨by rw[fq.cell j (mO (by rw[length_replicate];exact hj))];rfl,fq.frz j⟩
 have bP:(prog.info? 174).map (·.size)=some M.toArray.size:=by rw[size_toArray,dJ];exact infoS24
 have t0:M.toArray.all (·.oneCell')=true:=all_oneCell_toArray (by
  intro v hv;rw[uh HM]at hv;obtain⟨o,_,rfl⟩:=mem_map.1 hv;rfl)
 have Aw:∀(us:List Value) (o:Nat) (x:World),Below w1.heap.size w1 x->Below w1.heap.size w1 (x.setCells w1.heap.size o us):=by
  intro us;induction us with
  |nil=>intro o x h;exact h
  |cons v r ih=>intro o x h;exact ih (o+1) _ (h.setCell (zq4 _) v)
 obtain⟨D,hD⟩:∃D,D=w1.heap.size:=⟨_,rfl⟩;obtain⟨W2,ey⟩:∃W2,W2=(w1.alloc (.cells (iw (replicate 24 [])).toArray 174)).setCells w1.heap.size 0 M:=⟨_,rfl⟩;have aL:Below w.heap.size w W2:=a7.trans ((by rw[ey];exact Aw M 0 _ (ah w1 _):Below w1.heap.size w1 W2).mono a7.size);have hrg:W2.rangeAt D 0 M:=by rw[ey,hD];exact rangeAt_setCells_same _ _ 0 M (by simpa using rZ)
 have S7:D<W2.heap.size:=by
  have h9:=(by rw[ey];exact Aw M 0 _ (ah w1 _):Below w1.heap.size w1 W2);have h8:0<M.length:=by omega
  have:=block_lt_of_cell? W2 ⟨D,0+0,none⟩ (hrg 0 M[0] (getElem?_eq_getElem h8));exact this
 have aw:∀j,j<24->W2.cell? ⟨D,j,none⟩=some (.string ⟨(nm.getD j []).toArray⟩):=λj hj=>by
  have h8:=hrg j _ (by rw[uh HM];exact mO (by rw[(uh HSH).1];exact hj));rw[Nat.zero_add]at h8;exact h8
 have sy:=ab rZ;have dc:=ab bP;have DD:=ab t0;have HC:=ab (zq2 aw (zq2 S7 aL));clear rZ bP t0 Aw hrg aw S7 aL a7 HNA;simp only[iw,replicate,map_cons,map_nil]at ey;go_upto_region 2 with(refine wpList_store_mid rfl 174 (.tmp 5) (.tmp 16) rfl _ 0 M.toArray rfl rfl (uh sy) (uh dc) (uh DD) ?_);rw[<-ey,<-hD];clear ey hD sy dc DD dJ;go_wp2_with fail
 go_loopg [6,7] vs.length (λgn tv iv wx=>∃(k:Nat) (T:List UInt8),k+gn=vs.length/\iv=.int .i64 k/\tv=.string ⟨T.toArray⟩/\Hid (wx=W2/\T=(range k).foldl (Fx vs f nm) []/\T.length<=20*k))
 case atStart=>exact⟨0,[],by omega,rfl,rfl,ab ⟨rfl,rfl,by simp⟩⟩
 case round =>
  obtain⟨k,T,eV,rfl,rfl,hI⟩:=hrel;obtain⟨G1,yJ⟩:∃G1,G1=gk:=⟨_,rfl⟩;obtain⟨hwr,yK,pw⟩:=uh hI;rw[hwr];clear hwr hI;by_cases aq:k<vs.length
  .have hd:decide ((k:Int)<(vs.length:Int))=true:=(by simp;omega);have hF:=(uh H).below (uh HC).2.2;have x0:=hF.cls (i:=1+k) (by omega);unfold fH at x0;have kI:=(uh HT).ok.get (1+k);have aR:=dy (uh HL) (uh HC).2.2;obtain⟨g,cap,cM,hgc,-⟩:=bM aR (by omega);simp only[Value.slice.injEq,true_and]at cM;obtain⟨rfl,rfl⟩:=cM;have y0:=aR.cellAt k (by omega);have hbv:(bc vs)[k]?=some (.int .u8 ((vs.getD k 0).toNat:Int)):=(by simp[bc,aq]);rw[hbv]at y0;have aE:(range (k+1)).foldl (Fx vs f nm) []=Fx vs f nm T k:=(by rw[range_succ,foldl_append,<-yK];rfl);have Cf:Fx vs f nm T k=if nm.getD (f.cl.getD (1+k) 0) []=[vs.getD k 0] then T else rs T (lC [vs.getD k 0] (nm.getD (f.cl.getD (1+k) 0) [])):=rfl
   obtain⟨cl,du⟩:∃cl,cl=f.cl.getD (1+k) 0:=⟨_,rfl⟩;obtain⟨b,hb⟩:∃b,b=vs.getD k 0:=⟨_,rfl⟩;rw[<-du]at x0 kI Cf;rw[<-hb]at y0 Cf;have n0:=(uh HC).1 cl kI;have fU:=(uh HSH).2 cl;obtain⟨nl,afX⟩:∃nl,nl=nm.getD cl []:=⟨_,rfl⟩;rw[<-afX]at n0 fU Cf;have AQ:Hid (nl=[b]->(range (k+1)).foldl (Fx vs f nm) []=T):=ab (λe=>by rw[aE,Cf,if_pos e]);have vQ:Hid (nl≠[b]->(range (k+1)).foldl (Fx vs f nm) []=rs T (lC [b] nl)):=ab (λe=>by rw[aE,Cf,if_neg e]);have VJ:=ab pw;have k6:(cl:Int)<24:=(by omega);have wd:k=0\/k=1\/k=2\/k=3:=(by omega);clear hF aR hbv aE Cf du hb afX yK kI hgc;rcases wd with rfl|rfl|rfl|rfl
   .have x0:W2.cell? ⟨A,1,none⟩=some (.int .i64 (cl:Int)):=x0;have k2:(0:Int)<(vs.length:Int):=(by omega);have kc:(1:Int)<=(lc:Int):=(by omega);have NE:(convert 101 9 (.slice (some ⟨g,0,none⟩) 1 lc)).run prog W2=.ok (.string ⟨[b].toArray⟩) W2:=run_convert_bytes_back W2 101 9 5 ⟨g,0,none⟩ lc [b] underlying101 underlying5 underlying9 (λj hj=>by
     have xC:j=0:=(by simpa using hj);subst xC;exact y0)
    rw[show(((0:Nat):Int))=(0:Int) from rfl];by_cases k8:nl=[b]
    .have e0:(nl==([b]:List UInt8))=true:=(by rw[beq_iff_eq];exact k8);have ku:=ab (uh AQ k8);clear k8;go_wp2_with fail
     go_roundg (G1-1)
     case rel=>exact⟨1,T,by omega,by go_num,rfl,ab ⟨rfl,(uh ku).symm,by have:=uh VJ;omega⟩⟩
     case measure=>omega
    .have e0:(nl==([b]:List UInt8))=false:=(by rw[beq_eq_false_iff_ne];exact k8);have ku:=ab (uh vQ k8);have tE:=ab (gu W2 T (lC [b] nl) (by omega) (by unfold lC;simp;omega));have C2:Hid ((rs T (lC [b] nl)).length<=20*(0+1)):=ab (by
      have h8:=fN T (lC [b] nl);have h9:(lC [b] nl).length<=7:=(by unfold lC;simp;omega);have:=uh VJ;omega)
     clear k8;go_wp2_with fail
     rw[eqB];refine(uh tE).mono ?_;rintro e' w9 ⟨rfl,rfl⟩;go_wp2_with fail
     go_roundg (G1-1)
     case rel=>exact⟨1,rs T (lC [b] nl),by omega,by go_num,rfl,ab ⟨rfl,(uh ku).symm,uh C2⟩⟩
     case measure=>omega
   .have x0:W2.cell? ⟨A,2,none⟩=some (.int .i64 (cl:Int)):=x0;have k2:(1:Int)<(vs.length:Int):=(by omega);have kc:(2:Int)<=(lc:Int):=(by omega);have NE:(convert 101 9 (.slice (some ⟨g,1,none⟩) 1 (lc-1))).run prog W2=.ok (.string ⟨[b].toArray⟩) W2:=run_convert_bytes_back W2 101 9 5 ⟨g,1,none⟩ (lc-1) [b] underlying101 underlying5 underlying9 (λj hj=>by
     have xC:j=0:=(by simpa using hj);subst xC;exact y0)
    rw[show(((1:Nat):Int))=(1:Int) from rfl];by_cases k8:nl=[b]
    .have e0:(nl==([b]:List UInt8))=true:=(by rw[beq_iff_eq];exact k8);have ku:=ab (uh AQ k8);clear k8;go_wp2_with fail
     go_roundg (G1-1)
     case rel=>exact⟨2,T,by omega,by go_num,rfl,ab ⟨rfl,(uh ku).symm,by have:=uh VJ;omega⟩⟩
     case measure=>omega
    .have e0:(nl==([b]:List UInt8))=false:=(by rw[beq_eq_false_iff_ne];exact k8);have ku:=ab (uh vQ k8);have tE:=ab (gu W2 T (lC [b] nl) (by omega) (by unfold lC;simp;omega));have C2:Hid ((rs T (lC [b] nl)).length<=20*(1+1)):=ab (by
      have h8:=fN T (lC [b] nl);have h9:(lC [b] nl).length<=7:=(by unfold lC;simp;omega);have:=uh VJ;omega)
     clear k8;go_wp2_with fail
     rw[eqB];refine(uh tE).mono ?_;rintro e' w9 ⟨rfl,rfl⟩;go_wp2_with fail
     go_roundg (G1-1)
     case rel=>exact⟨2,rs T (lC [b] nl),by omega,by go_num,rfl,ab ⟨rfl,(uh ku).symm,uh C2⟩⟩
     case measure=>omega
   .have x0:W2.cell? ⟨A,3,none⟩=some (.int .i64 (cl:Int)):=x0;have k2:(2:Int)<(vs.length:Int):=(by omega);have kc:(3:Int)<=(lc:Int):=(by omega);have NE:(convert 101 9 (.slice (some ⟨g,2,none⟩) 1 (lc-2))).run prog W2=.ok (.string ⟨[b].toArray⟩) W2:=run_convert_bytes_back W2 101 9 5 ⟨g,2,none⟩ (lc-2) [b] underlying101 underlying5 underlying9 (λj hj=>by
     have xC:j=0:=(by simpa using hj);subst xC;exact y0)
    rw[show(((2:Nat):Int))=(2:Int) from rfl];by_cases k8:nl=[b]
    .have e0:(nl==([b]:List UInt8))=true:=(by rw[beq_iff_eq];exact k8);have ku:=ab (uh AQ k8);clear k8;go_wp2_with fail
     go_roundg (G1-1)
     case rel=>exact⟨3,T,by omega,by go_num,rfl,ab ⟨rfl,(uh ku).symm,by have:=uh VJ;omega⟩⟩
     case measure=>omega
    .have e0:(nl==([b]:List UInt8))=false:=(by rw[beq_eq_false_iff_ne];exact k8);have ku:=ab (uh vQ k8);have tE:=ab (gu W2 T (lC [b] nl) (by omega) (by unfold lC;simp;omega));have C2:Hid ((rs T (lC [b] nl)).length<=20*(2+1)):=ab (by
      have h8:=fN T (lC [b] nl);have h9:(lC [b] nl).length<=7:=(by unfold lC;simp;omega);have:=uh VJ;omega)
     clear k8;go_wp2_with fail
     rw[eqB];refine(uh tE).mono ?_;rintro e' w9 ⟨rfl,rfl⟩;go_wp2_with fail
     go_roundg (G1-1)
     case rel=>exact⟨3,rs T (lC [b] nl),by omega,by go_num,rfl,ab ⟨rfl,(uh ku).symm,uh C2⟩⟩
     case measure=>omega
   .have x0:W2.cell? ⟨A,4,none⟩=some (.int .i64 (cl:Int)):=x0;have k2:(3:Int)<(vs.length:Int):=(by omega);have kc:(4:Int)<=(lc:Int):=(by omega);have NE:(convert 101 9 (.slice (some ⟨g,3,none⟩) 1 (lc-3))).run prog W2=.ok (.string ⟨[b].toArray⟩) W2:=run_convert_bytes_back W2 101 9 5 ⟨g,3,none⟩ (lc-3) [b] underlying101 underlying5 underlying9 (λj hj=>by
     have xC:j=0:=(by simpa using hj);subst xC;exact y0)
    rw[show(((3:Nat):Int))=(3:Int) from rfl];by_cases k8:nl=[b]
    .have e0:(nl==([b]:List UInt8))=true:=(by rw[beq_iff_eq];exact k8);have ku:=ab (uh AQ k8);clear k8;go_wp2_with fail
     go_roundg (G1-1)
     case rel=>exact⟨4,T,by omega,by go_num,rfl,ab ⟨rfl,(uh ku).symm,by have:=uh VJ;omega⟩⟩
     case measure=>omega
    .have e0:(nl==([b]:List UInt8))=false:=(by rw[beq_eq_false_iff_ne];exact k8);have ku:=ab (uh vQ k8);have tE:=ab (gu W2 T (lC [b] nl) (by omega) (by unfold lC;simp;omega));have C2:Hid ((rs T (lC [b] nl)).length<=20*(3+1)):=ab (by
      have h8:=fN T (lC [b] nl);have h9:(lC [b] nl).length<=7:=(by unfold lC;simp;omega);have:=uh VJ;omega)
     clear k8;go_wp2_with fail
     rw[eqB];refine(uh tE).mono ?_;rintro e' w9 ⟨rfl,rfl⟩;go_wp2_with fail
     go_roundg (G1-1)
     case rel=>exact⟨4,rs T (lC [b] nl),by omega,by go_num,rfl,ab ⟨rfl,(uh ku).symm,uh C2⟩⟩
     case measure=>omega
  .have hd:decide ((k:Int)<(vs.length:Int))=false:=(by simp;omega);have BX:k=vs.length:=(by omega);rw[BX]at yK pw;have hF:=(uh H).below (uh HC).2.2;have c5:=hF.c5;obtain⟨aa,ac,jO,-,-⟩:=aj hF.ap;subst jO;have jC:=(uh HT).ln;have gl:=(uh HT).ok.owLen;have Rk:=ab hF.ap;have bX:Hid (Below W2.heap.size W2 W2/\T=(f.ap.take 0).foldl (KB nm) T/\T.length<=100+20*0):=ab ⟨Below.refl _ _,rfl,by omega⟩;have mW:=ab yK;clear hF yK pw BX;go_wp2_with fail
   go_loopg [6,57] f.ap.length (λgn tv iv wx=>∃(j:Nat) (T2:List UInt8),j+gn=f.ap.length/\iv=.int .i64 j/\tv=.string ⟨T2.toArray⟩/\Hid (Below W2.heap.size W2 wx/\T2=(f.ap.take j).foldl (KB nm) T/\T2.length<=100+20*j))
   case atStart=>exact⟨0,T,by omega,rfl,rfl,bX⟩
   case round =>
    clear bX c5;obtain⟨j,T2,xD,rfl,rfl,hJ⟩:=hrel;obtain⟨G2,BF⟩:∃G2,G2=gk:=⟨_,rfl⟩;obtain⟨hb,yK,pw⟩:=uh hJ;by_cases bI:j<f.ap.length
    .have jb:decide ((j:Int)<(f.ap.length:Int))=true:=(by simp;omega);have aR:=dy (uh Rk) hb;obtain⟨go,gc,kK,-,-⟩:=az aR bI;simp only[Value.slice.injEq,true_and]at kK;obtain⟨rfl,rfl⟩:=kK;obtain⟨y0,y1,y2⟩:=ax aR bI;have eE:=(uh HT).ok.ap _ (aZ bI);have aE:(f.ap.take (j+1)).foldl (KB nm) T=KB nm T2 (f.ap.getD j au):=(by rw[take_succ_eq_append_getElem bI,foldl_append,<-yK,bK bI];rfl);obtain⟨p,hp⟩:∃p,p=f.ap.getD j au:=⟨_,rfl⟩;rw[<-hp]at y0 y1 y2 eE aE;obtain⟨pk,pl,pr⟩:=p;simp only at y0 y1 y2 eE;obtain⟨W5,k7⟩:∃W5,W5=wr.alloc (.cells #[Value.int .i64 pk,.int .i64 pl,.int .i64 pr] 182):=⟨_,rfl⟩;have bQ:Below wr.heap.size wr W5:=(by rw[k7];exact ah wr _);have iI:Bk W5 wr.heap.size 182 [Value.int .i64 pk,.int .i64 pl,.int .i64 pr]:=(by rw[k7];exact Bk.new wr _ _);obtain⟨Y,nB⟩:∃Y,Y=wr.heap.size:=⟨_,rfl⟩;rw[<-nB]at iI;have cD:=hb.trans (bQ.mono hb.size);have b1:=iI.cell 1 rfl;have b2:=iI.cell 2 rfl;have n1:=(cD.cell (uh HC).2.1).trans ((uh HC).1 pl eE.1);have n2:=(cD.cell (uh HC).2.1).trans ((uh HC).1 pr eE.2);have s1:=(uh HSH).2 pl;have s2:=(uh HSH).2 pr;have GU:KB nm T2 ⟨pk,pl,pr⟩=rs T2 (K8 (nm.getD pl []) (nm.getD pr [])):=rfl;obtain⟨nl,fU⟩:∃nl,nl=nm.getD pl []:=⟨_,rfl⟩;obtain⟨nr,hnr⟩:∃nr,nr=nm.getD pr []:=⟨_,rfl⟩;rw[<-fU]at n1 s1 GU;rw[<-hnr]at n2 s2 GU;have WN:=IR nl nr;obtain⟨un,hun⟩:∃un,un=K8 nl nr:=⟨_,rfl⟩;have HUN:Hid (∀m:Nat,Calls prog 102 #[.string ⟨nl.toArray⟩,.string ⟨nr.toArray⟩] (W5.drewN m) λe w'=>e=.returned (.string ⟨un.toArray⟩)/\∃j,w'=W5.drewN j):=ab (λm=>by rw[hun];exact(CU (W5.drewN m) nl nr (by omega) (by omega)).mono (λe w' hw=>⟨hw.1,m,hw.2⟩));rw[<-hun]at GU WN;obtain⟨T3,lH⟩:∃T3,T3=rs T2 un:=⟨_,rfl⟩;have tE:Hid (∀m:Nat,Calls prog 101 #[.string ⟨T2.toArray⟩,.string ⟨un.toArray⟩] (W5.drewN m) λe w'=>e=.returned (.string ⟨T3.toArray⟩)/\∃j,w'=W5.drewN j):=ab (λm=>by rw[lH];exact(gu (W5.drewN m) T2 un (by omega) (by omega)).mono (λe w' hw=>⟨hw.1,m,hw.2⟩));have HN:Hid (Below W2.heap.size W2 W5/\T3=(f.ap.take (j+1)).foldl (KB nm) T/\T3.length<=100+20*(j+1)):=ab ⟨cD,by rw[aE,GU,lH],by
      have:=fN T2 un;rw[lH];omega⟩
     have i1:(0:Int)<=(j:Int):=(by omega);have i2:(j:Int)<(f.ap.length:Int):=(by omega);have i3:(pl:Int)<24:=(by omega);have i4:(pr:Int)<24:=(by omega);clear aR aE hp bQ iI cD GU fU hnr hun lH hb yK hJ s1 s2 WN eE;go_upto_region 13 with fail;rw[<-k7,<-nB];clear k7 nB y0 y1 y2;go_quiet (first|(go_at_call 102;exact uh HUN _)|(go_at_call 101;exact uh tE _))
     go_wp2_with fail
     go_roundg (G2-1)
     case rel=>exact⟨j+1,T3,by omega,by go_num,rfl,ab ⟨⟨(uh HN).1.os,(uh HN).1.tape,(uh HN).1.output,(uh HN).1.size,(uh HN).1.block⟩,(uh HN).2⟩⟩
     case measure=>omega
    .have jb:decide ((j:Int)<(f.ap.length:Int))=false:=(by simp;omega);have hjv:j=f.ap.length:=(by omega);rw[hjv,take_length]at yK;rw[hjv]at pw;have hF:=(uh H).below ((uh HC).2.2.trans (hb.mono (uh HC).2.2.size));have c6:=hF.c6;obtain⟨oa,oc,d7,-,-⟩:=aj hF.ow;subst d7;have HOW:=ab hF.ow;have dD:Hid (Below W2.heap.size W2 wr/\T2=(f.ow.take 0).foldl (KC nm) T2/\T2.length<=100+20*f.ap.length+20*0):=ab ⟨hb,rfl,by omega⟩;have ku:=ab yK;have Lg:=ab hb;obtain⟨W3,Wi⟩:∃W3,W3=wr:=⟨_,rfl⟩;rw[<-Wi]at dD HOW c6 Lg ⊢;clear hF yK pw hjv hb hJ Wi;go_wp2_with fail
     go_loopg [6,78] f.ow.length (λgn tv iv wx=>∃(j:Nat) (T4:List UInt8),j+gn=f.ow.length/\iv=.int .i64 j/\tv=.string ⟨T4.toArray⟩/\Hid (Below W2.heap.size W2 wx/\Below W3.heap.size W3 wx/\T4=(f.ow.take j).foldl (KC nm) T2/\T4.length<=100+20*f.ap.length+20*j))
     case atStart=>exact⟨0,T2,by omega,rfl,rfl,ab ⟨(uh dD).1,Below.refl _ _,(uh dD).2⟩⟩
     case round =>
      clear dD c6;obtain⟨i,T4,oj,rfl,rfl,hJ⟩:=hrel;obtain⟨G3,hG3⟩:∃G3,G3=gk:=⟨_,rfl⟩;obtain⟨hb,cB,yK,pw⟩:=uh hJ;by_cases N6:i<f.ow.length
      .have Wo:decide ((i:Int)<(f.ow.length:Int))=true:=(by simp;omega);have aR:=dy (uh HOW) cB;obtain⟨go,gc,kK,-,-⟩:=az aR N6;simp only[Value.slice.injEq,true_and]at kK;obtain⟨rfl,rfl⟩:=kK;obtain⟨y0,y1,y2⟩:=ax aR N6;have eE:=(uh HT).ok.ow _ (aZ N6);have aE:(f.ow.take (i+1)).foldl (KC nm) T2=KC nm T4 (f.ow.getD i au):=(by rw[take_succ_eq_append_getElem N6,foldl_append,<-yK,bK N6];rfl);obtain⟨p,hp⟩:∃p,p=f.ow.getD i au:=⟨_,rfl⟩;rw[<-hp]at y0 y1 y2 eE aE;obtain⟨pk,pl,pr⟩:=p;simp only at y0 y1 y2 eE;obtain⟨W5,k7⟩:∃W5,W5=wr.alloc (.cells #[Value.int .i64 pk,.int .i64 pl,.int .i64 pr] 182):=⟨_,rfl⟩;have bQ:Below wr.heap.size wr W5:=(by rw[k7];exact ah wr _);have iI:Bk W5 wr.heap.size 182 [Value.int .i64 pk,.int .i64 pl,.int .i64 pr]:=(by rw[k7];exact Bk.new wr _ _);obtain⟨Y,nB⟩:∃Y,Y=wr.heap.size:=⟨_,rfl⟩;rw[<-nB]at iI;have cD:=hb.trans (bQ.mono hb.size);have To:=cB.trans (bQ.mono cB.size);have b0:=iI.cell 0 rfl;have b1:=iI.cell 1 rfl;have b2:=iI.cell 2 rfl;have n1:=(cD.cell (uh HC).2.1).trans ((uh HC).1 pl eE.1);have n2:=(cD.cell (uh HC).2.1).trans ((uh HC).1 pr eE.2);have s1:=(uh HSH).2 pl;have s2:=(uh HSH).2 pr;have GU:KC nm T4 ⟨pk,pl,pr⟩=rs T4 (if pk=4 then Ho (nm.getD pl []) (nm.getD pr []) else Jg (nm.getD pl []) (nm.getD pr [])):=rfl;obtain⟨nl,fU⟩:∃nl,nl=nm.getD pl []:=⟨_,rfl⟩;obtain⟨nr,hnr⟩:∃nr,nr=nm.getD pr []:=⟨_,rfl⟩;rw[<-fU]at n1 s1 GU;rw[<-hnr]at n2 s2 GU;have i1:(0:Int)<=(i:Int):=(by omega);have i2:(i:Int)<(f.ow.length:Int):=(by omega);have i3:(pl:Int)<24:=(by omega);have i4:(pr:Int)<24:=(by omega);have i5:(0:Int)<=(pl:Int):=(by omega);have i6:(0:Int)<=(pr:Int):=(by omega);by_cases hk:pk=4
       .have dk:decide ((pk:Int)=4)=true:=(by simp;omega);rw[if_pos hk]at GU;have HK:=ab hk;have WN:(Ho nl nr).length=nl.length+nr.length+5:=(by unfold Ho;simp;omega);obtain⟨T3,lH⟩:∃T3,T3=rs T4 (Ho nl nr):=⟨_,rfl⟩;have tE:Hid (∀m:Nat,Calls prog 101 #[.string ⟨T4.toArray⟩,.string (⟨#[108,115,40]⟩++⟨nl.toArray⟩++⟨#[44]⟩++⟨nr.toArray⟩++⟨#[41]⟩)] (W5.drewN m) λe w'=>e=.returned (.string ⟨T3.toArray⟩)/\∃j,w'=W5.drewN j):=ab (λm=>by rw[lH,lsB];exact(gu (W5.drewN m) T4 (Ho nl nr) (by omega) (by omega)).mono (λe w' hw=>⟨hw.1,m,hw.2⟩));have HN:Hid (Below W2.heap.size W2 W5/\Below W3.heap.size W3 W5/\T3=(f.ow.take (i+1)).foldl (KC nm) T2/\T3.length<=100+20*f.ap.length+20*(i+1)):=ab ⟨cD,To,by rw[aE,GU,lH],by
         have:=fN T4 (Ho nl nr);rw[lH];omega⟩
        have l1:¬ 9223372036854775807<3+nl.length:=(by omega);have l2:¬ 9223372036854775807<3+nl.length+1:=(by omega);have l3:¬ 9223372036854775807<3+nl.length+1+nr.length:=(by omega);have l4:¬ 9223372036854775807<3+nl.length+1+nr.length+1:=(by omega);clear aR aE hp bQ iI cD To GU fU hnr lH hb cB yK hJ s1 s2 WN eE hk;go_upto_region 18 with fail;rw[<-k7,<-nB];clear k7 nB y0 y1 y2;have Dn:(pk:Int)=4:=(by have:=uh HK;omega);go_wp2_with fail
        go_quiet (first|(go_at_call 101;exact uh tE _))
        go_wp2_with fail
        go_roundg (G3-1)
        case rel=>exact⟨i+1,T3,by omega,by go_num,rfl,ab ⟨⟨(uh HN).1.os,(uh HN).1.tape,(uh HN).1.output,(uh HN).1.size,(uh HN).1.block⟩,⟨(uh HN).2.1.os,(uh HN).2.1.tape,(uh HN).2.1.output,(uh HN).2.1.size,(uh HN).2.1.block⟩,(uh HN).2.2⟩⟩
        case measure=>omega
       .have dk:decide ((pk:Int)=4)=false:=(by simp;omega);rw[if_neg hk]at GU;have WN:(Jg nl nr).length=nl.length+nr.length+4:=(by unfold Jg;simp;omega);obtain⟨T3,lH⟩:∃T3,T3=rs T4 (Jg nl nr):=⟨_,rfl⟩;have tE:Hid (∀m:Nat,Calls prog 101 #[.string ⟨T4.toArray⟩,.string (⟨nl.toArray⟩++⟨#[32,45,62,32]⟩++⟨nr.toArray⟩)] (W5.drewN m) λe w'=>e=.returned (.string ⟨T3.toArray⟩)/\∃j,w'=W5.drewN j):=ab (λm=>by rw[lH,arB];exact(gu (W5.drewN m) T4 (Jg nl nr) (by omega) (by omega)).mono (λe w' hw=>⟨hw.1,m,hw.2⟩));have HN:Hid (Below W2.heap.size W2 W5/\Below W3.heap.size W3 W5/\T3=(f.ow.take (i+1)).foldl (KC nm) T2/\T3.length<=100+20*f.ap.length+20*(i+1)):=ab ⟨cD,To,by rw[aE,GU,lH],by
         have:=fN T4 (Jg nl nr);rw[lH];omega⟩
        have l1:¬ 9223372036854775807<nl.length+4:=(by omega);have l2:¬ 9223372036854775807<nl.length+4+nr.length:=(by omega);have Dn:¬ ((pk:Int)=4):=(by omega);clear aR aE hp bQ iI cD To GU fU hnr lH hb cB yK hJ s1 s2 WN eE;go_upto_region 18 with fail;rw[<-k7,<-nB];clear k7 nB y0 y1 y2;go_wp2_with fail
        go_quiet (first|(go_at_call 101;exact uh tE _))
        go_wp2_with fail
        go_roundg (G3-1)
        case rel=>exact⟨i+1,T3,by omega,by go_num,rfl,ab ⟨⟨(uh HN).1.os,(uh HN).1.tape,(uh HN).1.output,(uh HN).1.size,(uh HN).1.block⟩,⟨(uh HN).2.1.os,(uh HN).2.1.tape,(uh HN).2.1.output,(uh HN).2.1.size,(uh HN).2.1.block⟩,(uh HN).2.2⟩⟩
        case measure=>omega
      .have Wo:decide ((i:Int)<(f.ow.length:Int))=false:=(by simp;omega);have Q7:i=f.ow.length:=(by omega);rw[Q7,take_length]at yK;have hW:=uh HWT;rw[<-uh mW,<-uh ku,<-yK]at hW;have nO:Hid (Below w.heap.size w wr):=ab ((uh HC).2.2.trans (hb.mono (uh HC).2.2.size));by_cases he:T4=[]
       .have d0:T4.isEmpty=true:=(by rw[he];rfl);rw[if_pos he]at hW;have HW:=ab hW;clear hW he yK pw hb cB hJ Q7;go_wp2_with fail
        go_ret;exact⟨by rw[uh HW];rfl,uh nO⟩
       .have d0:=qU he;rw[if_neg he]at hW;have HW:=ab hW;clear hW he yK pw hb cB hJ Q7;go_wp2_with fail
        go_ret;exact⟨by rw[uh HW];rfl,uh nO⟩
end
theorem b9{x k:ByteArray}:bO x k=true↔x=k:=by
 constructor
 .intro h;have h1:x.toList=k.toList:=by simpa[bO] using h
  rw[ByteArray.toList_eq,ByteArray.toList_eq]at h1;obtain⟨⟨a⟩⟩:=x;obtain⟨⟨b⟩⟩:=k;simp only at h1;rw[h1]
 .rintro rfl;simp[bO]
theorem de{x k:ByteArray}(h:x≠k):bO x k=false:=by
 cases hk:bO x k with
 |false=>rfl
 |true=>exact absurd (b9.1 hk) h
theorem bt(k:ByteArray):bO k k=true:=b9.2 rfl
theorem kM{x k:ByteArray}(h:aX x=true)(hk:aX k=false):x≠k:=by
 rintro rfl;rw[h]at hk;cases hk
theorem aM{x k:ByteArray}(h:x.data.toList≠k.data.toList):x≠k:=λe=>h (by rw[e])
theorem aaM{k:ByteArray}{r q:List ByteArray}:E0 k r=some q↔r=k::q:=by
 rw[iW];exact⟨λ⟨x,hx,e⟩=>by rw[e,b9.1 hx],λe=>⟨k,bt k,e⟩⟩
theorem Pm(k:ByteArray)(q:List ByteArray):E0 k (k::q)=some q:=aaM.2 rfl
def IW(l:List ByteArray):Prop :=
 ∀R:List ByteArray->Prop,R [cJ]->(∀{a b c:ByteArray},aX a=true->(b=bV\/b=dN)->(c=fy\/aX c=true)->R [a,b,c])->R l
theorem IW.star:IW [cJ]:=λ_ h _=>h
theorem IW.two{a b c:ByteArray}(ha:aX a=true)(hb:b=bV\/b=dN)(hc:c=fy\/aX c=true):IW [a,b,c]:=λ_ _ h=>h ha hb hc
theorem IW.ind {motive:(l:List ByteArray)->IW l->Prop} (star:motive [cJ] IW.star)
  (two:∀{a b c:ByteArray} (ha:aX a=true) (hb:b=bV\/b=dN) (hc:c=fy\/aX c=true),motive [a,b,c] (IW.two ha hb hc)) {l:List ByteArray} (h:IW l):motive l h:=by
 obtain⟨_,h2⟩:=h (λl=>∃h,motive l h) ⟨_,star⟩ (λha hb hc=>⟨_,two ha hb hc⟩);exact h2
theorem aiD{l:List ByteArray}:rcB l=true↔IW l:=by
 constructor
 .intro h;match l,h with
  |[a],h=>rw[b9.1 (show bO a cJ=true from h)];exact IW.star
  |[a,b,c],h =>
   simp only[rcB,Bool.and_eq_true,Bool.or_eq_true,b9]at h;exact IW.two h.1.1 h.2 (h.1.2.symm)
 .intro h;cases h using IW.ind with
  |star=>exact bt _
  |two ha hb hc=>simp only[rcB,Bool.and_eq_true,Bool.or_eq_true,b9];exact⟨⟨ha,hc.symm⟩,hb⟩
def wN(l:List ByteArray):Prop :=
 ∀R:List ByteArray->Prop,R [IA]->(∀{b:ByteArray},aX b=true->R [Gx,b])->(∀{a c:ByteArray},aX a=true->(c=Uk\/c=fy\/aX c=true)->R [a,bV,c]) ->
  (∀{a c:ByteArray},aX a=true->aX c=true->R [a,bV,c,iE,nW])->(∀{a e:ByteArray},aX a=true->(e=fy\/aX e=true)->R [a,iE,nW,bV,e])->R l
theorem wN.skip:wN [IA]:=λ_ h _ _ _ _=>h
theorem wN.free{b:ByteArray}(hb:aX b=true):wN [Gx,b]:=λ_ _ h _ _ _=>h hb
theorem wN.val{a c:ByteArray}(ha:aX a=true)(hc:c=Uk\/c=fy\/aX c=true):wN [a,bV,c]:=λ_ _ _ h _ _=>h ha hc
theorem wN.load{a c:ByteArray}(ha:aX a=true)(hc:aX c=true):wN [a,bV,c,iE,nW]:=λ_ _ _ _ h _=>h ha hc
theorem wN.store{a e:ByteArray}(ha:aX a=true)(he:e=fy\/aX e=true):wN [a,iE,nW,bV,e]:=λ_ _ _ _ _ h=>h ha he
theorem wN.ind {motive:(l:List ByteArray)->wN l->Prop} (skip:motive [IA] wN.skip) (free:∀{b:ByteArray} (hb:aX b=true),motive [Gx,b] (wN.free hb))
  (val:∀{a c:ByteArray} (ha:aX a=true) (hc:c=Uk\/c=fy\/aX c=true),motive [a,bV,c] (wN.val ha hc)) (load:∀{a c:ByteArray} (ha:aX a=true) (hc:aX c=true),motive [a,bV,c,iE,nW] (wN.load ha hc))
  (store:∀{a e:ByteArray} (ha:aX a=true) (he:e=fy\/aX e=true),motive [a,iE,nW,bV,e] (wN.store ha he)) {l:List ByteArray} (h:wN l):motive l h:=by
 obtain⟨_,h2⟩:=h (λl=>∃h,motive l h) ⟨_,skip⟩ (λhb=>⟨_,free hb⟩) (λha hc=>⟨_,val ha hc⟩) (λha hc=>⟨_,load ha hc⟩) (λha he=>⟨_,store ha he⟩);exact h2
theorem NF{k:ByteArray}{r:List ByteArray}(h:yQ k r=true):r=k::r.tail:=by
 cases r with
 |nil=>cases h
 |cons x r=>rw[b9.1 (show bO x k=true from h)];rfl
theorem aiF{p:List ByteArray}(h:wN p){k:ByteArray}(h1:k≠IA)(h2:k≠Gx)(h3:k≠bV)(h4:k≠Uk)(h5:k≠fy)(h6:k≠iE)(h7:k≠nW)(h8:aX k=false):∀x∈p,x≠k:=by
 intro x hx;cases h using wN.ind with
 |skip=>simp only[mem_cons,not_mem_nil,or_false]at hx;subst hx;exact h1.symm
 |free hb =>
  simp only[mem_cons,not_mem_nil,or_false]at hx;rcases hx with rfl|rfl
  .exact h2.symm
  .exact kM hb h8
 |val ha hc =>
  simp only[mem_cons,not_mem_nil,or_false]at hx;rcases hx with rfl|rfl|rfl
  .exact kM ha h8
  .exact h3.symm
  .rcases hc with rfl|rfl|hc
   .exact h4.symm
   .exact h5.symm
   .exact kM hc h8
 |load ha hc =>
  simp only[mem_cons,not_mem_nil,or_false]at hx;rcases hx with rfl|rfl|rfl|rfl|rfl
  .exact kM ha h8
  .exact h3.symm
  .exact kM hc h8
  .exact h6.symm
  .exact h7.symm
 |store ha hc =>
  simp only[mem_cons,not_mem_nil,or_false]at hx;rcases hx with rfl|rfl|rfl|rfl|rfl
  .exact kM ha h8
  .exact h6.symm
  .exact h7.symm
  .exact h3.symm
  .rcases hc with rfl|hc
   .exact h5.symm
   .exact kM hc h8
def oX(l:List ByteArray):Prop :=
 ∀R:List ByteArray->Prop,(∀{p:List ByteArray},sm p=true->R p)->(∀{p r:List ByteArray},sm p=true->R r->R (p++cJ::r))->R l
theorem oX.one{p:List ByteArray}(hp:sm p=true):oX p:=λ_ h _=>h hp
theorem oX.more{p r:List ByteArray}(hp:sm p=true)(hr:oX r):oX (p++cJ::r):=λR h1 h2=>h2 hp (hr R h1 h2)
theorem oX.ind{motive:(l:List ByteArray)->oX l->Prop}(one:∀{p:List ByteArray} (hp:sm p=true),motive p (oX.one hp))(more:∀{p r:List ByteArray} (hp:sm p=true) (hr:oX r),motive r hr->motive _ (oX.more hp hr)){l:List ByteArray}(h:oX l):motive l h:=by
 obtain⟨_,h2⟩:=h (λl=>∃h,motive l h) (λhp=>⟨_,one hp⟩) (λhp ⟨hr,ih⟩=>⟨_,more hp hr ih⟩);exact h2
theorem Qt{x k:ByteArray}(h:lz x=true)(hk:lz k=false):x≠k:=by
 rintro rfl;rw[h]at hk;cases hk
theorem jY{x k:ByteArray}(h:dl x=true)(h1:k≠fy)(h2:aX k=false)(h3:lz k=false):x≠k:=by
 simp only[dl,Bool.or_eq_true,b9]at h;rcases h with(rfl|h)|h
 .exact h1.symm
 .exact kM h h2
 .exact Qt h h3
theorem LT{p:List ByteArray}(h:sm p=true){k:ByteArray}(h1:k≠qE)(h2:k≠jU)(h3:k≠Xd)(h4:k≠Sj)(h5:k≠QU)(h6:k≠bV)(h7:k≠dN)(h8:k≠kS)(h9:k≠fy)(hl:aX k=false)(hu:lz k=false):∀x∈p,x≠k:=by
 intro x hx;match p,h with
 |[a],h =>
  have e:=b9.1 (show bO a qE=true from h);simp only[mem_cons,not_mem_nil,or_false]at hx;subst hx;subst e;exact h1.symm
 |[a,b,c],h =>
  simp only[sm,Bool.and_eq_true,Bool.or_eq_true,b9]at h;obtain⟨⟨ha,hc⟩,hb⟩:=h;simp only[mem_cons,not_mem_nil,or_false]at hx;rcases hx with rfl|rfl|rfl
  .exact jY ha h9 hl hu
  .rcases hb with(rfl|rfl)|rfl
   .exact h6.symm
   .exact h7.symm
   .exact h8.symm
  .exact jY hc h9 hl hu
 |[a,b,c,d,e,f],h =>
  simp only[sm,Bool.and_eq_true,b9]at h;obtain⟨⟨⟨⟨rfl,rfl⟩,rfl⟩,rfl⟩,hc,he⟩:=h;simp only[mem_cons,not_mem_nil,or_false]at hx;rcases hx with rfl|rfl|rfl|rfl|rfl|rfl
  .exact h2.symm
  .exact h3.symm
  .exact jY hc h9 hl hu
  .exact h4.symm
  .exact jY he h9 hl hu
  .exact h5.symm
theorem iq{p:List ByteArray}(h:sm p=true):∀x∈p,x≠cJ :=
 LT h (aM (by simp[cJ,qE])) (aM (by simp[cJ,jU])) (aM (by simp[cJ,Xd])) (aM (by simp[cJ,Sj])) (aM (by simp[cJ,QU])) (aM (by simp[cJ,bV])) (aM (by simp[cJ,dN])) (aM (by simp[cJ,kS])) (aM (by simp[cJ,fy])) rfl rfl
theorem Js(n:Nat):∀{r q:List ByteArray},Kh n r=some q->r=q\/∃f,oX f/\r=cJ::(f++q):=by
 induction n with
 |zero=>intro r q h;cases h;exact zq0 rfl
 |succ n ih =>
  intro r q h;simp only[Kh]at h;by_cases h1:yQ dO r=true
  .rw[if_pos h1]at h;obtain⟨t,h2,h3⟩:=Option.bind_eq_some_iff.1 h;obtain⟨p,hp,e⟩:=iV.1 h2;have e1:r=cJ::r.tail:=NF h1;right;rcases ih h3 with rfl|⟨f,hf,rfl⟩
   .exact⟨p,oX.one hp,by rw[e1,e]⟩
   .exact⟨_,oX.more hp hf,by rw[e1,e];simp⟩
  .rw[if_neg h1]at h;cases h;exact zq0 rfl
theorem Ju{n:Nat}{r q:List ByteArray}(h:Ki n r=some q):∃f,oX f/\r=f++q:=by
 obtain⟨t,h2,h3⟩:=Option.bind_eq_some_iff.1 h;obtain⟨p,hp,rfl⟩:=iV.1 h2;rcases Js n h3 with rfl|⟨f,hf,rfl⟩
 .exact⟨p,oX.one hp,rfl⟩
 .exact⟨_,oX.more hp hf,by simp⟩
theorem yG{f:List ByteArray}(h:oX f):∀{n:Nat} {q:List ByteArray},f.length<=n->yQ cJ q=false->Ki n (f++q)=some q:=by
 induction h using oX.ind with
 |one hp =>
  intro n q _ hq;unfold Ki;rw[iV.2 ⟨_,hp,rfl⟩,Option.bind_some];cases n with
  |zero=>rfl
  |succ n=>show(if yQ cJ q=true then _ else some q)=_;rw[hq,if_neg (by simp)]
 |@more p r hp _ ih =>
  intro n q hn hq;simp only[length_append,length_cons]at hn;unfold Ki;rw[append_assoc,iV.2 ⟨_,hp,rfl⟩,Option.bind_some];cases n with
  |zero=>omega
  |succ n =>
   show(if bO cJ cJ=true then (nG (r++q)).bind (Kh n) else _)=_;rw[if_pos (bt _)];exact ih (by omega) hq
theorem xU:∀{r cur:List ByteArray} {al:List oQ},vM cur r=some al->oX (cur++r):=by
 intro r;induction r with
 |nil =>
  intro cur al h;by_cases h1:sm cur=true
  .rw[append_nil];exact oX.one h1
  .simp only[vM,if_neg h1]at h;cases h
 |cons x r ih =>
  intro cur al h;simp only[vM]at h;by_cases h1:bO x cJ=true
  .rw[if_pos h1]at h;by_cases h2:sm cur=true
   .rw[if_pos h2]at h;obtain⟨a,ha,_⟩:=Option.map_eq_some_iff.1 h;rw[b9.1 h1];exact oX.more h2 (ih ha)
   .rw[if_neg h2]at h;cases h
  .rw[if_neg h1]at h;have:=ih h;rwa [append_assoc]at this
theorem mL{p:List ByteArray}(h:∀x∈p,x≠cJ):∀cur r,vM cur (p++r)=vM (cur++p) r:=by
 induction p with
 |nil=>intro cur r;rw[append_nil];rfl
 |cons x p ih =>
  intro cur r;show vM cur (x::(p++r))=_;simp only[vM];rw[de (h x (by simp)),if_neg (by simp),ih (λy hy=>h y (by simp[hy])),append_assoc];rfl
theorem zO{f:List ByteArray}(h:oX f):∃al,vM [] f=some al:=by
 induction h using oX.ind with
 |@one p hp =>
  have:=mL (iq hp) [] [];rw[append_nil]at this;rw[this];exact⟨_,by simp only[vM,nil_append,if_pos hp];rfl⟩
 |@more p r hp _ ih =>
  obtain⟨al,ha⟩:=ih;rw[mL (iq hp)];exact⟨_,by simp only[vM,nil_append,bt,if_true,if_pos hp,ha];rfl⟩
def bW(c:UInt8):ByteArray:=⟨#[c]⟩
theorem zr{x:ByteArray}(h:aX x=true):x=bW (BQ x):=by
 obtain⟨⟨l⟩⟩:=x;match l,h with
 |[c],_=>rfl
theorem Fr{x:ByteArray}(h:lz x=true):x=bW (BQ x):=by
 obtain⟨⟨l⟩⟩:=x;match l,h with
 |[c],_=>rfl
theorem SP(l:List UInt8)(c:UInt8):Eb (l.map bW) (bW c)=plc l c:=by
 induction l with
 |nil=>rfl
 |cons a l ih =>
  show(if bO (bW a) (bW c)=true then 0 else Eb (l.map bW) (bW c)+1)=if a=c then 0 else plc l c+1
  by_cases h:a=c
  .rw[if_pos h,if_pos (by rw[h];exact bt _)]
  .rw[if_neg h,if_neg,ih];intro e;have:=b9.1 e;simp only[bW,ByteArray.mk.injEq,Array.mk.injEq,List.cons.injEq,and_true]at this;exact h this
theorem FQ(l:List UInt8)(c:UInt8):kX true (l.map bW) (bW c)=(put l c).map bW:=by
 have h1:=uJ l c;unfold kX put amI;rw[SP];simp only[length_map,Bool.true_and];by_cases h:plc l c=l.length
 .rw[if_pos h,if_pos (by rw[h];simp)];simp
 .rw[if_neg h,if_neg];rw[if_pos (by omega)];simp
theorem Pv{ws:List ByteArray}{s:PS}(h:s.failed=false):pk ws s=ws[s.pos]?.getD em:=by
 unfold pk;rw[if_neg (by simp[h])];rfl
theorem X3{ws:List ByteArray}{s:PS}{k:ByteArray}(h:cL ws k s=true):pk ws s=k:=b9.1 h
def Pd(z l:List ByteArray):Nat->List ByteArray
 |0=>z
 |k+1=>kX (aX (l[k]?.getD em)&&!ajL l k) (Pd z l k) (l[k]?.getD em)
theorem Un(z l:List ByteArray)(k:Nat):(Pd z l k).length<=z.length+k:=by
 induction k with
 |zero=>simp[Pd]
 |succ k ih=>have:=Jc (aX (l[k]?.getD em)&&!ajL l k) (Pd z l k) (l[k]?.getD em);simp only[Pd];omega
