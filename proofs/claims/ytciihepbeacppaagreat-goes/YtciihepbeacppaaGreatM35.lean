import Derived.Test.YtciihepbeacppaaGreatM34
set_option maxRecDepth 100000
set_option maxHeartbeats 0
namespace Go.Proofs.YtciihepbeacppaaGreat
open Tryz Go.RowKit List World Below
set_option linter.unusedVariables false
def mB(a b:List UInt8):List UInt8:=a++[32,61,32]++b
def Vh(a b:List UInt8):List UInt8:=a++[32,45,62,32]++b
def Wb(a b:List UInt8):List UInt8:=[108,115,40]++a++[44]++b++[41]
def UM(vs:List UInt8)(f:CF)(nm:List (List UInt8))(t:List UInt8)(i:Nat):List UInt8:=if nm.getD (f.cl.getD (1+i) 0) []=[vs.getD i 0] then t else rh t (mB [vs.getD i 0] (nm.getD (f.cl.getD (1+i) 0) []))
def UL(nm:List (List UInt8))(t:List UInt8)(p:Pr):List UInt8:=rh t (Qr (nm.getD p.l []) (nm.getD p.r []))
def Qt(nm:List (List UInt8))(t:List UInt8)(p:Pr):List UInt8:=rh t (if p.k=4 then Wb (nm.getD p.l []) (nm.getD p.r []) else Vh (nm.getD p.l []) (nm.getD p.r []))
def wr3(vs:List UInt8)(f:CF):List UInt8:=f.ow.foldl (Qt (JF vs f)) (f.ap.foldl (UL (JF vs f)) ((range vs.length).foldl (UM vs f (JF vs f)) []))
def PK(vs:List UInt8)(f:CF):List UInt8:=if wr3 vs f=[] then [101,109,112] else wr3 vs f
theorem eqB(b:UInt8)(l:List UInt8):(⟨#[b]⟩++⟨#[32,61,32]⟩++⟨l.toArray⟩:ByteArray)=⟨(mB [b] l).toArray⟩:=by
 rw[show(⟨#[b]⟩:ByteArray)=⟨[b].toArray⟩ from rfl,show(⟨#[32,61,32]⟩:ByteArray)=⟨([32,61,32]:List UInt8).toArray⟩ from rfl,nM,nM];rfl
theorem lsB(a b:List UInt8):(⟨#[108,115,40]⟩++⟨a.toArray⟩++⟨#[44]⟩++⟨b.toArray⟩++⟨#[41]⟩:ByteArray)=⟨(Wb a b).toArray⟩:=by
 rw[show(⟨#[108,115,40]⟩:ByteArray)=⟨([108,115,40]:List UInt8).toArray⟩ from rfl,show(⟨#[44]⟩:ByteArray)=⟨([44]:List UInt8).toArray⟩ from rfl,show(⟨#[41]⟩:ByteArray)=⟨([41]:List UInt8).toArray⟩ from rfl,nM,nM,nM,nM];rfl
theorem arB(a b:List UInt8):(⟨a.toArray⟩++⟨#[32,45,62,32]⟩++⟨b.toArray⟩:ByteArray)=⟨(Vh a b).toArray⟩:=by
 rw[show(⟨#[32,45,62,32]⟩:ByteArray)=⟨([32,45,62,32]:List UInt8).toArray⟩ from rfl,nM,nM];rfl
theorem kh(t a:List UInt8):(rh t a).length<=t.length+3+a.length:=by unfold rh;split <;> simp <;> omega
theorem UB(a b:List UInt8):(Qr a b).length=a.length+b.length+4:=by unfold Qr;split <;> simp <;> omega
def QU(N:List (List UInt8)):Prop:=N.length=24/\∀j,(N.getD j []).length<=3
theorem QU.set{N:List (List UInt8)}(h:QU N)(j:Nat){l:List UInt8}(hl:l.length<=3):QU (N.set j l):=by
 refine⟨by rw[length_set];exact h.1,λi=>?_⟩;rw[getD_eq_getElem?_getD,getElem?_set];split
 .split
  .exact hl
  .exact zq5 _
 .rw[<-getD_eq_getElem?_getD];exact h.2 i
theorem GW(vs:List UInt8)(f:CF):∀(k:Nat) {N:List (List UInt8)},QU N->QU (Wd vs f k N)
 |0,_,h=>h
 |k+1,_,h=>GW vs f k (h.set _ (by simp))
theorem GX:∀(l:List Nat) {r:List (List UInt8) × Nat},QU r.1->QU (l.foldl Qo r).1
 |[],_,h=>h
 |c::l,r,h=>by
  rw[foldl_cons];refine GX l ?_;unfold Qo;split
  .exact h.set c (by simp)
  .exact h
theorem Tz(vs:List UInt8)(f:CF):QU (JF vs f):=by
 unfold JF;refine GX _ (QU.set (GW vs f _ ⟨by simp,λj=>?_⟩) _ (by simp));rw[getD_eq_getElem?_getD];by_cases hj:j<24
 .rw[getElem?_replicate,if_pos hj];exact zq5 _
 .rw[getElem?_eq_none (by rw[length_replicate];omega)];exact zq5 _
section
variable {w:World} {A:Nat} {f:CF} {av ov lv:Value} {vs:List UInt8}
theorem J1(h:dm w A f av ov)(hT:Td f)(hl:w.ownsRow 0 5 1 lv vs.length (bc vs))(mu:vs.length<=4):Calls prog 63 #[.pointer (some ⟨A,0,none⟩),lv] w λe w'=>e=.returned (.string ⟨(PK vs f).toArray⟩)/\Below w.heap.size w w':=by
 have HNA:=ab (TA h hT.ok hl mu);obtain⟨la,lc,gF,hlc,-⟩:=ah hl;subst gF;have SY:=Tz vs f;obtain⟨nm,Ef⟩:∃nm,nm=JF vs f:=⟨_,rfl⟩;rw[<-Ef]at HNA SY;have H:=ab h;have HT:=ab hT;have HL:=ab hl;have KF:=ab Ef;have HSH:=ab SY;have dl:(jc nm).length=24:=by simp[jc,SY.1]
 obtain⟨M,hM⟩:∃M,M=jc nm:=⟨_,rfl⟩;rw[<-hM]at HNA dl;have HM:=ab hM;have HWT:Hid (PK vs f=if f.ow.foldl (Qt nm) (f.ap.foldl (UL nm) ((range vs.length).foldl (UM vs f nm) []))=[] then [101,109,112] else f.ow.foldl (Qt nm) (f.ap.foldl (UL nm) ((range vs.length).foldl (UM vs f nm) []))):=ab (by rw[Ef];rfl);clear h hT hl Ef SY hM;go_enter func63,ntmps63;go_wp2_with fail
 refine(uh HNA).mono ?_;rintro e w1 ⟨rfl,aO⟩;have qO:(w1.alloc (.cells (jc (replicate 24 [])).toArray 174)).there w1.heap.size 0 M.toArray.size:=λj hj=>by
  rw[size_toArray,dl]at hj;rw[Nat.zero_add];have fB:=Bk.new w1 174 (jc (replicate 24 []));exact⟨by rw[fB.cell j (l7 (by rw[length_replicate];exact hj))];rfl,fB.frz j⟩
 have bT:(prog.info? 174).map (·.size)=some M.toArray.size:=by rw[size_toArray,dl];exact infoS24
 have s7:M.toArray.all (·.oneCell')=true:=all_oneCell_toArray (by
  intro v hv;rw[uh HM]at hv;obtain⟨o,_,rfl⟩:=mem_map.1 hv;rfl)
 have vp:∀(us:List Value) (o:Nat) (x:World),Below w1.heap.size w1 x->Below w1.heap.size w1 (x.setCells w1.heap.size o us):=by
  intro us;induction us with
  |nil=>intro o x h;exact h
  |cons v r ih=>intro o x h;exact ih (o+1) _ (h.setCell (zq4 _) v)
 obtain⟨D,hD⟩:∃D,D=w1.heap.size:=⟨_,rfl⟩;obtain⟨W2,d9⟩:∃W2,W2=(w1.alloc (.cells (jc (replicate 24 [])).toArray 174)).setCells w1.heap.size 0 M:=⟨_,rfl⟩;have ax:Below w.heap.size w W2:=aO.trans ((by rw[d9];exact vp M 0 _ (af w1 _):Below w1.heap.size w1 W2).mono aO.size);have hrg:W2.rangeAt D 0 M:=by rw[d9,hD];exact rangeAt_setCells_same _ _ 0 M (by simpa using qO)
 have RZ:D<W2.heap.size:=by
  have h9:=(by rw[d9];exact vp M 0 _ (af w1 _):Below w1.heap.size w1 W2);have h8:0<M.length:=by omega
  have:=block_lt_of_cell? W2 ⟨D,0+0,none⟩ (hrg 0 M[0] (getElem?_eq_getElem h8));exact this
 have aq:∀j,j<24->W2.cell? ⟨D,j,none⟩=some (.string ⟨(nm.getD j []).toArray⟩):=λj hj=>by
  have h8:=hrg j _ (by rw[uh HM];exact l7 (by rw[(uh HSH).1];exact hj));rw[Nat.zero_add]at h8;exact h8
 have rl:=ab qO;have db:=ab bT;have C7:=ab s7;have HC:=ab (zq2 aq (zq2 RZ ax));clear qO bT s7 vp hrg aq RZ ax aO HNA;simp only[jc,replicate,map_cons,map_nil]at d9;go_upto_region 2 with(refine wpList_store_mid rfl 174 (.tmp 5) (.tmp 16) rfl _ 0 M.toArray rfl rfl (uh rl) (uh db) (uh C7) ?_);rw[<-d9,<-hD];clear d9 hD rl db C7 dl;go_wp2_with fail
 go_loopg [6,7] vs.length (λgn tv iv wx=>∃(k:Nat) (T:List UInt8),k+gn=vs.length/\iv=.int .i64 k/\tv=.string ⟨T.toArray⟩/\Hid (wx=W2/\T=(range k).foldl (UM vs f nm) []/\T.length<=20*k))
 case atStart=>exact⟨0,[],by omega,rfl,rfl,ab ⟨rfl,rfl,by simp⟩⟩
 case round =>
  obtain⟨k,T,fC,rfl,rfl,hI⟩:=hrel;obtain⟨G1,wK⟩:∃G1,G1=gk:=⟨_,rfl⟩;obtain⟨S7,yt,yw⟩:=uh hI;rw[S7];clear S7 hI;by_cases ar:k<vs.length
  .have hd:decide ((k:Int)<(vs.length:Int))=true:=(by simp;omega);have hF:=(uh H).below (uh HC).2.2;have x0:=hF.cls (i:=1+k) (by omega);unfold eR at x0;have jX:=(uh HT).ok.get (1+k);have aF:=b8 (uh HL) (uh HC).2.2;obtain⟨g,cap,cM,hgc,-⟩:=aS aF (by omega);simp only[Value.slice.injEq,true_and]at cM;obtain⟨rfl,rfl⟩:=cM;have y0:=aF.cellAt k (by omega);have hbv:(bc vs)[k]?=some (.int .u8 ((vs.getD k 0).toNat:Int)):=(by simp[bc,ar]);rw[hbv]at y0;have aE:(range (k+1)).foldl (UM vs f nm) []=UM vs f nm T k:=(by rw[range_succ,foldl_append,<-yt];rfl);have By:UM vs f nm T k=if nm.getD (f.cl.getD (1+k) 0) []=[vs.getD k 0] then T else rh T (mB [vs.getD k 0] (nm.getD (f.cl.getD (1+k) 0) [])):=rfl
   obtain⟨cl,de⟩:∃cl,cl=f.cl.getD (1+k) 0:=⟨_,rfl⟩;obtain⟨b,hb⟩:∃b,b=vs.getD k 0:=⟨_,rfl⟩;rw[<-de]at x0 jX By;rw[<-hb]at y0 By;have n0:=(uh HC).1 cl jX;have gz:=(uh HSH).2 cl;obtain⟨nl,aeo⟩:∃nl,nl=nm.getD cl []:=⟨_,rfl⟩;rw[<-aeo]at n0 gz By;have Al:Hid (nl=[b]->(range (k+1)).foldl (UM vs f nm) []=T):=ab (λe=>by rw[aE,By,if_pos e]);have nK:Hid (nl≠[b]->(range (k+1)).foldl (UM vs f nm) []=rh T (mB [b] nl)):=ab (λe=>by rw[aE,By,if_neg e]);have U7:=ab yw;have k6:(cl:Int)<24:=(by omega);have vD:k=0\/k=1\/k=2\/k=3:=(by omega);clear hF aF hbv aE By de hb aeo yt jX hgc;rcases vD with rfl|rfl|rfl|rfl
   .have x0:W2.cell? ⟨A,1,none⟩=some (.int .i64 (cl:Int)):=x0;have k2:(0:Int)<(vs.length:Int):=(by omega);have kc:(1:Int)<=(lc:Int):=(by omega);have I3:(convert 101 9 (.slice (some ⟨g,0,none⟩) 1 lc)).run prog W2=.ok (.string ⟨[b].toArray⟩) W2:=run_convert_bytes_back W2 101 9 5 ⟨g,0,none⟩ lc [b] underlying101 underlying5 underlying9 (λj hj=>by
     have uN:j=0:=(by simpa using hj);subst uN;exact y0)
    rw[show(((0:Nat):Int))=(0:Int) from rfl];by_cases kE:nl=[b]
    .have e0:(nl==([b]:List UInt8))=true:=(by rw[beq_iff_eq];exact kE);have mz:=ab (uh Al kE);clear kE;go_wp2_with fail
     go_roundg (G1-1)
     case rel=>exact⟨1,T,by omega,by go_num,rfl,ab ⟨rfl,(uh mz).symm,by have:=uh U7;omega⟩⟩
     case measure=>omega
    .have e0:(nl==([b]:List UInt8))=false:=(by rw[beq_eq_false_iff_ne];exact kE);have mz:=ab (uh nK kE);have sn:=ab (fW W2 T (mB [b] nl) (by omega) (by unfold mB;simp;omega));have CB:Hid ((rh T (mB [b] nl)).length<=20*(0+1)):=ab (by
      have h8:=kh T (mB [b] nl);have h9:(mB [b] nl).length<=7:=(by unfold mB;simp;omega);have:=uh U7;omega)
     clear kE;go_wp2_with fail
     rw[eqB];refine(uh sn).mono ?_;rintro e' w9 ⟨rfl,rfl⟩;go_wp2_with fail
     go_roundg (G1-1)
     case rel=>exact⟨1,rh T (mB [b] nl),by omega,by go_num,rfl,ab ⟨rfl,(uh mz).symm,uh CB⟩⟩
     case measure=>omega
   .have x0:W2.cell? ⟨A,2,none⟩=some (.int .i64 (cl:Int)):=x0;have k2:(1:Int)<(vs.length:Int):=(by omega);have kc:(2:Int)<=(lc:Int):=(by omega);have I3:(convert 101 9 (.slice (some ⟨g,1,none⟩) 1 (lc-1))).run prog W2=.ok (.string ⟨[b].toArray⟩) W2:=run_convert_bytes_back W2 101 9 5 ⟨g,1,none⟩ (lc-1) [b] underlying101 underlying5 underlying9 (λj hj=>by
     have uN:j=0:=(by simpa using hj);subst uN;exact y0)
    rw[show(((1:Nat):Int))=(1:Int) from rfl];by_cases kE:nl=[b]
    .have e0:(nl==([b]:List UInt8))=true:=(by rw[beq_iff_eq];exact kE);have mz:=ab (uh Al kE);clear kE;go_wp2_with fail
     go_roundg (G1-1)
     case rel=>exact⟨2,T,by omega,by go_num,rfl,ab ⟨rfl,(uh mz).symm,by have:=uh U7;omega⟩⟩
     case measure=>omega
    .have e0:(nl==([b]:List UInt8))=false:=(by rw[beq_eq_false_iff_ne];exact kE);have mz:=ab (uh nK kE);have sn:=ab (fW W2 T (mB [b] nl) (by omega) (by unfold mB;simp;omega));have CB:Hid ((rh T (mB [b] nl)).length<=20*(1+1)):=ab (by
      have h8:=kh T (mB [b] nl);have h9:(mB [b] nl).length<=7:=(by unfold mB;simp;omega);have:=uh U7;omega)
     clear kE;go_wp2_with fail
     rw[eqB];refine(uh sn).mono ?_;rintro e' w9 ⟨rfl,rfl⟩;go_wp2_with fail
     go_roundg (G1-1)
     case rel=>exact⟨2,rh T (mB [b] nl),by omega,by go_num,rfl,ab ⟨rfl,(uh mz).symm,uh CB⟩⟩
     case measure=>omega
   .have x0:W2.cell? ⟨A,3,none⟩=some (.int .i64 (cl:Int)):=x0;have k2:(2:Int)<(vs.length:Int):=(by omega);have kc:(3:Int)<=(lc:Int):=(by omega);have I3:(convert 101 9 (.slice (some ⟨g,2,none⟩) 1 (lc-2))).run prog W2=.ok (.string ⟨[b].toArray⟩) W2:=run_convert_bytes_back W2 101 9 5 ⟨g,2,none⟩ (lc-2) [b] underlying101 underlying5 underlying9 (λj hj=>by
     have uN:j=0:=(by simpa using hj);subst uN;exact y0)
    rw[show(((2:Nat):Int))=(2:Int) from rfl];by_cases kE:nl=[b]
    .have e0:(nl==([b]:List UInt8))=true:=(by rw[beq_iff_eq];exact kE);have mz:=ab (uh Al kE);clear kE;go_wp2_with fail
     go_roundg (G1-1)
     case rel=>exact⟨3,T,by omega,by go_num,rfl,ab ⟨rfl,(uh mz).symm,by have:=uh U7;omega⟩⟩
     case measure=>omega
    .have e0:(nl==([b]:List UInt8))=false:=(by rw[beq_eq_false_iff_ne];exact kE);have mz:=ab (uh nK kE);have sn:=ab (fW W2 T (mB [b] nl) (by omega) (by unfold mB;simp;omega));have CB:Hid ((rh T (mB [b] nl)).length<=20*(2+1)):=ab (by
      have h8:=kh T (mB [b] nl);have h9:(mB [b] nl).length<=7:=(by unfold mB;simp;omega);have:=uh U7;omega)
     clear kE;go_wp2_with fail
     rw[eqB];refine(uh sn).mono ?_;rintro e' w9 ⟨rfl,rfl⟩;go_wp2_with fail
     go_roundg (G1-1)
     case rel=>exact⟨3,rh T (mB [b] nl),by omega,by go_num,rfl,ab ⟨rfl,(uh mz).symm,uh CB⟩⟩
     case measure=>omega
   .have x0:W2.cell? ⟨A,4,none⟩=some (.int .i64 (cl:Int)):=x0;have k2:(3:Int)<(vs.length:Int):=(by omega);have kc:(4:Int)<=(lc:Int):=(by omega);have I3:(convert 101 9 (.slice (some ⟨g,3,none⟩) 1 (lc-3))).run prog W2=.ok (.string ⟨[b].toArray⟩) W2:=run_convert_bytes_back W2 101 9 5 ⟨g,3,none⟩ (lc-3) [b] underlying101 underlying5 underlying9 (λj hj=>by
     have uN:j=0:=(by simpa using hj);subst uN;exact y0)
    rw[show(((3:Nat):Int))=(3:Int) from rfl];by_cases kE:nl=[b]
    .have e0:(nl==([b]:List UInt8))=true:=(by rw[beq_iff_eq];exact kE);have mz:=ab (uh Al kE);clear kE;go_wp2_with fail
     go_roundg (G1-1)
     case rel=>exact⟨4,T,by omega,by go_num,rfl,ab ⟨rfl,(uh mz).symm,by have:=uh U7;omega⟩⟩
     case measure=>omega
    .have e0:(nl==([b]:List UInt8))=false:=(by rw[beq_eq_false_iff_ne];exact kE);have mz:=ab (uh nK kE);have sn:=ab (fW W2 T (mB [b] nl) (by omega) (by unfold mB;simp;omega));have CB:Hid ((rh T (mB [b] nl)).length<=20*(3+1)):=ab (by
      have h8:=kh T (mB [b] nl);have h9:(mB [b] nl).length<=7:=(by unfold mB;simp;omega);have:=uh U7;omega)
     clear kE;go_wp2_with fail
     rw[eqB];refine(uh sn).mono ?_;rintro e' w9 ⟨rfl,rfl⟩;go_wp2_with fail
     go_roundg (G1-1)
     case rel=>exact⟨4,rh T (mB [b] nl),by omega,by go_num,rfl,ab ⟨rfl,(uh mz).symm,uh CB⟩⟩
     case measure=>omega
  .have hd:decide ((k:Int)<(vs.length:Int))=false:=(by simp;omega);have Bl:k=vs.length:=(by omega);rw[Bl]at yt yw;have hF:=(uh H).below (uh HC).2.2;have c5:=hF.c5;obtain⟨aa,ac,eS,-,-⟩:=ah hF.ap;subst eS;have mG:=(uh HT).ln;have f8:=(uh HT).ok.owLen;have Qv:=ab hF.ap;have bR:Hid (Below W2.heap.size W2 W2/\T=(f.ap.take 0).foldl (UL nm) T/\T.length<=100+20*0):=ab ⟨Below.refl _ _,rfl,by omega⟩;have v7:=ab yt;clear hF yt yw Bl;go_wp2_with fail
   go_loopg [6,57] f.ap.length (λgn tv iv wx=>∃(j:Nat) (T2:List UInt8),j+gn=f.ap.length/\iv=.int .i64 j/\tv=.string ⟨T2.toArray⟩/\Hid (Below W2.heap.size W2 wx/\T2=(f.ap.take j).foldl (UL nm) T/\T2.length<=100+20*j))
   case atStart=>exact⟨0,T,by omega,rfl,rfl,bR⟩
   case round =>
    clear bR c5;obtain⟨j,T2,wU,rfl,rfl,hJ⟩:=hrel;obtain⟨G2,AY⟩:∃G2,G2=gk:=⟨_,rfl⟩;obtain⟨hb,yt,yw⟩:=uh hJ;by_cases bf:j<f.ap.length
    .have gx:decide ((j:Int)<(f.ap.length:Int))=true:=(by simp;omega);have aF:=b8 (uh Qv) hb;obtain⟨go,gc,iP,-,-⟩:=aC aF bf;simp only[Value.slice.injEq,true_and]at iP;obtain⟨rfl,rfl⟩:=iP;obtain⟨y0,y1,y2⟩:=aA aF bf;have er:=(uh HT).ok.ap _ (cy bf);have aE:(f.ap.take (j+1)).foldl (UL nm) T=UL nm T2 (f.ap.getD j az):=(by rw[take_succ_eq_append_getElem bf,foldl_append,<-yt,dq bf];rfl);obtain⟨p,hp⟩:∃p,p=f.ap.getD j az:=⟨_,rfl⟩;rw[<-hp]at y0 y1 y2 er aE;obtain⟨pk,pl,pr⟩:=p;simp only at y0 y1 y2 er;obtain⟨W5,jl⟩:∃W5,W5=wr.alloc (.cells #[Value.int .i64 pk,.int .i64 pl,.int .i64 pr] 182):=⟨_,rfl⟩;have aT:Below wr.heap.size wr W5:=(by rw[jl];exact af wr _);have ir:Bk W5 wr.heap.size 182 [Value.int .i64 pk,.int .i64 pl,.int .i64 pr]:=(by rw[jl];exact Bk.new wr _ _);obtain⟨Y,mF⟩:∃Y,Y=wr.heap.size:=⟨_,rfl⟩;rw[<-mF]at ir;have b6:=hb.trans (aT.mono hb.size);have b1:=ir.cell 1 rfl;have b2:=ir.cell 2 rfl;have n1:=(b6.cell (uh HC).2.1).trans ((uh HC).1 pl er.1);have n2:=(b6.cell (uh HC).2.1).trans ((uh HC).1 pr er.2);have s1:=(uh HSH).2 pl;have s2:=(uh HSH).2 pr;have Gu:UL nm T2 ⟨pk,pl,pr⟩=rh T2 (Qr (nm.getD pl []) (nm.getD pr [])):=rfl;obtain⟨nl,gz⟩:∃nl,nl=nm.getD pl []:=⟨_,rfl⟩;obtain⟨nr,hnr⟩:∃nr,nr=nm.getD pr []:=⟨_,rfl⟩;rw[<-gz]at n1 s1 Gu;rw[<-hnr]at n2 s2 Gu;have S1:=UB nl nr;obtain⟨un,hun⟩:∃un,un=Qr nl nr:=⟨_,rfl⟩;have HUN:Hid (∀m:Nat,Calls prog 102 #[.string ⟨nl.toArray⟩,.string ⟨nr.toArray⟩] (W5.drewN m) λe w'=>e=.returned (.string ⟨un.toArray⟩)/\∃j,w'=W5.drewN j):=ab (λm=>by rw[hun];exact(Cr (W5.drewN m) nl nr (by omega) (by omega)).mono (λe w' hw=>⟨hw.1,m,hw.2⟩));rw[<-hun]at Gu S1;obtain⟨T3,nC⟩:∃T3,T3=rh T2 un:=⟨_,rfl⟩;have sn:Hid (∀m:Nat,Calls prog 101 #[.string ⟨T2.toArray⟩,.string ⟨un.toArray⟩] (W5.drewN m) λe w'=>e=.returned (.string ⟨T3.toArray⟩)/\∃j,w'=W5.drewN j):=ab (λm=>by rw[nC];exact(fW (W5.drewN m) T2 un (by omega) (by omega)).mono (λe w' hw=>⟨hw.1,m,hw.2⟩));have HN:Hid (Below W2.heap.size W2 W5/\T3=(f.ap.take (j+1)).foldl (UL nm) T/\T3.length<=100+20*(j+1)):=ab ⟨b6,by rw[aE,Gu,nC],by
      have:=kh T2 un;rw[nC];omega⟩
     have i1:(0:Int)<=(j:Int):=(by omega);have i2:(j:Int)<(f.ap.length:Int):=(by omega);have i3:(pl:Int)<24:=(by omega);have i4:(pr:Int)<24:=(by omega);clear aF aE hp aT ir b6 Gu gz hnr hun nC hb yt hJ s1 s2 S1 er;go_upto_region 13 with fail;rw[<-jl,<-mF];clear jl mF y0 y1 y2;go_quiet (first|(go_at_call 102;exact uh HUN _)|(go_at_call 101;exact uh sn _))
     go_wp2_with fail
     go_roundg (G2-1)
     case rel=>exact⟨j+1,T3,by omega,by go_num,rfl,ab ⟨⟨(uh HN).1.os,(uh HN).1.tape,(uh HN).1.output,(uh HN).1.size,(uh HN).1.block⟩,(uh HN).2⟩⟩
     case measure=>omega
    .have gx:decide ((j:Int)<(f.ap.length:Int))=false:=(by simp;omega);have hjv:j=f.ap.length:=(by omega);rw[hjv,take_length]at yt;rw[hjv]at yw;have hF:=(uh H).below ((uh HC).2.2.trans (hb.mono (uh HC).2.2.size));have c6:=hF.c6;obtain⟨oa,oc,dB,-,-⟩:=ah hF.ow;subst dB;have HOW:=ab hF.ow;have dy:Hid (Below W2.heap.size W2 wr/\T2=(f.ow.take 0).foldl (Qt nm) T2/\T2.length<=100+20*f.ap.length+20*0):=ab ⟨hb,rfl,by omega⟩;have mz:=ab yt;have Kz:=ab hb;obtain⟨W3,Kf⟩:∃W3,W3=wr:=⟨_,rfl⟩;rw[<-Kf]at dy HOW c6 Kz ⊢;clear hF yt yw hjv hb hJ Kf;go_wp2_with fail
     go_loopg [6,78] f.ow.length (λgn tv iv wx=>∃(j:Nat) (T4:List UInt8),j+gn=f.ow.length/\iv=.int .i64 j/\tv=.string ⟨T4.toArray⟩/\Hid (Below W2.heap.size W2 wx/\Below W3.heap.size W3 wx/\T4=(f.ow.take j).foldl (Qt nm) T2/\T4.length<=100+20*f.ap.length+20*j))
     case atStart=>exact⟨0,T2,by omega,rfl,rfl,ab ⟨(uh dy).1,Below.refl _ _,(uh dy).2⟩⟩
     case round =>
      clear dy c6;obtain⟨i,T4,kz,rfl,rfl,hJ⟩:=hrel;obtain⟨G3,hG3⟩:∃G3,G3=gk:=⟨_,rfl⟩;obtain⟨hb,bF,yt,yw⟩:=uh hJ;by_cases Nk:i<f.ow.length
      .have DX:decide ((i:Int)<(f.ow.length:Int))=true:=(by simp;omega);have aF:=b8 (uh HOW) bF;obtain⟨go,gc,iP,-,-⟩:=aC aF Nk;simp only[Value.slice.injEq,true_and]at iP;obtain⟨rfl,rfl⟩:=iP;obtain⟨y0,y1,y2⟩:=aA aF Nk;have er:=(uh HT).ok.ow _ (cy Nk);have aE:(f.ow.take (i+1)).foldl (Qt nm) T2=Qt nm T4 (f.ow.getD i az):=(by rw[take_succ_eq_append_getElem Nk,foldl_append,<-yt,dq Nk];rfl);obtain⟨p,hp⟩:∃p,p=f.ow.getD i az:=⟨_,rfl⟩;rw[<-hp]at y0 y1 y2 er aE;obtain⟨pk,pl,pr⟩:=p;simp only at y0 y1 y2 er;obtain⟨W5,jl⟩:∃W5,W5=wr.alloc (.cells #[Value.int .i64 pk,.int .i64 pl,.int .i64 pr] 182):=⟨_,rfl⟩;have aT:Below wr.heap.size wr W5:=(by rw[jl];exact af wr _);have ir:Bk W5 wr.heap.size 182 [Value.int .i64 pk,.int .i64 pl,.int .i64 pr]:=(by rw[jl];exact Bk.new wr _ _);obtain⟨Y,mF⟩:∃Y,Y=wr.heap.size:=⟨_,rfl⟩;rw[<-mF]at ir;have b6:=hb.trans (aT.mono hb.size);have Ss:=bF.trans (aT.mono bF.size);have b0:=ir.cell 0 rfl;have b1:=ir.cell 1 rfl;have b2:=ir.cell 2 rfl;have n1:=(b6.cell (uh HC).2.1).trans ((uh HC).1 pl er.1);have n2:=(b6.cell (uh HC).2.1).trans ((uh HC).1 pr er.2);have s1:=(uh HSH).2 pl;have s2:=(uh HSH).2 pr;have Gu:Qt nm T4 ⟨pk,pl,pr⟩=rh T4 (if pk=4 then Wb (nm.getD pl []) (nm.getD pr []) else Vh (nm.getD pl []) (nm.getD pr [])):=rfl;obtain⟨nl,gz⟩:∃nl,nl=nm.getD pl []:=⟨_,rfl⟩;obtain⟨nr,hnr⟩:∃nr,nr=nm.getD pr []:=⟨_,rfl⟩;rw[<-gz]at n1 s1 Gu;rw[<-hnr]at n2 s2 Gu;have i1:(0:Int)<=(i:Int):=(by omega);have i2:(i:Int)<(f.ow.length:Int):=(by omega);have i3:(pl:Int)<24:=(by omega);have i4:(pr:Int)<24:=(by omega);have i5:(0:Int)<=(pl:Int):=(by omega);have i6:(0:Int)<=(pr:Int):=(by omega);by_cases hk:pk=4
       .have dk:decide ((pk:Int)=4)=true:=(by simp;omega);rw[if_pos hk]at Gu;have HK:=ab hk;have S1:(Wb nl nr).length=nl.length+nr.length+5:=(by unfold Wb;simp;omega);obtain⟨T3,nC⟩:∃T3,T3=rh T4 (Wb nl nr):=⟨_,rfl⟩;have sn:Hid (∀m:Nat,Calls prog 101 #[.string ⟨T4.toArray⟩,.string (⟨#[108,115,40]⟩++⟨nl.toArray⟩++⟨#[44]⟩++⟨nr.toArray⟩++⟨#[41]⟩)] (W5.drewN m) λe w'=>e=.returned (.string ⟨T3.toArray⟩)/\∃j,w'=W5.drewN j):=ab (λm=>by rw[nC,lsB];exact(fW (W5.drewN m) T4 (Wb nl nr) (by omega) (by omega)).mono (λe w' hw=>⟨hw.1,m,hw.2⟩));have HN:Hid (Below W2.heap.size W2 W5/\Below W3.heap.size W3 W5/\T3=(f.ow.take (i+1)).foldl (Qt nm) T2/\T3.length<=100+20*f.ap.length+20*(i+1)):=ab ⟨b6,Ss,by rw[aE,Gu,nC],by
         have:=kh T4 (Wb nl nr);rw[nC];omega⟩
        have l1:¬ 9223372036854775807<3+nl.length:=(by omega);have l2:¬ 9223372036854775807<3+nl.length+1:=(by omega);have l3:¬ 9223372036854775807<3+nl.length+1+nr.length:=(by omega);have l4:¬ 9223372036854775807<3+nl.length+1+nr.length+1:=(by omega);clear aF aE hp aT ir b6 Ss Gu gz hnr nC hb bF yt hJ s1 s2 S1 er hk;go_upto_region 18 with fail;rw[<-jl,<-mF];clear jl mF y0 y1 y2;have Gl:(pk:Int)=4:=(by have:=uh HK;omega);go_wp2_with fail
        go_quiet (first|(go_at_call 101;exact uh sn _))
        go_wp2_with fail
        go_roundg (G3-1)
        case rel=>exact⟨i+1,T3,by omega,by go_num,rfl,ab ⟨⟨(uh HN).1.os,(uh HN).1.tape,(uh HN).1.output,(uh HN).1.size,(uh HN).1.block⟩,⟨(uh HN).2.1.os,(uh HN).2.1.tape,(uh HN).2.1.output,(uh HN).2.1.size,(uh HN).2.1.block⟩,(uh HN).2.2⟩⟩
        case measure=>omega
       .have dk:decide ((pk:Int)=4)=false:=(by simp;omega);rw[if_neg hk]at Gu;have S1:(Vh nl nr).length=nl.length+nr.length+4:=(by unfold Vh;simp;omega);obtain⟨T3,nC⟩:∃T3,T3=rh T4 (Vh nl nr):=⟨_,rfl⟩;have sn:Hid (∀m:Nat,Calls prog 101 #[.string ⟨T4.toArray⟩,.string (⟨nl.toArray⟩++⟨#[32,45,62,32]⟩++⟨nr.toArray⟩)] (W5.drewN m) λe w'=>e=.returned (.string ⟨T3.toArray⟩)/\∃j,w'=W5.drewN j):=ab (λm=>by rw[nC,arB];exact(fW (W5.drewN m) T4 (Vh nl nr) (by omega) (by omega)).mono (λe w' hw=>⟨hw.1,m,hw.2⟩));have HN:Hid (Below W2.heap.size W2 W5/\Below W3.heap.size W3 W5/\T3=(f.ow.take (i+1)).foldl (Qt nm) T2/\T3.length<=100+20*f.ap.length+20*(i+1)):=ab ⟨b6,Ss,by rw[aE,Gu,nC],by
         have:=kh T4 (Vh nl nr);rw[nC];omega⟩
        have l1:¬ 9223372036854775807<nl.length+4:=(by omega);have l2:¬ 9223372036854775807<nl.length+4+nr.length:=(by omega);have Gl:¬ ((pk:Int)=4):=(by omega);clear aF aE hp aT ir b6 Ss Gu gz hnr nC hb bF yt hJ s1 s2 S1 er;go_upto_region 18 with fail;rw[<-jl,<-mF];clear jl mF y0 y1 y2;go_wp2_with fail
        go_quiet (first|(go_at_call 101;exact uh sn _))
        go_wp2_with fail
        go_roundg (G3-1)
        case rel=>exact⟨i+1,T3,by omega,by go_num,rfl,ab ⟨⟨(uh HN).1.os,(uh HN).1.tape,(uh HN).1.output,(uh HN).1.size,(uh HN).1.block⟩,⟨(uh HN).2.1.os,(uh HN).2.1.tape,(uh HN).2.1.output,(uh HN).2.1.size,(uh HN).2.1.block⟩,(uh HN).2.2⟩⟩
        case measure=>omega
      .have DX:decide ((i:Int)<(f.ow.length:Int))=false:=(by simp;omega);have Qe:i=f.ow.length:=(by omega);rw[Qe,take_length]at yt;have hW:=uh HWT;rw[<-uh v7,<-uh mz,<-yt]at hW;have nJ:Hid (Below w.heap.size w wr):=ab ((uh HC).2.2.trans (hb.mono (uh HC).2.2.size));by_cases he:T4=[]
       .have d0:T4.isEmpty=true:=(by rw[he];rfl);rw[if_pos he]at hW;have HW:=ab hW;clear hW he yt yw hb bF hJ Qe;go_wp2_with fail
        go_ret;exact⟨by rw[uh HW];rfl,uh nJ⟩
       .have d0:=pR he;rw[if_neg he]at hW;have HW:=ab hW;clear hW he yt yw hb bF hJ Qe;go_wp2_with fail
        go_ret;exact⟨by rw[uh HW];rfl,uh nJ⟩
end
def ivL(r:Rs)(z:Int):List CF:=if z<0 then [] else r.kn.getD z.toNat []
def qy(vs:List UInt8)(r:Rs)(z:Int):List (List UInt8):=(ivL r z).map (PK vs)
theorem ae9{α:Type}{l:List α}{n:Nat}{d:α}(h:n<l.length):l.getD n d∈l:=by
 rw[getD_eq_getElem?_getD,getElem?_eq_getElem h];exact getElem_mem h
theorem Ul(M N:List (List UInt8)):jc (M++N)=jc M++jc N:=by simp[jc]
theorem Pf{xs:List Value}{k:Nat}{a:Value}(h:k<xs.length):(xs.set k a).take (k+1)=xs.take k++[a]:=by
 rw[take_add_one,take_set_of_le (zq4 _),getElem?_set_self h];simp
section
variable {w w':World} {X Q:Nat} {ws:List ByteArray} {ps:PS} {al:List bt} {vv pv nv fv:Value} {Z:List Nat}
theorem vJ(h:Pa w X Q ws ps al vv pv nv fv Z)(hA:An ps al)(hl:∀l∈(CI ps.nodes ps.vars.length al).kn,l.length<=1000000000001)(z:Int):
  Calls prog 37 #[.pointer (some ⟨X,0,none⟩),.int .i64 z] w λe w'=>∃v,e=.returned v/\w'.ownsRow w.heap.size 9 1 v (qy ps.vars (CI ps.nodes ps.vars.length al) z).length (jc (qy ps.vars (CI ps.nodes ps.vars.length al) z))/\(qy ps.vars (CI ps.nodes ps.vars.length al) z=[]->v=.slice none 0 0)/\∃RB w1,xF w X Q ws ps al vv pv nv Z RB w1/\Below w1.heap.size w1 w'/\∀k,v.ownBlock=some k->w1.heap.size<=k:=by
 obtain⟨j0,uN,hy0,hy1,hy2⟩:=info_parts infoStr;have HEM:=ab (m9 h.bx);have Ws:Hid (∀n,Calls prog 60 #[.pointer (some ⟨X,0,none⟩)] (w.drewN n) λe w'=>∃RB,e=.returned (.pointer (some ⟨RB,0,none⟩))/\xF w X Q ws ps al vv pv nv Z RB w'):=ab (λn=>(qg (w:=w.drewN n) (h.of_eq (w':=w.drewN n) (λ_ _=>rfl)) hA).mono (by
  rintro e w' ⟨RB,he,av,kv,FV,L,p1,p2,p3,p4⟩;exact⟨RB,he,av,kv,FV,L,p1,p2,⟨p3.os,p3.tape,p3.output,p3.size,p3.block,p3.foot⟩,p4⟩))
 obtain⟨r,hr⟩:∃r,r=CI ps.nodes ps.vars.length al:=⟨_,rfl⟩;rw[<-hr]at hl ⊢;have HR:=ab hr;have HHL:=ab hl;have mu:=hA.v;clear h hA hr hl;go_enter func37,ntmps37;go_wp2_with (first|(go_at_call 53;refine(uh HEM).mono ?_;rintro e w1 ⟨rfl,n,rfl⟩))
 refine(uh Ws _).mono ?_;rintro e w2 ⟨RB,rfl,hP⟩;have jO:w.heap.size<=w2.heap.size:=by obtain⟨av,kv,FV,L,p1,p2,p3,p4⟩:=hP;exact p3.size
 have HP:=ab hP;obtain⟨av,kv,FV,L,hPa,hFd,-,-⟩:=hP;rw[<-uh HR]at hFd;have tf:=hFd.bk.cell 2 rfl;obtain⟨ka,kc,Bl,-,-⟩:=ah hFd.kr;have PO:=ab hFd;have zJ:=ab hPa;rw[Bl]at tf;have HKV:=ab Bl;clear Ws HEM hFd hPa Bl;by_cases dG:z<0
 .have d0:decide (z<0)=true:=by simp;omega
  have HE:Hid (qy ps.vars r z=[]):=ab (by unfold qy ivL;rw[if_pos dG];rfl);clear dG;go_wp2_with fail
  go_ret;refine⟨_,rfl,?_,λ_=>rfl,RB,w2,uh HP,Below.refl _ _,λk hk=>by cases hk⟩;rw[uh HE];exact⟨rfl,.inl ⟨rfl,rfl⟩⟩
 .have d0:decide (z<0)=false:=by simp;omega
  obtain⟨n,rfl⟩:∃n:Nat,z=n:=⟨z.toNat,by omega⟩;have Qe:qy ps.vars r (n:Int)=(r.kn.getD n []).map (PK ps.vars):=by unfold qy ivL;rw[if_neg dG,Int.toNat_natCast]
  have hLr:r.kn.length=L.length:=by rw[<-(uh PO).km,length_map]
  by_cases hn:n<L.length
  .have d1:decide ((L.length:Int)<=(n:Int))=false:=(by simp;omega);have i1:(n:Int)<(L.length:Int):=(by omega);have iA:r.kn.getD n []=(L.getD n []).map (λx=>x.f):=by
    rw[<-(uh PO).km,getD_eq_getElem?_getD,getElem?_map,getElem?_eq_getElem hn,getD_eq_getElem?_getD,getElem?_eq_getElem hn];rfl
   have oe:=(uh PO).ke n hn;have jN:=(uh PO).fl;have Qf:=(uh PO).kr;rw[uh HKV]at Qf;obtain⟨kb,kcap,hkb,-,-⟩:=aS Qf (by omega);simp only[Value.slice.injEq,true_and]at hkb;obtain⟨rfl,rfl⟩:=hkb;have x0:=Qf.cellAt n (by omega);rw[show FV[n]?=some (FV.getD n aH) by rw[getD_eq_getElem?_getD,getElem?_eq_getElem (by omega)];rfl]at x0;obtain⟨M,hM⟩:∃M,M=L.getD n []:=⟨_,rfl⟩;have hMm:∀x∈M,dm w2 x.A x.f x.av x.ov/\Td x.f:=λx hx=>(uh PO).fm (L.getD n []) (ae9 hn) x (by rw[<-hM];exact hx);have Vx:M.length<=1000000000001:=by
    have h8:=uh HHL (r.kn.getD n []) (ae9 (by omega));rw[iA,length_map,<-hM]at h8;exact h8
   rw[<-hM]at oe iA;rw[iA,map_map]at Qe;have kG:(qy ps.vars r (n:Int)).length=M.length:=(by rw[Qe,length_map]);obtain⟨ma,mc,hmv,-,-⟩:=ah oe;rw[hmv]at x0 oe;have If:=ab hMm;have HIV:=ab Qe;have ii:=ab oe;have HIL:=ab kG;clear iA hM hMm Qe kG oe jN Qf hLr hmv HHL dG;by_cases h0:M=[]
   .have d2:((M.length:Int)==(0:Int))=true:=(by rw[h0];rfl);have HE:Hid (qy ps.vars r (n:Int)=[]):=ab (by rw[uh HIV,h0];rfl);clear h0;go_wp2_with fail
    go_ret;refine⟨_,rfl,?_,λ_=>rfl,RB,w2,uh HP,Below.refl _ _,λk hk=>by cases hk⟩;rw[uh HE];exact⟨rfl,.inl ⟨rfl,rfl⟩⟩
   .have hM0:M.length≠0:=λe=>h0 (length_eq_zero_iff.1 e);have d2:((M.length:Int)==(0:Int))=false:=(by simp;omega);have rj:Hid (qy ps.vars r (n:Int)≠[]):=ab (by rw[uh HIV];simpa using h0);clear h0;go_wp2_with (at_make;refine wpList_make_full _ rfl _ _ 50 rfl w2.heap.size 9 j0 (.string ⟨#[]⟩) 1 underlying50 uN hy0 hy1 .i64 .i64 _ _ M.length rfl rfl rfl rfl (by rw[hy2];omega) (by unfold maxLen;omega) (zq4 _) ?_)
    intro w3 VS M3;have bF:Below w2.heap.size w2 w3:=(Below.refl _ _).grown M3 (zq4 _) (λk h=>by cases h);obtain⟨b,P7⟩:∃b,b=w2.heap.size:=⟨_,rfl⟩;have Ns:w3.ownsRow w2.heap.size 9 1 (.slice (some ⟨b,0,none⟩) M.length M.length) M.length (madeCells #[Value.string ⟨#[]⟩] M.length).toList:=(by rw[P7];exact VS);have bR:Hid (w3.ownsRow w2.heap.size 9 1 (.slice (some ⟨b,0,none⟩) M.length M.length) M.length (madeCells #[Value.string ⟨#[]⟩] M.length).toList/\((madeCells #[Value.string ⟨#[]⟩] M.length).toList).take 0=jc ((M.take 0).map (λx=>PK ps.vars x.f))/\Below w2.heap.size w2 w3):=ab ⟨Ns,by simp[jc],bF⟩;rw[<-P7];have nJ:=ab P7;have q0:=(uh zJ).bx.cell 0 rfl;have q1:=(uh zJ).cp.bk.cell 1 rfl;have pm:=(uh zJ).bx.lt;have Ye:=(uh zJ).cp.bk.lt;clear VS M3 bF Ns P7 tf x0;go_wp2_with fail
    go_loopg [8] M.length (λgn iv wx=>∃(k:Nat) (xs:List Value),k+gn=M.length/\iv=.int .i64 k/\Hid (wx.ownsRow w2.heap.size 9 1 (.slice (some ⟨b,0,none⟩) M.length M.length) M.length xs/\xs.take k=jc ((M.take k).map (λx=>PK ps.vars x.f))/\Below w2.heap.size w2 wx))
    case atStart=>exact⟨0,_,by omega,rfl,bR⟩
    case round =>
     clear bR;obtain⟨k,xs,fC,rfl,hI⟩:=hrel;obtain⟨G1,wK⟩:∃G1,G1=gk:=⟨_,rfl⟩;obtain⟨h1,h2,h3⟩:=uh hI;by_cases ar:k<M.length
     .have hd:decide ((k:Int)<(M.length:Int))=true:=(by simp;omega);have c0:wr.cell? ⟨X,0,none⟩=some (.pointer (some ⟨Q,0,none⟩)):=(h3.cell pm).trans q0;have c1:wr.cell? ⟨Q,1,none⟩=some vv:=(h3.cell Ye).trans q1;have fH:=b8 (uh ii) h3;obtain⟨g,cap,cM,-,-,gE⟩:=aS (uh ii) (by omega);simp only[Value.slice.injEq,true_and]at cM;obtain⟨rfl,rfl⟩:=cM;have x0:=fH.cellAt k (by omega);have hxk:(M.map FE.p)[k]?=some (.pointer (some ⟨(M[k]).A,0,none⟩)):=(by rw[getElem?_map,getElem?_eq_getElem ar];rfl);rw[hxk]at x0;have iB:=uh If M[k] (getElem_mem ar);have aE:(M.take (k+1)).map (λx=>PK ps.vars x.f)=(M.take k).map (λx=>PK ps.vars x.f)++[PK ps.vars M[k].f]:=(by rw[take_succ_eq_append_getElem ar,map_append];rfl);have HWR:Hid (∀W':World,Below wr.heap.size wr W'->Calls prog 63 #[.pointer (some ⟨M[k].A,0,none⟩),vv] W' λe w''=>e=.returned (.string ⟨(PK ps.vars M[k].f).toArray⟩)/\Below wr.heap.size wr w''):=ab (λW' hb=>by
       have ax:=h3.trans (hb.mono h3.size);exact(J1 (iB.1.below ax) iB.2 ((uh zJ).cp.below ax).vr mu).mono (λe w'' hw=>⟨hw.1,hb.trans (hw.2.mono hb.size)⟩))
      obtain⟨fA,hfA⟩:∃fA,fA=M[k].A:=⟨_,rfl⟩;obtain⟨T,hT⟩:∃T,T=PK ps.vars M[k].f:=⟨_,rfl⟩;rw[<-hfA]at x0 HWR;rw[<-hT]at HWR aE;have bA:=ab aE;have H1:=ab h1;have H2:=ab h2;have H3:=ab h3;have hXw:=zq6 pm h3.size;have hQw:=zq6 Ye h3.size;have hgw:=zq6 gE h3.size;have k1:(0:Int)<=(k:Int):=(by omega);have k2:(k:Int)<(M.length:Int):=(by omega);clear h1 h2 h3 fH hxk iB aE hfA hT hI;have nb1:¬ (b=g):=(by have:=uh nJ;omega);have nb2:¬ (b=X):=(by have:=uh nJ;omega);have nb3:¬ (b=Q):=(by have:=uh nJ;omega);go_upto_region 11 with fail;go_region_held3 (λW=>W.cell? ⟨g,k,none⟩=some (.pointer (some ⟨fA,0,none⟩))/\W.cell? ⟨X,0,none⟩=some (.pointer (some ⟨Q,0,none⟩))/\W.cell? ⟨Q,1,none⟩=some vv) (first|(simp only[cell?_drew,x0,c0,c1,and_self];done)|(simp only[u0,u1,u2,and_self];done)|(simp[cell?_setCell_far,u0,u1,u2,nb1,nb2,nb3];done))
       (first
        |(go_at_call 63;refine(uh HWR _ (Below.refl _ _).drew).mono ?_;rintro e w6 ⟨rfl,gh⟩;have u0:=(gh.cell hgw).trans x0;have u1:=(gh.cell hXw).trans c0;have u2:=(gh.cell hQw).trans c1;have P1:=b8 (uh H1) gh;obtain⟨yv,y0⟩:∃yv,w6.cell? ⟨b,k,none⟩=some yv:=⟨_,(P1.cellAt k (by rw[Nat.mul_one];exact ar)).trans (getElem?_eq_getElem (by rw[P1.1];omega))⟩;have z6:=P1.frozenAt k;have mO:=ab gh;have H16:=ab P1;clear gh P1))
      all_goals
       go_wp2_with fail
       go_roundg (G1-1)
       case rel=>exact⟨k+1,xs.set k (.string ⟨T.toArray⟩),by omega,by go_num,ab ⟨((uh H16).stored k (.string ⟨T.toArray⟩)).1,by rw[Pf (by have:=(uh H16).1;omega),uh H2,uh bA,Ul];rfl,((uh H3).trans ((uh mO).mono (uh H3).size)).setCell (p:=⟨b,k,none⟩) (by rw[uh nJ];exact zq4 _) _⟩⟩
       case measure=>omega
     .have hd:decide ((k:Int)<(M.length:Int))=false:=(by simp;omega);have hxs:xs=jc (qy ps.vars r (n:Int)):=by
       have h4:=h2;rw[take_of_length_le (by rw[h1.1];omega),take_of_length_le (by omega)]at h4;rw[uh HIV];exact h4
      have HN:=ab (zq2 (show wr.ownsRow w2.heap.size 9 1 (.slice (some ⟨b,0,none⟩) M.length M.length) M.length (jc (qy ps.vars r (n:Int))) by rw[<-hxs];exact h1) h3);clear h1 h2 h3 hI hxs;go_wp2_with fail
      go_ret;exact⟨_,rfl,by rw[uh HIL];exact bW (uh HN).1 jO,λe=>absurd e (uh rj),RB,w2,uh HP,(uh HN).2,λk hk=>by(have e0:=uh nJ;have e1:b=k:=(by injection hk);omega)⟩
  .have d1:decide ((L.length:Int)<=(n:Int))=true:=(by simp;omega);have HE:Hid (qy ps.vars r (n:Int)=[]):=ab (by rw[Qe,getD_eq_getElem?_getD,getElem?_eq_none (by omega)];rfl);clear dG Qe hLr;go_wp2_with fail
   go_ret;refine⟨_,rfl,?_,λ_=>rfl,RB,w2,uh HP,Below.refl _ _,λk hk=>by cases hk⟩;rw[uh HE];exact⟨rfl,.inl ⟨rfl,rfl⟩⟩
end
def sE(ws:List ByteArray):Rs:=CI (dH ws a9).nodes (dH ws a9).vars.length (gb ws a9)
def AnW(ws:List ByteArray):Prop:=An (dH ws a9) (gb ws a9)
def mR(w:World)(X:Nat)(ws:List ByteArray)(G:List Nat):Prop :=
 ∃Q vv pv nv fv Z,Pa w X Q ws (dH ws a9) (gb ws a9) vv pv nv fv Z/\G=X::(qK Q vv pv nv++Z)
section
variable {w w':World} {X:Nat} {ws:List ByteArray} {G:List Nat}
theorem mR.of_eq(h:mR w X ws G)(he:∀k∈G,w'.heap[k]?=w.heap[k]?):mR w' X ws G:=by
 obtain⟨Q,vv,pv,nv,fv,Z,h1,rfl⟩:=h;refine⟨Q,vv,pv,nv,fv,Z,h1.of_eq (λk hk=>he k ?_),rfl⟩;rcases hk with rfl|hk|hk
 .exact mem_cons_self
 .exact mem_cons_of_mem _ (mem_append_left _ hk)
 .exact mem_cons_of_mem _ (mem_append_right _ hk)
theorem mR.lt(h:mR w X ws G):∀k∈G,k<w.heap.size:=by
 obtain⟨Q,vv,pv,nv,fv,Z,h1,rfl⟩:=h;intro k hk;refine h1.lt k ?_;rcases mem_cons.1 hk with rfl|hk
 .exact zq0 rfl
 .rcases mem_append.1 hk with hk|hk
  .exact zq1 (zq0 hk)
  .exact zq1 (zq1 hk)
theorem mR.mem(h:mR w X ws G):X∈G:=by
 obtain⟨Q,vv,pv,nv,fv,Z,h1,rfl⟩:=h;exact mem_cons_self
theorem mR.below(h:mR w X ws G)(hb:Below w.heap.size w w'):mR w' X ws G:=h.of_eq (λk hk=>hb.block k (h.lt k hk))
theorem IsL.prg{B:Nat}(h:IsL B w X ws (dH ws a9) (gb ws a9)):∃G,mR w X ws G/\∀k∈G,B<=k:=by
 obtain⟨Q,h0,hB,h1⟩:=h;obtain⟨vv,pv,nv,hC,bZ⟩:=h1.cp;have aT:Bk w X 88 [kA Q,.pointer none]:=h0;have aF:∀{e sz n:Nat} {v:Value} {xs:List Value},w.ownsRow 0 e sz v n xs->e≠88->∀k,v.ownBlock=some k->X≠k:=by
  intro e sz n v xs hr aM k hk hXk;rcases hr.2 with⟨rfl,-⟩|⟨g,cap,cur,rfl,-,hg,-⟩
  .cases hk
  .have e1:g=k:=(by injection hk);rw[e1,<-hXk]at hg;unfold Bk at aT;rw[aT]at hg;injection hg with hg;injection hg with _ hg;exact aM hg.symm
 have hPa:Pa w X Q ws (dH ws a9) (gb ws a9) vv pv nv (.pointer none) []:=by
  refine⟨aT,hC,zq0 ⟨rfl,rfl⟩,λhm=>?_,by simp⟩;simp only[qK,mem_cons,mem_append,Option.mem_toList]at hm;rcases hm with rfl|hm|hm|hm
  .have h2:=hC.bk;unfold Bk at h2 aT;rw[h2]at aT;injection aT with aT;injection aT with _ aT;revert aT;decide
  .exact aF hC.vr (by decide) X hm rfl
  .exact aF hC.pr (by decide) X hm rfl
  .exact aF hC.nr (by decide) X hm rfl
 refine⟨_,⟨Q,vv,pv,nv,_,[],hPa,rfl⟩,λk hk=>?_⟩;rcases mem_cons.1 hk with rfl|hk
 .exact hB
 .rw[append_nil]at hk;exact bZ k hk
structure Ask(w:World)(X:Nat)(ws:List ByteArray)(G G':List Nat)(w':World):Prop where
 pg:mR w' X ws G'
 st:am [X] w [X] w'
 gr:∀k∈G',k∈G\/w.heap.size<=k
theorem xF.ask{Q RB:Nat}{vv pv nv:Value}{Z:List Nat}{w1:World}(hG:G=X::(qK Q vv pv nv++Z))(h:xF w X Q ws (dH ws a9) (gb ws a9) vv pv nv Z RB w1)(hb:Below w1.heap.size w1 w'):∃G',Ask w X ws G G' w':=by
 obtain⟨av,kv,FV,L,h1,-,h3,h4⟩:=h;refine⟨X::(qK Q vv pv nv++Vn RB av kv FV L),⟨Q,vv,pv,nv,_,_,h1.below hb,rfl⟩,⟨hb.os.trans h3.os,hb.tape.trans h3.tape,hb.output.trans h3.output,zq3 h3.size hb.size,λk hk hX=>(hb.block k (zq6 hk h3.size)).trans (h3.block k hk hX),λk hk=>zq0 hk⟩,λk hk=>?_⟩;rw[hG];rcases mem_cons.1 hk with rfl|hk
 .exact zq0 mem_cons_self
 .rcases mem_append.1 hk with hk|hk
  .exact zq0 (mem_cons_of_mem _ (mem_append_left _ hk))
  .rcases h4 k hk with hk|hk
   .exact zq0 (mem_cons_of_mem _ (mem_append_right _ hk))
   .exact zq1 hk
theorem mR.verdict(h:mR w X ws G)(hA:AnW ws):Calls prog 33 #[.pointer (some ⟨X,0,none⟩)] w λe w'=>e=.returned (.int .i64 ((sE ws).vd:Nat))/\∃G',Ask w X ws G G' w':=by
 obtain⟨Q,vv,pv,nv,fv,Z,h1,hG⟩:=h;refine(Cs h1 hA).mono ?_;rintro e w1 ⟨rfl,RB,hP⟩;exact⟨rfl,hP.ask hG (Below.refl _ _)⟩
theorem mR.invariant2(h:mR w X ws G)(hA:AnW ws)(z:Int):Calls prog 37 #[.pointer (some ⟨X,0,none⟩),.int .i64 z] w λe w'=>∃v,e=.returned v/\w'.ownsRow w.heap.size 9 1 v (qy (dH ws a9).vars (sE ws) z).length (jc (qy (dH ws a9).vars (sE ws) z))/\(qy (dH ws a9).vars (sE ws) z=[]->v=.slice none 0 0)/\∃G',Ask w X ws G G' w'/\∀k,v.ownBlock=some k->k ∉ G':=by
 obtain⟨Q,vv,pv,nv,fv,Z,h1,hG⟩:=h;refine(vJ h1 hA (At hA) z).mono ?_;rintro e w2 ⟨v,rfl,g1,g2,RB,w1,hP,hb,g3⟩;obtain⟨G1,h2⟩:=hP.ask (w':=w1) hG (Below.refl _ _);refine⟨v,rfl,g1,g2,G1,⟨h2.pg.below hb,⟨hb.os.trans h2.st.os,hb.tape.trans h2.st.tape,hb.output.trans h2.st.output,zq3 h2.st.size hb.size,λk hk hX=>(hb.block k (zq6 hk h2.st.size)).trans (h2.st.block k hk hX),λk hk=>zq0 hk⟩,h2.gr⟩,λk hk hm=>?_⟩;have:=g3 k hk;have:=h2.pg.lt k hm;omega
theorem mR.invariant(h:mR w X ws G)(hA:AnW ws)(z:Int):Calls prog 37 #[.pointer (some ⟨X,0,none⟩),.int .i64 z] w λe w'=>∃v,e=.returned v/\w'.ownsRow w.heap.size 9 1 v (qy (dH ws a9).vars (sE ws) z).length (jc (qy (dH ws a9).vars (sE ws) z))/\(qy (dH ws a9).vars (sE ws) z=[]->v=.slice none 0 0)/\∃G',Ask w X ws G G' w' :=
 (h.invariant2 hA z).mono (λ_ _ ⟨v,e,g1,g2,G',h1,_⟩=>⟨v,e,g1,g2,G',h1⟩)
end
def Dsk(w:World)(Y X:Nat)(s:ByteArray):Prop:=Bk w Y 36 [.pointer (some ⟨X,0,none⟩),.string s,.slice none 0 0,.slice none 0 0]
theorem LG(s:ByteArray)(w:World):Calls prog 16 #[.string s] w λe w'=>Below w.heap.size w w'/\(((240<s.size\/lY s.data.toList≠0)/\e=.returned (.tuple #[.pointer none,.bool true])) \/
  (s.size<=240/\lY s.data.toList=0/\∃Y X G,e=.returned (.tuple #[.pointer (some ⟨Y,0,none⟩),.bool true])/\Dsk w' Y X s/\w.heap.size<=Y/\Y ∉ G/\mR w' X (gY s.data.toList) G/\∀k∈G,w.heap.size<=k)):=by
 by_cases hl:240<s.size
 .have d0:decide ((240:Int)<(s.size:Int))=true:=by simp;omega
  go_enter func16,ntmps16;go_wp2_with fail
  go_ret2;exact⟨Below.refl _ _,zq0 ⟨zq0 hl,rfl⟩⟩
 .have d0:decide ((240:Int)<(s.size:Int))=false:=by simp;omega
  have HLD:=ab (NX s w (by omega));go_enter func16,ntmps16;go_wp2_with fail
  refine(uh HLD).mono ?_;rintro e w1 ⟨hb,⟨aM,rfl⟩|⟨h0,X,rfl,hL⟩⟩
  .have d1:((lY s.data.toList:Int)==0)=false:=(by simp;omega);obtain⟨z,hz⟩:∃z,z=lY s.data.toList:=⟨_,rfl⟩;rw[<-hz]at d1 aM ⊢;have HB:=ab hb;have HZ:=ab hz;clear hb HLD hz;go_wp2_with fail
   go_ret2;have du:((z:Int) != 0)=true:=(by simp;omega);exact⟨uh HB,zq0 ⟨zq1 (by rw[<-uh HZ];exact aM),by rw[<-du];rfl⟩⟩
  .obtain⟨G,hG,bZ⟩:=IsL.prg (show IsL w.heap.size w1 X (gY s.data.toList) (dH (gY s.data.toList) a9) (gb (gY s.data.toList) a9) from hL);have HN:Hid (Below w.heap.size w (w1.alloc (.cells #[.pointer (some ⟨X,0,none⟩),.string s,.slice none 0 0,.slice none 0 0] 36))/\Dsk (w1.alloc (.cells #[.pointer (some ⟨X,0,none⟩),.string s,.slice none 0 0,.slice none 0 0] 36)) w1.heap.size X s/\w.heap.size<=w1.heap.size/\w1.heap.size ∉ G/\mR (w1.alloc (.cells #[.pointer (some ⟨X,0,none⟩),.string s,.slice none 0 0,.slice none 0 0] 36)) X (gY s.data.toList) G/\∀k∈G,w.heap.size<=k):=ab ⟨hb.trans ((af w1 _).mono hb.size),Bk.new w1 _ _,hb.size,λhm=>by have:=hG.lt _ hm;omega,hG.below (af w1 _),bZ⟩;have H0:=ab h0;clear hb hL hG bZ HLD h0;go_wp2_with fail
   go_ret2;exact⟨(uh HN).1,zq1 ⟨by omega,uh H0,_,X,G,rfl,(uh HN).2⟩⟩
theorem ZU{l:List UInt8}(h:lY l=0):NdS (dI l).nodes (dI l).vars.length:=by
 obtain⟨-,-,hf,hv,-⟩:=B0 h;have hA:=nL h;obtain⟨M,hR⟩:=BZ hf;have hQ:gV (dI l):=afg (gY l);have iB:∀n,(dI l).nodes.getD n bj∈(dI l).nodes\/(dI l).nodes.getD n bj=bj:=λn=>by
  rw[getD_eq_getElem?_getD];cases hg:(dI l).nodes[n]? with
  |none=>exact zq1 rfl
  |some x=>exact zq0 (mem_of_getElem? hg)
 have kz:∀nd∈(dI l).nodes,(Lw (dI l).vars.length nd.v/\nd.op<=10)\/nd.op=0:=λnd cH=>by
  rw[show(dI l).nodes=M++[{ lr with nx:=M.length+1 }] from hR.nd]at cH;rcases mem_append.1 cH with cH|cH
  .obtain⟨k,hk,rfl⟩:=mem_iff_getElem.1 cH;have:=hR.go k _ (getElem?_eq_getElem hk);exact zq0 ⟨this.1,this.2.2.1.2⟩
  .rw[mem_singleton.1 cH];exact zq1 rfl
 refine⟨hA.n,λn=>?_,λn zY=>?_,λn=>?_⟩
 .rcases iB n with h1|h1
  .exact hQ.ak _ h1
  .rw[h1];exact⟨by decide,λe=>by cases e⟩
 .rcases iB n with h1|h1
  .rcases kz _ h1 with⟨h2,-⟩|h2
   .by_cases h0:(dI l).vars.length=0
    .exact absurd (hQ.nv hf h0 _ h1) zY
    .rcases h2 with h2|h2 <;> omega
   .exact absurd (zq1 (zq1 (zq1 h2))) zY
  .rw[h1]at zY;exact absurd (zq1 (zq1 (zq1 rfl))) zY
 .rcases iB n with h1|h1
  .rcases kz _ h1 with⟨-,h2⟩|h2 <;> omega
  .rw[h1];decide
theorem Xn{s:Sr}(h:Xm s.wr=[])(n k:Nat)(hk:k=2\/k=3\/k=4):Mg s n k=false:=by
 cases hf:Mg s n k with
 |false=>rfl
 |true =>
  exfalso;have hn:n<s.wr.length:=by
   apply Classical.byContradiction;intro hc;unfold Mg at hf;have e:s.wr.getD n []=[]:=(by rw[getD_eq_getElem?_getD,getElem?_eq_none (by omega)];rfl);rw[e]at hf;simp at hf
  have:(n,k)∈Xm s.wr:=by
   unfold Xm;refine mem_flatMap.2 ⟨n,by simpa using hn,mem_map.2 ⟨k,mem_filter.2 ⟨?_,hf⟩,rfl⟩⟩;rcases hk with rfl|rfl|rfl <;> simp
  rw[h]at this;simp at this
theorem B7{ps:PS}{al:List bt}(hA:An ps al)(hv:(CI ps.nodes ps.vars.length al).vd=0):
  SfS (Az ps.nodes ps.vars.length al) (mT ps.nodes ps.vars.length al)/\∀cs t,xG cs->ie cs t (sQ (bL al) ps.vars.length)->Db (mT ps.nodes ps.vars.length al) 0 cs t:=by
 obtain⟨c,hc⟩:∃c,c=Az ps.nodes ps.vars.length al:=⟨_,rfl⟩;have fs:c.nds=ps.nodes:=by rw[hc];rfl
 have hS:Sf (mT ps.nodes ps.vars.length al):=by
  unfold CI Hg at hv;split at hv
  .cases hv
  .rename_i dM;refine⟨by simpa using dM,Xn ?_⟩;apply Classical.byContradiction;intro h0;have hv:(if Xm (mT ps.nodes ps.vars.length al).wr=[] then 0 else 1)=0:=hv;rw[if_neg h0]at hv;cases hv
 have aY:=hA.ok;unfold mT at hS aY ⊢;rw[<-hc]at hS aY ⊢;have h0:=Uh ps.nodes;have Gn:ps.nodes.length-1<ps.nodes.length:=by have:=hA.p;omega
 have key:mA ps.nodes.length (fx c 4000 ps.vars.length al (l5 ps.nodes))/\Ik c (fx c 4000 ps.vars.length al (l5 ps.nodes)) 0 []/\(Sf (fx c 4000 ps.vars.length al (l5 ps.nodes))->∀cs t,xG cs->ie cs t (sQ (bL al) ps.vars.length)->Db (fx c 4000 ps.vars.length al (l5 ps.nodes)) 0 cs t):=by
  have hJ0:∀{s:Sr},iN (l5 ps.nodes) s->Ik c s 0 []:=λho n e he hd=>by
   have:=ho n e he hd;rw[Z4]at this;simp at this
  unfold fx;split
  .rename_i qT;refine⟨h0,hJ0 (iN.refl _),λ_ cs t ix jB=>?_⟩;exfalso;obtain⟨v,h1,h2⟩:=iQ.1 jB;have hm:Va (cs.map (·.1)) (cs.map (·.2)) v (bL al):=by
    refine⟨?_,h1.ap,h1.sp⟩;have:=h1.nl;rwa [show(sQ (bL al) ps.vars.length).cl.getD 0 0=(bL al).cl.getD 0 0 from rfl]at this
   have:=XG hm ix.nd (λa ha=>by obtain⟨d,hd,rfl⟩:=mem_map.1 ha;exact ix.ps d hd);rw[this]at qT;cases qT
  .rename_i qT;have gJ:=lL (pC hA.a.tm (by simpa using qT)) ps.vars.length;rw[fs];obtain⟨k1,k2,k3⟩:=Di (c:=c) (fuel:=4000) (a:=ps.nodes.length-1) (b:=0) gJ.tidy h0 Gn hA.p;refine⟨k2,hJ0 (FC gJ.tidy h0 Gn hA.p),λhSf cs t ix jB=>k3 hSf cs t ix (jB.td gJ)⟩
 obtain⟨r1,r2,r3⟩:=Hh (c:=c) (fuel:=4000) (by rw[fs]) (by rw[fs];exact hA.n) 1000000 key.1;exact⟨⟨r2.td,r3 aY hS key.2.1⟩,λcs t ix jB=>r1.kn _ _ _ ix (key.2.2 (r1.sf hS) cs t ix jB)⟩
theorem RE{cs:List (Int × Int)}(hs:ky cs):Hz (cs.map (·.1)) (cq cs):=by
 intro a i;constructor
 .intro h;obtain⟨hi,he⟩:=ey h;exact⟨by simpa using hi,by simp[List.getD,hi,he]⟩
 .rintro⟨hi,he⟩;have kZ:i<cs.length:=by simpa using hi
  exact yj hs kZ (by simpa[List.getD,kZ] using he)
theorem Pc{nv:Nat}{al:List bt}{st ls:List Int}(ht:ij al)(hv:nv<=4)(h:jj nv al st ls=0):st.length=nv/\ky (eK ls)/\(∀c∈eK ls,0<c.1)/\ie (eK ls) (Hr st) (sQ (bL al) nv):=by
 unfold jj at h;split at h
 .cases h
 .split at h
  .cases h
  .rename_i hb;simp only[not_or]at hb;obtain⟨hl,-,yx⟩:=hb;have hl:st.length=nv:=Classical.byContradiction hl;split at h
   .rename_i hho;have yx:mS ls=true:=(by simpa using yx);unfold mS at yx;rw[Bool.and_eq_true]at yx;have hs:=Fv yx.2;have hp:=Fu yx.2;refine⟨hl,hs,hp,?_⟩;obtain⟨s,h1,h2⟩:=(SL (RE hs) ht (by omega)).1 hho;have hm:=h1.mod ht;rw[iQ];have h0:s ((bL al).cl.getD 0 0)=0:=hm.nl;have de:∀i,i<5->(sQ (bL al) nv).cl.getD i 0=if nv<i then (bL al).cl.getD 0 0 else (bL al).cl.getD i 0:=λi hi=>by
     unfold sQ;simp[getD_eq_getElem?_getD,hi]
    refine⟨s,⟨?_,hm.ap,hm.sp⟩,λi hi=>?_⟩
    .rw[de 0 (by omega),if_neg (by omega)];exact h0
    .rw[de i hi];by_cases hni:nv<i
     .rw[if_pos hni,h0];unfold Hr;rw[if_neg (by omega),getD_eq_getElem?_getD,getElem?_eq_none (by omega)];rfl
     .rw[if_neg hni,kO hi,Ez ht h1.eq (by omega)];unfold Hr;by_cases e0:i=0
      .rw[if_pos e0,e0];exact h1.nl
      .rw[if_neg e0,<-h2 (i-1) (by omega),show 1+(i-1)=i by omega]
   .cases h
theorem JP{l:List UInt8}(h:lY l=0)(hv:(sE (gY l)).vd=0){st ls:List Int}(hs:jj (dI l).vars.length (gb (gY l) a9) st ls=0):
  wb (dI l).nodes (dI l).vars.length (mT (dI l).nodes (dI l).vars.length (gb (gY l) a9)) (pi (dI l).nodes ⟨0,0,st,eK ls⟩ 0):=by
 have hA:=nL h;obtain⟨h1,h2⟩:=B7 hA hv;obtain⟨g1,g2,g3,g4⟩:=Pc hA.a.tm hA.v hs;exact ju (c:=Az (dI l).nodes (dI l).vars.length (gb (gY l) a9)) rfl h1 g1 g2 g3 hA.p rfl (h2 _ _ (pE g2 g3) g4)
theorem OX{l:List UInt8}(h:lY l=0)(hv:(sE (gY l)).vd=0){m:MS}(hm:wb (dI l).nodes (dI l).vars.length (mT (dI l).nodes (dI l).vars.length (gb (gY l) a9)) m)(c:Int):
  wb (dI l).nodes (dI l).vars.length (mT (dI l).nodes (dI l).vars.length (gb (gY l) a9)) (kJ (dI l).nodes m c).1 :=
 afo (c:=Az (dI l).nodes (dI l).vars.length (gb (gY l) a9)) rfl (ZU h) (nL h).v (B7 (nL h) hv).1 hm c
theorem T1{l:List UInt8}(hv:(sE (gY l)).vd=0){m:MS}(hm:wb (dI l).nodes (dI l).vars.length (mT (dI l).nodes (dI l).vars.length (gb (gY l) a9)) m)(vs:List UInt8):
  qy vs (sE (gY l)) (m.nd:Int)≠[]:=by
 obtain⟨e,he,-⟩:=hm.fit;have e1:(sE (gY l)).kn=(mT (dI l).nodes (dI l).vars.length (gb (gY l) a9)).kn.map (λl=>l.map (·.f)):=by
  unfold sE CI Hg at hv ⊢;split at hv
  .cases hv
  .rename_i dM;rw[if_neg dM];rfl
 unfold qy ivL;rw[if_neg (by omega),Int.toNat_natCast,e1];intro hh;rw[map_eq_nil_iff,getD_eq_getElem?_getD,getElem?_map]at hh;unfold bN at he;rw[getD_eq_getElem?_getD]at he;cases hg:(mT (dI l).nodes (dI l).vars.length (gb (gY l) a9)).kn[m.nd]? with
 |none=>rw[hg]at he;simp at he
 |some y =>
  rw[hg]at he hh;simp only[Option.map_some,Option.getD_some,map_eq_nil_iff]at hh he;rw[hh]at he;simp at he
