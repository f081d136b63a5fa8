import Derived.Test.YtciihepbeacppaaGreatM25
set_option maxRecDepth 100000
set_option maxHeartbeats 0
namespace Go.Proofs.YtciihepbeacppaaGreat
open Tryz Go.RowKit List World Below
set_option linter.unusedVariables false
def KS(nds:List Nd)(k:Nat):List Bool:=(range k).foldl (λh i=>if iZ nds i=true then h.set (nds.getD i aI).nx true else h) (replicate nds.length false)
def Qc(nds:List Nd)(k:Nat):Bool:=(range k).any (iZ nds)
theorem O5(nds:List Nd)(k:Nat):KS nds (k+1)=if iZ nds k=true then (KS nds k).set (nds.getD k aI).nx true else KS nds k:=by
 unfold KS;rw[range_succ,foldl_append];rfl
theorem Qd(nds:List Nd)(k:Nat):Qc nds (k+1)=(Qc nds k||iZ nds k):=by
 unfold Qc;rw[range_succ,any_append];simp
def X9(w:World)(c:Cd)(c0:Value)(nds:List Nd)(S:Nat)(w':World):Prop :=
 ∃hv kv wv WV,Sh w' S c c0 hv kv wv (replicate nds.length aJ) WV (replicate nds.length []) (nL nds)/\Below w.heap.size w w'/\∀k∈cY S hv kv wv (replicate nds.length aJ) WV,w.heap.size<=k
theorem rC.sh{w W:World}{S:Nat}{c0 hv kv wv:Value}{WV:List Value}{nds:List Nd}{nv:Nat}{al:List ci}(h:rC w W S c0 hv kv wv WV (Qc nds nds.length) (KS nds nds.length) (!My nds nv al) nds.length nds.length):Sh W S (mF nds nv al) c0 hv kv wv (replicate nds.length aJ) WV (replicate nds.length []) (nL nds):=by
 have pw:∀{α:Type} (a:α),(replicate nds.length a).length=nds.length:=λa=>length_replicate;have aae:∀{α:Type} (a d:α) (i:Nat),i<nds.length->(replicate nds.length a).getD i d=a:=λa d i hi=>by simp[hi]
 refine⟨h.bs,?_,?_,λi hi=>?_,?_,λi hi=>?_,?_,?_,?_,?_,λl hl e he=>?_,h.ap,λk hk=>?_⟩
 .show W.ownsRow 0 _ 1 hv (Mj nds).length (dl (Mj nds));have e:(Mj nds).length=nds.length:=h.hl;rw[e];exact h.hr
 .rw[pw];exact h.kr
 .rw[pw]at hi;rw[aae _ _ i hi,aae _ _ i hi];exact⟨rfl,.inl ⟨rfl,rfl⟩⟩
 .rw[pw];exact h.wr
 .rw[pw]at hi;show W.ownsRow 0 _ 1 _ 5 (dl ((replicate nds.length (replicate 5 false)).getD i []));rw[aae _ _ i hi];exact h.we i hi
 .show(replicate nds.length (replicate 5 false)).length=_;rw[pw,pw]
 .rw[pw];exact h.hl
 .rw[pw];rfl
 .show replicate nds.length []=_;rw[map_replicate];rfl
 .rw[eq_of_mem_replicate hl]at he;simp at he
 .obtain⟨l,hl,e,he,-⟩:=bB.1 hk;rw[eq_of_mem_replicate hl]at he;simp at he
section
variable {w:World} {Q:Nat} {ws:List ByteArray} {ps:PS} {al:List ci} {vv pv nv:Value}
theorem Ng(h:Cp w Q ws ps al vv pv nv)(hA:MA al)(jO:ps.nodes.length<=100000)(Gc:ps.vars.length<=1000):
  Calls prog 139 #[.pointer (some ⟨Q,0,none⟩)] w λe w'=>∃S,e=.returned (.pointer (some ⟨S,0,none⟩))/\X9 w (mF ps.nodes ps.vars.length al) (.pointer (some ⟨Q,0,none⟩)) ps.nodes S w':=by
 have HSI:=ab (AU h hA jO Gc);obtain⟨na,nc,K6,-,-⟩:=am h.nr;subst K6;have c3:=h.bk.cell 3 rfl;have H:=ab h;obtain⟨nds,Dl⟩:∃nds,nds=ps.nodes:=⟨_,rfl⟩;obtain⟨sb,Cu⟩:∃sb,sb=My ps.nodes ps.vars.length al:=⟨_,rfl⟩;rw[<-Cu]at HSI;have HSB:=ab Cu;obtain⟨eH,dK⟩:∃eH:Nat->World->Prop,eH=λS w'=>X9 w (mF ps.nodes ps.vars.length al) (.pointer (some ⟨Q,0,none⟩)) ps.nodes S w':=⟨_,rfl⟩;have gC:=ab dK;rw[show(fun(e:Ending) (w':World)=>∃S,e=.returned (.pointer (some ⟨S,0,none⟩))/\X9 w (mF ps.nodes ps.vars.length al) (.pointer (some ⟨Q,0,none⟩)) ps.nodes S w')=(λe w'=>∃S,e=.returned (.pointer (some ⟨S,0,none⟩))/\eH S w') by rw[dK]];rw[<-Dl]at c3 jO gC HSB;have hQl:=h.bk.lt;have HND:Hid (∀i,(hi:i<nds.length)->∃g cap,Value.slice na ps.nodes.length nc=.slice (some ⟨g,0,none⟩) nds.length cap/\w.cell? ⟨g,i*6,none⟩=some (.int .i64 (nds[i].op:Int))/\w.cell? ⟨g,i*6+1,none⟩=some (.int .i64 (nds[i].v:Int))/\w.cell? ⟨g,i*6+2,none⟩=some (.int .i64 (nds[i].ak:Int))/\w.cell? ⟨g,i*6+3,none⟩=some (.int .i64 (nds[i].ai:Int))/\w.cell? ⟨g,i*6+4,none⟩=some (.int .i64 (nds[i].nx:Int))/\w.cell? ⟨g,i*6+5,none⟩=some (.int .i64 (nds[i].ot:Int))/\g<w.heap.size):=ab (by
  subst Dl;intro i hi;obtain⟨g,cap,e,x0,x1,x2,x3,x4,x5⟩:=h.nd hi;exact⟨g,cap,e,x0,x1,x2,x3,x4,x5,block_lt_of_cell? w _ x0⟩)
 have kX:=ab (zq2 Dl jO);have arK:=run_make_row' (P:=prog) 200 4 (.bool false) 1 underlying200 infoBl rfl .i64 .i64 nds.length (by omega) (by omega);have arL:=run_make_row' (P:=prog) 226 255 (.slice none 0 0) 24 underlying226 infoEs rfl .i64 .i64 nds.length (by omega) (by omega);have arM:=run_make_row' (P:=prog) 227 200 (.slice none 0 0) 24 underlying227 infoBs rfl .i64 .i64 nds.length (by omega) (by omega);have arN:∀W:World,(Instr.makeSlice 200 (.int .i64 5) (.int .i64 5)).run prog W=.ok (.slice (some ⟨W.heap.size,0,none⟩) 5 5) (W.alloc (.cells (madeCells #[Value.bool false] 5) 4)):=run_make_row' (P:=prog) 200 4 (.bool false) 1 underlying200 infoBl rfl .i64 .i64 5 (by omega) (by omega);clear h hA Gc Cu dK Dl;go_enter func139,ntmps139;go_wp2_with fail
 refine(uh HSI).mono ?_;rintro e w1 ⟨rfl,bz⟩;have f8:=ab bz;clear bz HSI;go_upto_region 3 with fail;obtain⟨W2,jt⟩:∃W2,W2=w1.alloc (.cells #[Value.pointer (some ⟨Q,0,none⟩),.slice none 0 0,.bool false,.slice none 0 0,.slice none 0 0,.bool (!sb),.int .i64 3000,.int .i64 2097152,.bool false] 229):=⟨_,rfl⟩;have aW:Below w.heap.size w W2:=by rw[jt];exact(uh f8).trans ((ah w1 _).mono (uh f8).size)
 have KN:Bk W2 w1.heap.size 229 (qt (.pointer (some ⟨Q,0,none⟩)) (.slice none 0 0) false (.slice none 0 0) (.slice none 0 0) (!sb) 3000 2097152 false):=by rw[jt];exact Bk.new w1 _ _
 have Uu:=(uh f8).size;obtain⟨S,hS⟩:∃S,S=w1.heap.size:=⟨_,rfl⟩;rw[<-hS]at KN Uu;have H2:=ab (zq2 KN (zq2 aW Uu));rw[<-jt,<-hS];clear jt hS aW KN Uu f8;go_cut [] (λwx=>∃hB,Hid (Bk wx S 229 (qt (.pointer (some ⟨Q,0,none⟩)) (.slice (some ⟨hB,0,none⟩) nds.length nds.length) false (.slice none 0 0) (.slice none 0 0) (!sb) 3000 2097152 false)/\wx.ownsRow 0 4 1 (.slice (some ⟨hB,0,none⟩) nds.length nds.length) nds.length (dl (replicate nds.length false))/\S<hB/\Below w.heap.size w wx))
 case first =>
  obtain⟨iA,hb,Uu⟩:=uh H2;have e1:=(iA.alloc (.cells (madeCells #[Value.bool false] nds.length) 4)).cell 1 rfl;have z1:=(iA.alloc (.cells (madeCells #[Value.bool false] nds.length) 4)).frz 1;have Sy:=iA.lt;have bp:((W2.alloc (.cells (madeCells #[Value.bool false] nds.length) 4)).setCell ⟨S,1,none⟩ (.slice (some ⟨W2.heap.size,0,none⟩) nds.length nds.length)).ownsRow 0 4 1 (.slice (some ⟨W2.heap.size,0,none⟩) nds.length nds.length) nds.length (dl (replicate nds.length false)):=by
   have h2:=ownsRow_lit (base:=0) (e:=4) (size:=1) W2 (madeCells #[Value.bool false] nds.length) nds.length (zq5 _) (by have:=(uh kX).2;simp[maxLen];omega) (by simp[madeCells]);rw[toList_madeCells_one]at h2;have e:dl (replicate nds.length false)=replicate nds.length (Value.bool false):=(by unfold dl;rw[map_replicate]);rw[e];exact cE h2 (p:=⟨S,1,none⟩) (by show some W2.heap.size≠some S;intro e;injection e with e;omega) _
  have HN:=ab (zq2 ((iA.alloc (.cells (madeCells #[Value.bool false] nds.length) 4)).set 1 (.slice (some ⟨W2.heap.size,0,none⟩) nds.length nds.length)) (zq2 bp (zq2 Sy ((hb.trans ((ah W2 (.cells (madeCells #[Value.bool false] nds.length) 4)).mono hb.size)).setCell (p:=⟨S,1,none⟩) Uu (.slice (some ⟨W2.heap.size,0,none⟩) nds.length nds.length)))));clear iA hb Uu Sy bp;go_wp2_with fail
  go_meet
  exact⟨_,HN⟩
 case rest =>
 obtain⟨hB,hH⟩:=hcut;have Uu:=(uh H2).2.2;clear H2;go_upto_region 4 with fail;go_cut [] (λwx=>∃kB,Hid (Bk wx S 229 (qt (.pointer (some ⟨Q,0,none⟩)) (.slice (some ⟨hB,0,none⟩) nds.length nds.length) false (.slice (some ⟨kB,0,none⟩) nds.length nds.length) (.slice none 0 0) (!sb) 3000 2097152 false)/\wx.ownsRow 0 4 1 (.slice (some ⟨hB,0,none⟩) nds.length nds.length) nds.length (dl (replicate nds.length false))/\wx.ownsRow 0 255 1 (.slice (some ⟨kB,0,none⟩) nds.length nds.length) nds.length (replicate nds.length aJ)/\S<hB/\hB<kB/\Below w.heap.size w wx))
 case first =>
  obtain⟨iA,FZ,Cu,hb⟩:=uh hH;obtain⟨W3,hW3⟩:∃W3,W3=wc:=⟨_,rfl⟩;rw[<-hW3]at iA FZ hb ⊢;have e1:=(iA.alloc (.cells (madeCells #[Value.slice none 0 0] nds.length) 255)).cell 3 rfl;have z1:=(iA.alloc (.cells (madeCells #[Value.slice none 0 0] nds.length) 255)).frz 3;have Sy:=iA.lt;have Xc:=(FZ.lt hB rfl).2;have bp:((W3.alloc (.cells (madeCells #[Value.slice none 0 0] nds.length) 255)).setCell ⟨S,3,none⟩ (.slice (some ⟨W3.heap.size,0,none⟩) nds.length nds.length)).ownsRow 0 255 1 (.slice (some ⟨W3.heap.size,0,none⟩) nds.length nds.length) nds.length (replicate nds.length aJ):=by
   have h2:=ownsRow_lit (base:=0) (e:=255) (size:=1) W3 (madeCells #[Value.slice none 0 0] nds.length) nds.length (zq5 _) (by have:=(uh kX).2;simp[maxLen];omega) (by simp[madeCells]);rw[toList_madeCells_one]at h2;exact cE h2 (p:=⟨S,3,none⟩) (by show some W3.heap.size≠some S;intro e;injection e with e;omega) _
  have PG:=cE (FZ.alloc (.cells (madeCells #[Value.slice none 0 0] nds.length) 255)) (p:=⟨S,3,none⟩) (by show some hB≠some S;intro e;injection e with e;omega) (.slice (some ⟨W3.heap.size,0,none⟩) nds.length nds.length);have HN:=ab (zq2 ((iA.alloc (.cells (madeCells #[Value.slice none 0 0] nds.length) 255)).set 3 (.slice (some ⟨W3.heap.size,0,none⟩) nds.length nds.length)) (zq2 PG (zq2 bp (zq2 Cu (zq2 Xc ((hb.trans ((ah W3 (.cells (madeCells #[Value.slice none 0 0] nds.length) 255)).mono hb.size)).setCell (p:=⟨S,3,none⟩) Uu (.slice (some ⟨W3.heap.size,0,none⟩) nds.length nds.length)))))));clear iA FZ hb Sy bp PG hW3 hH Xc Cu;go_wp2_with fail
  go_meet
  exact⟨_,HN⟩
 case rest =>
 obtain⟨kB,hK⟩:=hcut;clear hH;go_upto_region 5 with fail;go_cut [] (λwx=>∃wB,Hid (Bk wx S 229 (qt (.pointer (some ⟨Q,0,none⟩)) (.slice (some ⟨hB,0,none⟩) nds.length nds.length) false (.slice (some ⟨kB,0,none⟩) nds.length nds.length) (.slice (some ⟨wB,0,none⟩) nds.length nds.length) (!sb) 3000 2097152 false)/\wx.ownsRow 0 4 1 (.slice (some ⟨hB,0,none⟩) nds.length nds.length) nds.length (dl (replicate nds.length false))/\wx.ownsRow 0 255 1 (.slice (some ⟨kB,0,none⟩) nds.length nds.length) nds.length (replicate nds.length aJ)/\wx.ownsRow 0 200 1 (.slice (some ⟨wB,0,none⟩) nds.length nds.length) nds.length (replicate nds.length aJ)/\S<hB/\hB<kB/\kB<wB/\Below w.heap.size w wx))
 case first =>
  obtain⟨iA,FZ,hrk,Cu,KN,hb⟩:=uh hK;obtain⟨W3,hW3⟩:∃W3,W3=wc:=⟨_,rfl⟩;rw[<-hW3]at iA FZ hrk hb ⊢;have e1:=(iA.alloc (.cells (madeCells #[Value.slice none 0 0] nds.length) 200)).cell 4 rfl;have z1:=(iA.alloc (.cells (madeCells #[Value.slice none 0 0] nds.length) 200)).frz 4;have Sy:=iA.lt;have Xc:=(hrk.lt kB rfl).2;have bp:((W3.alloc (.cells (madeCells #[Value.slice none 0 0] nds.length) 200)).setCell ⟨S,4,none⟩ (.slice (some ⟨W3.heap.size,0,none⟩) nds.length nds.length)).ownsRow 0 200 1 (.slice (some ⟨W3.heap.size,0,none⟩) nds.length nds.length) nds.length (replicate nds.length aJ):=by
   have h2:=ownsRow_lit (base:=0) (e:=200) (size:=1) W3 (madeCells #[Value.slice none 0 0] nds.length) nds.length (zq5 _) (by have:=(uh kX).2;simp[maxLen];omega) (by simp[madeCells]);rw[toList_madeCells_one]at h2;exact cE h2 (p:=⟨S,4,none⟩) (by show some W3.heap.size≠some S;intro e;injection e with e;omega) _
  have PG:=cE (FZ.alloc (.cells (madeCells #[Value.slice none 0 0] nds.length) 200)) (p:=⟨S,4,none⟩) (by show some hB≠some S;intro e;injection e with e;omega) (.slice (some ⟨W3.heap.size,0,none⟩) nds.length nds.length);have agH:=cE (hrk.alloc (.cells (madeCells #[Value.slice none 0 0] nds.length) 200)) (p:=⟨S,4,none⟩) (by show some kB≠some S;intro e;injection e with e;omega) (.slice (some ⟨W3.heap.size,0,none⟩) nds.length nds.length);have HN:=ab (zq2 ((iA.alloc (.cells (madeCells #[Value.slice none 0 0] nds.length) 200)).set 4 (.slice (some ⟨W3.heap.size,0,none⟩) nds.length nds.length)) (zq2 PG (zq2 agH (zq2 bp (zq2 Cu (zq2 KN (zq2 Xc ((hb.trans ((ah W3 (.cells (madeCells #[Value.slice none 0 0] nds.length) 200)).mono hb.size)).setCell (p:=⟨S,4,none⟩) Uu (.slice (some ⟨W3.heap.size,0,none⟩) nds.length nds.length)))))))));clear iA FZ hrk hb Sy bp PG agH hW3 hK Xc Cu KN;go_wp2_with fail
  go_meet
  exact⟨_,HN⟩
 case rest =>
 obtain⟨wB,hW⟩:=hcut;clear hK;have cF:Hid (rC w wc S (.pointer (some ⟨Q,0,none⟩)) (.slice (some ⟨hB,0,none⟩) nds.length nds.length) (.slice (some ⟨kB,0,none⟩) nds.length nds.length) (.slice (some ⟨wB,0,none⟩) nds.length nds.length) (replicate nds.length aJ) (Qc nds 0) (KS nds 0) (!sb) nds.length 0/\∀j,0<=j->(replicate nds.length aJ).getD j aJ=aJ):=ab (by
  obtain⟨h1,h2,h3,h4,h5,h6,h7,h8⟩:=uh hW;have tJ:∀j,(replicate nds.length aJ).getD j aJ=aJ:=λj=>by
   by_cases hj:j<nds.length
   .simp[hj]
   .rw[getD_eq_getElem?_getD,getElem?_eq_none (by rw[length_replicate];omega)];rfl
  have iH:∀i k,(pA S (.slice (some ⟨hB,0,none⟩) nds.length nds.length) (.slice (some ⟨kB,0,none⟩) nds.length nds.length) (.slice (some ⟨wB,0,none⟩) nds.length nds.length) (replicate nds.length aJ) (replicate nds.length aJ))[i]?=some (some k)->i=0/\k=S\/i=1/\k=hB\/i=2/\k=kB\/i=3/\k=wB:=λi k hi=>by
   rcases Qv hi with⟨a,b⟩|⟨a,e⟩|⟨a,e⟩|⟨a,e⟩|⟨j,hj,-,e⟩|⟨j,hj,-,e⟩
   .exact zq0 ⟨a,b⟩
   .exact zq1 (zq0 ⟨a,by injection e with e;exact e.symm⟩)
   .exact zq1 (zq1 (zq0 ⟨a,by injection e with e;exact e.symm⟩))
   .exact zq1 (zq1 (zq1 ⟨a,by injection e with e;exact e.symm⟩))
   .rw[tJ]at e;cases e
   .rw[tJ]at e;cases e
  refine⟨⟨h1,by unfold KS;simp,h2,h3,h4,λj hj=>by omega,λi j k hi hj=>?_,h8,λk hk=>?_⟩,λj _=>tJ j⟩
  .have a1:=iH i k hi;have a2:=iH j k hj;omega
  .obtain⟨i,hi⟩:=aU.1 hk;have a1:=iH i k hi;omega)
 clear hW;go_wp2_with fail
 go_loopg [5] nds.length (λgn iv wx=>∃(k:Nat) (WV:List Value),k+gn=nds.length/\iv=.int .i64 k/\Hid (rC w wx S (.pointer (some ⟨Q,0,none⟩)) (.slice (some ⟨hB,0,none⟩) nds.length nds.length) (.slice (some ⟨kB,0,none⟩) nds.length nds.length) (.slice (some ⟨wB,0,none⟩) nds.length nds.length) WV (Qc nds k) (KS nds k) (!sb) nds.length k/\∀j,k<=j->WV.getD j aJ=aJ))
 case atStart=>exact⟨0,_,by omega,rfl,cF⟩
 case round =>
  clear cF;obtain⟨k,WV,gu,rfl,hI⟩:=hrel;obtain⟨G1,ze⟩:∃G1,G1=gk:=⟨_,rfl⟩;by_cases au:k<nds.length
  .have hd:decide ((k:Int)<(nds.length:Int))=true:=(by simp;omega);obtain⟨h1,h2⟩:=uh hI;have d4:=h1.bs.cell 4 rfl;have ce:=ah wr (.cells (madeCells #[Value.bool false] 5) 4);have hrA:=h1.wr.alloc (.cells (madeCells #[Value.bool false] 5) 4);have e4:=(h1.bs.alloc (.cells (madeCells #[Value.bool false] 5) 4)).cell 4 rfl;have hwl:=h1.wl;have ck:=hrA.cellAt k (by omega);rw[getElem?_eq_getElem (by omega)]at ck;have zk:=hrA.frozenAt k;obtain⟨h3,h4⟩:=h1.row au h2 (o:=.cells (madeCells #[Value.bool false] 5) 4) rfl (wB:=wB) (wC:=nds.length) rfl;obtain⟨W4,yg⟩:∃W4,W4=(wr.alloc (.cells (madeCells #[Value.bool false] 5) 4)).setCell ⟨wB,k,none⟩ (.slice (some ⟨wr.heap.size,0,none⟩) 5 5):=⟨_,rfl⟩;rw[<-yg]at h3;have i1:(0:Int)<=(k:Int):=(by omega);have i2:(k:Int)<(nds.length:Int):=(by omega);have H3:=ab (zq2 h3 h4);clear h1 h2 ce hrA h3 h4 hI;go_upto_region 9 with fail;go_cut [] (λwx=>∃WV',Hid (rC w wx S (.pointer (some ⟨Q,0,none⟩)) (.slice (some ⟨hB,0,none⟩) nds.length nds.length) (.slice (some ⟨kB,0,none⟩) nds.length nds.length) (.slice (some ⟨wB,0,none⟩) nds.length nds.length) WV' (Qc nds k) (KS nds k) (!sb) nds.length (k+1)/\∀j,k+1<=j->WV'.getD j aJ=aJ))
   case first =>
    go_region
    all_goals
     go_wp2_with fail
     go_meet
     exact⟨_,ab ⟨(uh H3).1.of_eq (by omega) (λq _=>by rw[yg];rfl) ⟨by have:=(uh H3).1.bl.os;rw[yg]at this;exact this,by have:=(uh H3).1.bl.tape;rw[yg]at this;exact this,by have:=(uh H3).1.bl.output;rw[yg]at this;exact this,by have:=(uh H3).1.bl.size;rw[yg]at this;exact this,by have:=(uh H3).1.bl.block;rw[yg]at this;exact this⟩,(uh H3).2⟩⟩
   case rest =>
    clear H3 yg ck zk e4 d4 hwl;obtain⟨WV',hH⟩:=hcut;obtain⟨g,cap2,dE,x0,x1,x2,x3,x4,x5,nY⟩:=uh HND k au;have hqc:=((uh hH).1.bl.cell hQl).trans c3;simp only[Value.slice.injEq]at dE;obtain⟨rfl,-,rfl⟩:=dE;have x0:=((uh hH).1.bl.cell nY).trans x0;have x1:=((uh hH).1.bl.cell nY).trans x1;have x2:=((uh hH).1.bl.cell nY).trans x2;have x3:=((uh hH).1.bl.cell nY).trans x3;have x4:=((uh hH).1.bl.cell nY).trans x4;have x5:=((uh hH).1.bl.cell nY).trans x5;have iA:iZ nds k=(decide (nds[k].op=10)&&decide (nds[k].nx<k)):=(by unfold iZ;rw[bF au]);have hhs:=O5 nds k;have hls:=Qd nds k;rw[bF au]at hhs;obtain⟨nd,dF⟩:∃nd,nd=nds[k]:=⟨_,rfl⟩;rw[<-dF]at x0 x1 x2 x3 x4 x5 iA hhs;obtain⟨W5,s7⟩:∃W5,W5=wc.alloc (.cells #[Value.int .i64 (nd.op:Int),.int .i64 (nd.v:Int),.int .i64 (nd.ak:Int),.int .i64 (nd.ai:Int),.int .i64 (nd.nx:Int),.int .i64 (nd.ot:Int)] 186):=⟨_,rfl⟩;have ce:Below wc.heap.size wc W5:=(by rw[s7];exact ah wc _);have mZ:Bk W5 wc.heap.size 186 nd.cells:=(by rw[s7];exact Bk.new wc _ _);obtain⟨Y,xM⟩:∃Y,Y=wc.heap.size:=⟨_,rfl⟩;rw[<-xM]at mZ;have h5:=(uh hH).1.below (by omega) (uh hH).2 ce;have y0:=mZ.cell 0 rfl;have y4:=mZ.cell 4 rfl;have Xl:=mZ.lt;have hYn:∀q∈cY S (.slice (some ⟨hB,0,none⟩) nds.length nds.length) (.slice (some ⟨kB,0,none⟩) nds.length nds.length) (.slice (some ⟨wB,0,none⟩) nds.length nds.length) (replicate nds.length aJ) WV',q≠Y:=λq hq e=>by have:=(uh hH).1.lt (uh hH).2 q hq;omega
    have H5:=ab (zq2 h5 (uh hH).2);have GY:=ab iA;have HHS:=ab hhs;have HLS:=ab hls;have HYN:=ab hYn;clear ce mZ h5 iA hhs hls dF hYn hH;go_upto_region 11 with fail;rw[<-s7,<-xM];clear s7 xM x0 x1 x2 x3 x4 x5 hqc;by_cases Iu:nd.op=10
    .have d0:((nd.op:Int)==(10:Int))=true:=(by simp[Iu]);by_cases hb:nd.nx<k
     .have d1:decide ((nd.nx:Int)<(k:Int))=true:=(by simp;omega);have d1':decide (nd.nx<k)=true:=(by simpa using hb);have yh:iZ nds k=true:=(by rw[uh GY];simp[Iu,hb]);have bY:=(uh H5).1.bs.cell 1 rfl;have hhl:=(uh H5).1.hl;have hcA:=(uh H5).1.hr.cellAt nd.nx (by omega);rw[fP (by omega)]at hcA;have hzA:=(uh H5).1.hr.frozenAt nd.nx;have h6:=(uh H5).1.head (by omega) (n:=nd.nx) (hB:=hB) (hC:=nds.length) rfl;have H6:=ab h6;have HBT:=ab yh;have m1:(0:Int)<=(nd.nx:Int):=(by omega);have m2:(nd.nx:Int)<(nds.length:Int):=(by omega);clear h6 yh hhl Iu hb;go_upto_region 12 with fail;go_cut [] (λwx=>Hid (rC w wx S (.pointer (some ⟨Q,0,none⟩)) (.slice (some ⟨hB,0,none⟩) nds.length nds.length) (.slice (some ⟨kB,0,none⟩) nds.length nds.length) (.slice (some ⟨wB,0,none⟩) nds.length nds.length) WV' (Qc nds k) ((KS nds k).set nd.nx true) (!sb) nds.length (k+1)))
      case first =>
       go_region
       all_goals
        go_wp2_with fail
        go_meet
        exact ab ((uh H6).of_eq (by omega) (λq _=>rfl) ⟨(uh H6).bl.os,(uh H6).bl.tape,(uh H6).bl.output,(uh H6).bl.size,(uh H6).bl.block⟩)
      case rest =>
       clear H6 y0 y4 bY hcA hzA;have s2:=(uh hcut).bs.cell 2 rfl;have s2z:=(uh hcut).bs.frz 2;have HN:Hid (rC w (wc.setCell ⟨S,2,none⟩ (.bool true)) S (.pointer (some ⟨Q,0,none⟩)) (.slice (some ⟨hB,0,none⟩) nds.length nds.length) (.slice (some ⟨kB,0,none⟩) nds.length nds.length) (.slice (some ⟨wB,0,none⟩) nds.length nds.length) WV' (Qc nds (k+1)) (KS nds (k+1)) (!sb) nds.length (k+1)/\∀j,k+1<=j->WV'.getD j aJ=aJ):=ab (by
        rw[uh HLS,uh HHS,uh HBT,if_pos rfl,Bool.or_true];exact⟨(uh hcut).loop (by omega),(uh H5).2⟩)
       clear hcut;go_wp2_with fail
       go_roundg (G1-1)
       case rel=>exact⟨k+1,_,by omega,by go_num,HN⟩
       case measure=>omega
     .have d1:decide ((nd.nx:Int)<(k:Int))=false:=(by simp;omega);have d1':decide (nd.nx<k)=false:=(by simpa using hb);have yh:iZ nds k=false:=(by rw[uh GY];simp[hb]);have HN:Hid (rC w W5 S (.pointer (some ⟨Q,0,none⟩)) (.slice (some ⟨hB,0,none⟩) nds.length nds.length) (.slice (some ⟨kB,0,none⟩) nds.length nds.length) (.slice (some ⟨wB,0,none⟩) nds.length nds.length) WV' (Qc nds (k+1)) (KS nds (k+1)) (!sb) nds.length (k+1)/\∀j,k+1<=j->WV'.getD j aJ=aJ):=ab (by
       rw[uh HLS,uh HHS,yh,if_neg (by decide),Bool.or_false];exact uh H5)
      clear yh Iu hb;go_wp2_with fail
      go_roundg (G1-1)
      case rel=>exact⟨k+1,_,by omega,by go_num,HN⟩
      case measure=>omega
    .have d0:((nd.op:Int)==(10:Int))=false:=(by simp;omega);have yh:iZ nds k=false:=(by rw[uh GY];simp[Iu]);have HN:Hid (rC w W5 S (.pointer (some ⟨Q,0,none⟩)) (.slice (some ⟨hB,0,none⟩) nds.length nds.length) (.slice (some ⟨kB,0,none⟩) nds.length nds.length) (.slice (some ⟨wB,0,none⟩) nds.length nds.length) WV' (Qc nds (k+1)) (KS nds (k+1)) (!sb) nds.length (k+1)/\∀j,k+1<=j->WV'.getD j aJ=aJ):=ab (by
      rw[uh HLS,uh HHS,yh,if_neg (by decide),Bool.or_false];exact uh H5)
     clear yh Iu;go_wp2_with fail
     go_roundg (G1-1)
     case rel=>exact⟨k+1,_,by omega,by go_num,HN⟩
     case measure=>omega
  .have hd:decide ((k:Int)<(nds.length:Int))=false:=(by simp;omega);have gJ:k=nds.length:=(by omega);have HP:Hid (eH S wr):=ab (by
    rw[uh gC];obtain⟨h1,h2⟩:=uh hI;rw[gJ,uh HSB]at h1;exact⟨_,_,_,WV,h1.sh,h1.bl,h1.ge⟩)
   clear gJ hI;go_wp2_with fail
   go_ret;exact⟨S,rfl,uh HP⟩
end
theorem Ib:∀(l:List Pr) (seen:List Nat),tG seen l=false->(l.map (·.l)).Nodup/\∀p∈l,p.l ∉ seen
 |[],_,_=>⟨nodup_nil,λp hp=>by simp at hp⟩
 |p::l,seen,h=>by
  unfold tG at h;split at h
  .cases h
  .rename_i hn;obtain⟨h1,h2⟩:=Ib l _ h;refine⟨?_,λq hq=>?_⟩
   .rw[map_cons,nodup_cons];refine⟨λhm=>?_,h1⟩;obtain⟨q,hq,e⟩:=mem_map.1 hm;exact h2 q hq (by rw[e];exact mem_cons_self)
   .rcases mem_cons.1 hq with rfl|hq
    .exact hn
    .exact λhm=>h2 q hq (mem_cons_of_mem _ hm)
theorem mS{al:List ci}(ht:vm al)(hf:gH (bW al)=false):aj (bW al):=by
 have hl:=Br ht;have dT:(bW al).cl.length=5:=by show((nz al).take 5).length=5;rw[length_take];omega
 refine aj.mk' dT (λc hc=>?_) (λp hp=>?_) (λp hp=>?_) ?_ (λp hp=>?_)
 .obtain⟨i,hi,rfl⟩:=mem_iff_getElem.1 hc;have h5:i<5:=by omega
  have h1:=Hy (al:=al) h5;rw[bF hi]at h1;rw[h1];have:=Bs ht (i:=i) (by omega);omega
 .obtain⟨a,ha,rfl⟩:=mem_map.1 hp;exact BD ht (mem_filter.1 ha).1
 .obtain⟨a,ha,rfl⟩:=mem_map.1 hp;exact BD ht (mem_filter.1 ha).1
 .unfold gH at hf;rw[Bool.or_eq_false_iff]at hf;exact(Ib _ _ hf.2).1
 .obtain⟨a,ha,rfl⟩:=mem_map.1 hp;have h1:=(mem_filter.1 ha).2;have h2:a.k=2:=by simpa using h1
  exact h2
theorem kz{f:CF}(h:aj f)(nv:Nat):aj (sV f nv):=by
 refine aj.mk' (by simp[sV]) (λc hc=>?_) h.ow h.ap h.lf h.kd;obtain⟨i,-,rfl⟩:=mem_map.1 hc;split <;> exact h.get _
def Cc(f:CF)(nv k:Nat):List Nat:=(range 5).map (λi=>if nv<i/\i<k then f.cl.getD 0 0 else f.cl.getD i 0)
theorem iy(f:CF)(nv k:Nat):(Cc f nv k).length=5:=by simp[Cc]
theorem uc{f:CF}{nv k i:Nat}(hi:i<5):(Cc f nv k).getD i 0=if nv<i/\i<k then f.cl.getD 0 0 else f.cl.getD i 0:=by unfold Cc;simp[hi]
theorem Kl{f:CF}(h5:f.cl.length=5)(nv:Nat):Cc f nv (1+nv)=f.cl:=by
 apply ext_getElem?;intro i;by_cases hi:i<5
 .have h1:=uc (f:=f) (nv:=nv) (k:=1+nv) hi;rw[if_neg (by omega)]at h1;rw[bF (by rw[iy];exact hi),bF (by omega)]at h1;rw[getElem?_eq_getElem (by rw[iy];exact hi),getElem?_eq_getElem (by omega),h1]
 .rw[getElem?_eq_none (by rw[iy];omega),getElem?_eq_none (by omega)]
theorem NY{f:CF}{nv k:Nat}(h1:nv<k)(hk:k<5):(Cc f nv k).set k (f.cl.getD 0 0)=Cc f nv (k+1):=by
 apply ext_getElem?;intro i;by_cases hi:i<5
 .have g1:=uc (f:=f) (nv:=nv) (k:=k+1) hi;rw[bF (by rw[iy];exact hi)]at g1;rw[getElem?_eq_getElem (l:=Cc f nv (k+1)) (by rw[iy];exact hi),g1];by_cases e:k=i
  .subst e;rw[getElem?_set_self (by rw[iy];exact hi),if_pos (by omega)]
  .have g2:=uc (f:=f) (nv:=nv) (k:=k) hi;rw[bF (by rw[iy];exact hi)]at g2;rw[getElem?_set_ne e,getElem?_eq_getElem (by rw[iy];exact hi),g2];congr 1;by_cases c1:nv<i/\i<k
   .rw[if_pos c1,if_pos (by omega)]
   .rw[if_neg c1,if_neg (by omega)]
 .rw[getElem?_eq_none (by rw[length_set,iy];omega),getElem?_eq_none (by rw[iy];omega)]
theorem TO(f:CF)(nv:Nat):{ f with cl:=Cc f nv 5 }=sV f nv:=by
 unfold sV Cc;congr 1;apply map_congr_left;intro i hi;rw[mem_range]at hi;by_cases c1:nv<i
 .rw[if_pos c1,if_pos (by omega)]
 .rw[if_neg c1,if_neg (by omega)]
section
variable {w:World} {S:Nat} {c:Cd} {hv kv wv:Value} {KV WV:List Value} {K:List (List En)} {s:Sr}
theorem N4{Q:Nat}{ws:List ByteArray}{ps:PS}{al:List ci}{vv pv nvv:Value}(h:Sh w S c (.pointer (some ⟨Q,0,none⟩)) hv kv wv KV WV K s)(hC:Cp w Q ws ps al vv pv nvv)(kD:c.nds=ps.nodes)(hA:MA al)(Gc:ps.vars.length<=4)(hK0:0<K.length)(ye:K.length<=100000){fuel:Nat}(bm:(io c fuel ps.vars.length al s).ok=true):
  Calls prog 140 #[.pointer (some ⟨S,0,none⟩)] w λe w'=>e=.returned (.tuple #[])/\ik w S c (.pointer (some ⟨Q,0,none⟩)) hv kv wv KV WV K [] (io c fuel ps.vars.length al s) w':=by
 have c0:=h.bs.cell 0 rfl;have hQ2:=hC.bk.cell 2 rfl;have jO:=h.nl;obtain⟨na,nc,K6,-,-⟩:=am hC.nr;subst K6;obtain⟨va,vc,AL,-,-⟩:=am hC.vr;subst AL;have Ta:=ab (ahh hC.pr hA.tm hA.le hA.bd);have fI:ps.nodes.length=K.length:=by rw[<-kD];exact jO
 have H:=ab h;have HC:=ab hC;have HTM:=ab hA.tm;have ajk:=ab hA.le;have mq:=ab bm;obtain⟨V,hV⟩:∃V,V=ps.vars.length:=⟨_,rfl⟩;have MI:Hid (io c fuel ps.vars.length al s=if gH (bW al)=true then s else dU c fuel (K.length-1) 0 (aQ (sV (bW al) V)) s):=ab (by unfold io;rw[jO,hV]);obtain⟨eH,dK⟩:∃eH:World->Prop,eH=λw'=>ik w S c (.pointer (some ⟨Q,0,none⟩)) hv kv wv KV WV K [] (io c fuel ps.vars.length al s) w':=⟨_,rfl⟩;have gC:=ab dK;rw[show(fun(e:Ending) (w':World)=>e=.returned (.tuple #[])/\ik w S c (.pointer (some ⟨Q,0,none⟩)) hv kv wv KV WV K [] (io c fuel ps.vars.length al s) w')=(λe w'=>e=.returned (.tuple #[])/\eH w') by rw[dK]];clear h hC kD hA bm dK jO;go_enter func140,ntmps140;go_wp2_with fail
 refine(uh Ta).mono ?_;rintro e w1 ⟨A,fav,fov,rfl,hF,cW,bz,dF⟩;have hrm:=aeB (uh HTM);have Cg:(bW al).cl.getD 0 0<24:=by
  have h1:=Bs (uh HTM) (i:=0) (by omega);rw[Hy (by omega)];omega
 have EW:=ab (Kn hF hrm Cg);have H1:=ab (zq2 hF (zq2 cW (zq2 bz dF)));clear hF cW bz dF hrm Cg Ta c0 hQ2;cases lq:gH (bW al)
 .rw[lq]at EW;have O8:=mS (uh HTM) lq;have J3:Hid (io c fuel ps.vars.length al s=dU c fuel (K.length-1) 0 (aQ (sV (bW al) V)) s):=ab (by rw[uh MI,lq,if_neg (by decide)]);obtain⟨f,hf⟩:∃f,f=bW al:=⟨_,rfl⟩;rw[<-hf]at O8 J3 H1;have Ye:Hid (f.ap.length<=100000):=ab (by
   have h3:f.ap.length<=al.length:=by
    rw[hf];show((al.filter _).map _).length<=_;rw[length_map];exact length_filter_le _ _
   have h4:=uh ajk;omega)
  have Yl:=ab O8;clear lq MI hf O8;go_wp2_with fail
  refine(uh EW).mono ?_;rintro e w2 ⟨rfl,aW⟩;obtain⟨hF,cW,bz,dF⟩:=uh H1;have Ay:=bz.trans (aW.mono bz.size);have pp:Fm w2 A f fav fov:=⟨hF.below aW,dF,(uh Yl).c5⟩;have H2:=ab (zq2 Ay (zq2 pp cW));have vO:=(uh HC).below Ay;have gS:=(uh H).below Ay;have e0:=gS.bs.cell 0 rfl;have q1:=vO.bk.cell 1 rfl;rw[<-hV]at q1 Gc;have cF:Hid (Fm w2 A { f with cl:=Cc f V (1+V) } fav fov/\Below w.heap.size w w2):=ab ⟨by rw[Kl (uh Yl).c5];exact pp,Ay⟩;clear hF cW bz dF Ay pp vO gS aW EW;go_wp2_with fail
  go_loopg [3] (4-V) (λgn iv wx=>∃(k:Nat),k+gn=5/\1+V<=k/\iv=.int .i64 k/\Hid (Fm wx A { f with cl:=Cc f V k } fav fov/\Below w.heap.size w wx))
  case atStart=>exact⟨1+V,by omega,by omega,by go_num,cF⟩
  case round =>
   clear cF e0 q1;obtain⟨k,gu,hkV,rfl,hI⟩:=hrel;obtain⟨G1,ze⟩:∃G1,G1=gk:=⟨_,rfl⟩;by_cases au:k<5
   .have hd:decide ((k:Int)<(5:Int))=true:=(by simp;omega);have hF:=(uh hI).1;have x0:=hF.is.cls (i:=0) (by omega);have e00:({ f with cl:=Cc f V k }:CF).cl.getD 0 0=f.cl.getD 0 0:=by
     show(Cc f V k).getD 0 0=_;rw[uc (by omega),if_neg (by omega)]
    unfold gZ at x0;rw[e00]at x0;have xk:=hF.is.cls (i:=k) au;have xz:=ownsRow.frozenAt hF.is.ob k;have h3:=hF.setCl k (f.cl.getD 0 0) au;have e1:({ ({ f with cl:=Cc f V k }:CF) with cl:=({ f with cl:=Cc f V k }:CF).cl.set k (f.cl.getD 0 0) }:CF)={ f with cl:=Cc f V (k+1) }:=by
     show({ f with cl:=(Cc f V k).set k (f.cl.getD 0 0) }:CF)=_;rw[NY (by omega) au]
    rw[e1]at h3;have hAw:w.heap.size<=A:=(uh H2).2.2 A (by simp[aG]);obtain⟨cz,hcz⟩:∃cz,cz=f.cl.getD 0 0:=⟨_,rfl⟩;rw[<-hcz]at x0 h3;have HN:=ab (zq2 h3 ((uh hI).2.setCell (p:=⟨A,k,none⟩) hAw (.int .i64 (cz:Int))));have k1:(0:Int)<=(k:Int):=(by omega);have k2:(k:Int)<5:=(by omega);clear hF e00 h3 e1 hcz hI;go_upto_region 5 with fail;go_region
    all_goals
     go_wp2_with fail
     go_roundg (G1-1)
     case rel=>exact⟨k+1,by omega,by omega,by go_num,ab ⟨(uh HN).1.of_eq (λ_ _=>rfl),⟨(uh HN).2.os,(uh HN).2.tape,(uh HN).2.output,(uh HN).2.size,(uh HN).2.block⟩⟩⟩
     case measure=>omega
   .have hd:decide ((k:Int)<(5:Int))=false:=(by simp;omega);have FP:k=5:=(by omega);obtain⟨hF,hb⟩:=uh hI;rw[FP,TO]at hF;have hfe:=kz (uh Yl) V;have Hc:=ab (lJ hF hfe (uh Ye));have HI:=ab hb;have HFE:=ab hfe;clear hF hb hfe hI FP;go_wp2_with fail
    refine(uh Hc).mono ?_;rintro e w4 ⟨rfl,av4,ov4,r9,fD⟩;have cW:=(uh H2).2.2;have Mp:ii w w4 (cY S hv kv wv KV WV) (cY S hv kv wv KV WV) (er K) (er K) []:=(ii.below (X:=[]) (uh HI)).trans (ii.stp (X:=aG A fav fov) fD (λq hq=>zq1 hq)) (λq hq=>zq1 (cW q hq));have iE:∀q,q<w.heap.size->w4.heap[q]?=w.heap[q]?:=λq hq=>(fD.block q (zq6 hq (uh HI).size) (λe=>by have:=cW q e;omega)).trans ((uh HI).block q hq);have vZ:=(uh H).of_eq (λq hq=>iE q ((uh H).lt q hq)) (λq hq=>iE q ((uh H).drlt q hq));have Xp:=(uh HC).of_eq (λq hq=>iE q ((uh HC).lt q hq));have e0:=vZ.bs.cell 0 rfl;have q3:=Xp.bk.cell 3 rfl;rw[fI]at q3;have UC:∀q∈aG A av4 ov4,w.heap.size<=q:=λq hq=>by
     rcases fD.foot q hq with p|p
     .exact cW q p
     .exact zq3 (uh HI).size p
    have ags:(dU c fuel (K.length-1) 0 (aQ (sV f V)) s).ok=true:=(by rw[<-uh J3];exact uh mq);obtain⟨m,hm⟩:∃m,m=K.length-1:=⟨_,rfl⟩;have SY:=ab (rO (x:=⟨A,aQ (sV f V),av4,ov4⟩) vZ r9 (uh HFE).tidy (λq hq=>⟨λe=>by have:=(uh H).lt q e;have:=UC q hq;omega,λe=>by have:=(uh H).drlt q e;have:=UC q hq;omega⟩) (a:=K.length-1) (n:=0) (by omega) hK0 ye ags);have HG4:=ab (zq2 Mp UC);rw[<-hm]at SY J3;have hqm:IntKind.i64.wrap ((K.length:Int)-1)=(m:Int):=(by rw[IntKind.wrap_i64];omega);clear r9 fD Mp iE vZ Xp UC ags hm Hc cW;go_wp2_with fail
    refine(uh SY).mono ?_;rintro e w5 ⟨rfl,KV',K',p1,p2,p3⟩;have HP:Hid (eH w5):=ab (by
     rw[uh gC,uh J3];exact⟨KV',K',p1,p2,(uh HG4).1.trans p3 (λq hq=>zq1 ((uh HG4).2 q hq))⟩)
    clear p1 p2 p3 SY;go_wp2_with fail
    go_end0
    exact⟨rfl,uh HP⟩
 .rw[lq]at EW;have J3:Hid (io c fuel ps.vars.length al s=s):=ab (by rw[uh MI,lq,if_pos rfl]);clear lq MI;go_wp2_with fail
  refine(uh EW).mono ?_;rintro e w2 ⟨rfl,aW⟩;have HP:Hid (eH w2):=ab (by
   rw[uh gC,uh J3];have Ay:=(uh H1).2.2.1.trans (aW.mono (uh H1).2.2.1.size);exact⟨KV,K,(uh H).below Ay,rfl,ii.below Ay⟩)
  clear aW EW;go_wp2_with fail
  refine bodyPost_ret (results_none rfl _ _ _) rfl ?_;exact⟨rfl,uh HP⟩
end
theorem infoAl:(prog.info? 82).map (λi=>(i.zero,i.size,i.bytes))=some (some (.agg #[.int .i64 0,.int .i64 0]),2,16):=by kernel_rfl
theorem infoFs:(prog.info? 125).map (λi=>(i.zero,i.size,i.bytes))=some (some (.slice none 0 0),1,24):=by kernel_rfl
def xJ(l:List (Nat × Nat)):List Value:=l.flatMap (λp=>[.int .i64 (p.1:Int),.int .i64 (p.2:Int)])
theorem Hh(l m:List (Nat × Nat)):xJ (l++m)=xJ l++xJ m:=by unfold xJ;rw[flatMap_append]
def tQ(RB:Nat)(av kv:Value)(FV:List Value):List (Option Nat):=some RB::av.ownBlock::kv.ownBlock::FV.map Value.ownBlock
structure Rz(w W:World)(RB vd:Nat)(av kv:Value)(al:List (Nat × Nat))(FV:List Value)(L:List (List FE)):Prop where
 bk:Bk W RB 118 [.int .i64 (vd:Int),av,kv]
 al:W.ownsRow 0 82 2 av al.length (xJ al)
 kr:W.ownsRow 0 125 1 kv L.length FV
 ke:∀i,i<L.length->W.ownsRow 0 126 1 (FV.getD i aJ) (L.getD i []).length ((L.getD i []).map FE.p)
 ap:Apt (tQ RB av kv FV)
 ge:∀k∈T8 (tQ RB av kv FV),w.heap.size<=k
 bl:Below w.heap.size w W
section
variable {w W W' W1:World} {RB vd:Nat} {av kv:Value} {al:List (Nat × Nat)} {FV:List Value} {L:List (List FE)}
theorem GG{i:Nat}(hi:i<FV.length):(tQ RB av kv FV)[3+i]?=some (FV.getD i aJ).ownBlock:=by
 unfold tQ;rw[show 3+i=i+1+1+1 by omega];simp only[getElem?_cons_succ];simp[hi]
theorem zG{i k:Nat}(h:(tQ RB av kv FV)[i]?=some (some k)):i=0/\k=RB\/i=1/\av.ownBlock=some k\/i=2/\kv.ownBlock=some k\/∃j,j<FV.length/\i=3+j/\(FV.getD j aJ).ownBlock=some k:=by
 unfold tQ at h;match i with
 |0=>left;simpa[eq_comm] using h
 |1=>right;left;simpa using h
 |2=>right;right;left;simpa using h
 |i+3 =>
  right;right;right;simp only[getElem?_cons_succ]at h;have hl:i<FV.length:=by
   have:=(List.getElem?_eq_some_iff.1 h).1;simpa using this
  exact⟨i,hl,by omega,by simpa[hl] using h⟩
theorem Rz.fl(h:Rz w W RB vd av kv al FV L):FV.length=L.length:=by have:=h.kr.1;omega
theorem Rz.lt(h:Rz w W RB vd av kv al FV L):∀k∈T8 (tQ RB av kv FV),k<W.heap.size:=by
 intro k hk;obtain⟨i,hi⟩:=aU.1 hk;rcases zG hi with⟨-,rfl⟩|⟨-,e⟩|⟨-,e⟩|⟨j,hj,-,e⟩
 .exact h.bk.lt
 .exact(h.al.lt k e).2
 .exact(h.kr.lt k e).2
 .exact((h.ke j (by rw[<-h.fl];exact hj)).lt k e).2
theorem Rz.of_eq(h:Rz w W RB vd av kv al FV L)(he:∀k∈T8 (tQ RB av kv FV),W'.heap[k]?=W.heap[k]?)(hb:Below w.heap.size w W'):Rz w W' RB vd av kv al FV L:=by
 have hf:=h.fl;exact⟨h.bk.of_eq (he RB (aU.2 ⟨0,rfl⟩)),ae h.al (λk hk=>he k (aU.2 ⟨1,congrArg some hk⟩)),ae h.kr (λk hk=>he k (aU.2 ⟨2,congrArg some hk⟩)),λi hi=>ae (h.ke i hi) (λk hk=>he k (aU.2 ⟨_,(GG (by omega)).trans (congrArg some hk)⟩)),h.ap,h.ge,hb⟩
theorem Rz.below(h:Rz w W RB vd av kv al FV L)(hb:Below W.heap.size W W'):Rz w W' RB vd av kv al FV L:=h.of_eq (λk hk=>hb.block k (h.lt k hk)) (h.bl.trans (hb.mono h.bl.size))
theorem Rz.verd(h:Rz w W RB vd av kv al FV L):Rz w (W.setCell ⟨RB,0,none⟩ (.int .i64 1)) RB 1 av kv al FV L:=by
 have hf:=h.fl;have aH:∀p k,p≠0->(tQ RB av kv FV)[p]?=some (some k)->(W.setCell ⟨RB,0,none⟩ (.int .i64 1)).heap[k]?=W.heap[k]?:=λp k hp hk=>heap_setCell _ _ _ _ (λe=>hp (h.ap p 0 k hk (by rw[show k=RB from e];rfl)));exact⟨h.bk.set 0 (.int .i64 1),ae h.al (λk hk=>aH 1 k (by omega) (congrArg some hk)),ae h.kr (λk hk=>aH 2 k (by omega) (congrArg some hk)),λi hi=>ae (h.ke i hi) (λk hk=>aH _ k (by omega) ((GG (by omega)).trans (congrArg some hk))),h.ap,h.ge,h.bl.setCell (p:=⟨RB,0,none⟩) (h.ge RB (aU.2 ⟨0,rfl⟩)) _⟩
theorem Rz.alarm(h:Rz w W RB vd av kv al FV L){p:Nat × Nat}{g c:Nat}(aL:W1.ownsRow 0 82 2 (.slice (some ⟨g,0,none⟩) (al.length+1) c) (al.length+1) (xJ al++[.int .i64 (p.1:Int),.int .i64 (p.2:Int)]))(hg:W.grownBy W1 av.ownBlock)(cB:some g=av.ownBlock\/g=W.heap.size):
  Rz w (W1.setCell ⟨RB,1,none⟩ (.slice (some ⟨g,0,none⟩) (al.length+1) c)) RB vd (.slice (some ⟨g,0,none⟩) (al.length+1) c) kv (al++[p]) FV L/\Bk W1 RB 118 [.int .i64 (vd:Int),av,kv]:=by
 have hf:=h.fl;have tK:∀q k,q≠1->(tQ RB av kv FV)[q]?=some (some k)->W1.heap[k]?=W.heap[k]?:=λq k hq hk=>hg.block k (h.lt k (aU.2 ⟨q,hk⟩)) (λe=>hq (h.ap q 1 k hk (congrArg some e.symm)));have hgR:g≠RB:=λe=>by
  rcases cB with q|q
  .have:=h.ap 1 0 RB (by rw[<-e];exact congrArg some q.symm) rfl;omega
  .have:=h.bk.lt;omega
 have aH:∀q k,q≠0->q≠1->(tQ RB av kv FV)[q]?=some (some k)->(W1.setCell ⟨RB,1,none⟩ (.slice (some ⟨g,0,none⟩) (al.length+1) c)).heap[k]?=W.heap[k]?:=λq k h0 h1 hk=>(heap_setCell _ _ _ _ (λe=>h0 (h.ap q 0 k hk (by rw[show k=RB from e];rfl)))).trans (tK q k h1 hk);have iA:=h.bk.of_eq (tK 0 RB (by omega) rfl);have cS:tQ RB (.slice (some ⟨g,0,none⟩) (al.length+1) c) kv FV=(tQ RB av kv FV).set 1 (some g):=rfl;refine⟨⟨iA.set 1 _,?_,ae h.kr (λk hk=>aH 2 k (by omega) (by omega) (congrArg some hk)),λi hi=>ae (h.ke i hi) (λk hk=>aH _ k (by omega) (by omega) ((GG (by omega)).trans (congrArg some hk))),?_,λk hk=>?_,?_⟩,iA⟩
 .rw[length_append,length_singleton,Hh];exact cE aL (p:=⟨RB,1,none⟩) (by show some g≠some RB;intro e;injection e with e;exact hgR e) _
 .rw[cS];refine h.ap.set 1 (λk hk=>?_);injection hk with hk;subst hk;rcases cB with q|q
  .exact zq0 (congrArg some q.symm)
  .exact zq1 (λj hj=>by have:=h.lt g (aU.2 ⟨j,hj⟩);omega)
 .obtain⟨i,hi⟩:=aU.1 hk;rw[cS,getElem?_set]at hi;split at hi
  .split at hi
   .simp only[Option.some.injEq]at hi;subst hi;rcases cB with q|q
    .exact h.ge g (aU.2 ⟨1,congrArg some q.symm⟩)
    .have:=h.bl.size;omega
   .simp at hi
  .exact h.ge k (aU.2 ⟨i,hi⟩)
 .refine(h.bl.grown hg h.bl.size (λk hk=>h.ge k (aU.2 ⟨1,congrArg some hk⟩))).setCell (p:=⟨RB,1,none⟩) (h.ge RB (aU.2 ⟨0,rfl⟩)) _
theorem Rz.know{n kB kC:Nat}{x:FE}(h:Rz w W RB vd av kv al FV L)(hn:n<L.length)(SF:kv=.slice (some ⟨kB,0,none⟩) L.length kC){g c:Nat}(aL:W1.ownsRow 0 126 1 (.slice (some ⟨g,0,none⟩) ((L.getD n []).length+1) c) ((L.getD n []).length+1) ((L.getD n []).map FE.p++[x.p]))(hg:W.grownBy W1 (FV.getD n aJ).ownBlock)(cB:some g=(FV.getD n aJ).ownBlock\/g=W.heap.size):
  Rz w (W1.setCell ⟨kB,n,none⟩ (.slice (some ⟨g,0,none⟩) ((L.getD n []).length+1) c)) RB vd av kv al (FV.set n (.slice (some ⟨g,0,none⟩) ((L.getD n []).length+1) c)) (L.set n (L.getD n []++[x]))/\W1.ownsRow 0 125 1 kv L.length FV/\Bk W1 RB 118 [.int .i64 (vd:Int),av,kv]:=by
 have hf:=h.fl;obtain⟨v,hv⟩:∃v,v=Value.slice (some ⟨g,0,none⟩) ((L.getD n []).length+1) c:=⟨_,rfl⟩;have UP:v.ownBlock=some g:=by rw[hv];rfl
 rw[<-hv]at aL ⊢;have mK:(tQ RB av kv FV)[2]?=some (some kB):=by rw[SF];rfl
 have gu:(tQ RB av kv FV)[3+n]?=some (FV.getD n aJ).ownBlock:=GG (by omega);have tK:∀q k,q≠3+n->(tQ RB av kv FV)[q]?=some (some k)->W1.heap[k]?=W.heap[k]?:=λq k hq hk=>hg.block k (h.lt k (aU.2 ⟨q,hk⟩)) (λe=>hq (h.ap q (3+n) k hk (gu.trans (congrArg some e.symm))));have hgk:g≠kB:=λe=>by
  rcases cB with q|q
  .have:=h.ap (3+n) 2 kB (by rw[gu,<-q,e]) mK;omega
  .have:=h.lt kB (aU.2 ⟨2,mK⟩);omega
 have aH:∀q k,q≠2->q≠3+n->(tQ RB av kv FV)[q]?=some (some k)->(W1.setCell ⟨kB,n,none⟩ v).heap[k]?=W.heap[k]?:=λq k h0 h1 hk=>(heap_setCell _ _ _ _ (λe=>h0 (h.ap q 2 k hk (by rw[show k=kB from e];exact mK)))).trans (tK q k h1 hk);have hkr:W1.ownsRow 0 125 1 kv L.length FV:=ae h.kr (λk hk=>tK 2 k (by omega) (congrArg some hk));have cS:tQ RB av kv (FV.set n v)=(tQ RB av kv FV).set (3+n) (some g):=by
  unfold tQ;rw[show 3+n=n+1+1+1 by omega];simp only[set_cons_succ];rw[map_set,UP]
 have hLs:(L.set n (L.getD n []++[x])).length=L.length:=length_set;refine⟨⟨h.bk.of_eq (aH 0 RB (by omega) (by omega) rfl),ae h.al (λk hk=>aH 1 k (by omega) (by omega) (congrArg some hk)),?_,λi hi=>?_,?_,λk hk=>?_,?_⟩,hkr,h.bk.of_eq (tK 0 RB (by omega) rfl)⟩
 .rw[hLs];rw[SF]at hkr ⊢;exact(hkr.stored n v).1
 .rw[hLs]at hi;by_cases e:i=n
  .subst e;have e1:(FV.set i v).getD i aJ=v:=(by rw[getD_eq_getElem?_getD,getElem?_set_self (by omega)];rfl);have e2:(L.set i (L.getD i []++[x])).getD i []=L.getD i []++[x]:=(by rw[getD_eq_getElem?_getD,getElem?_set_self (by omega)];rfl);rw[e1,e2,length_append,length_singleton,map_append];exact cE aL (p:=⟨kB,i,none⟩) (by rw[UP];intro e;injection e with e;exact hgk e) _
  .have e1:(FV.set n v).getD i aJ=FV.getD i aJ:=(by rw[getD_eq_getElem?_getD,getElem?_set_ne (λe'=>e e'.symm),<-getD_eq_getElem?_getD]);have e2:(L.set n (L.getD n []++[x])).getD i []=L.getD i []:=(by rw[getD_eq_getElem?_getD,getElem?_set_ne (λe'=>e e'.symm),<-getD_eq_getElem?_getD]);rw[e1,e2];exact ae (h.ke i hi) (λk hk=>aH _ k (by omega) (by omega) ((GG (by omega)).trans (congrArg some hk)))
 .rw[cS];refine h.ap.set _ (λk hk=>?_);injection hk with hk;subst hk;rcases cB with q|q
  .exact zq0 (by rw[gu,<-q])
  .exact zq1 (λj hj=>by have:=h.lt g (aU.2 ⟨j,hj⟩);omega)
 .obtain⟨i,hi⟩:=aU.1 hk;rw[cS,getElem?_set]at hi;split at hi
  .split at hi
   .simp only[Option.some.injEq]at hi;subst hi;rcases cB with q|q
    .exact h.ge g (aU.2 ⟨3+n,by rw[gu,<-q]⟩)
    .have:=h.bl.size;omega
   .simp at hi
  .exact h.ge k (aU.2 ⟨i,hi⟩)
 .exact(h.bl.grown hg h.bl.size (λk hk=>h.ge k (aU.2 ⟨3+n,gu.trans (congrArg some hk)⟩))).setCell (p:=⟨kB,n,none⟩) (h.ge kB (aU.2 ⟨2,mK⟩)) _
end
def alN(wr:List (List Bool))(n:Nat):List (Nat × Nat):=([2,3,4].filter (λk=>(wr.getD n []).getD k false)).map (λk=>(n,k))
def nR(wr:List (List Bool))(k:Nat):List (Nat × Nat):=(range k).flatMap (alN wr)
theorem CE(wr:List (List Bool))(k:Nat):nR wr (k+1)=nR wr k++alN wr k:=by unfold nR;rw[range_succ,flatMap_append];simp
theorem Hi(wr:List (List Bool)):nR wr wr.length=Hj wr:=rfl
def yL(wr:List (List Bool))(n t:Nat):List (Nat × Nat):=([2,3,4].filter (λk=>decide (k<t)&&(wr.getD n []).getD k false)).map (λk=>(n,k))
theorem MZ(wr:List (List Bool))(n:Nat){t:Nat}(h2:2<=t)(h5:t<5):yL wr n (t+1)=yL wr n t++if (wr.getD n []).getD t false=true then [(n,t)] else []:=by
 have:t=2\/t=3\/t=4:=by omega
 unfold yL;cases b2:(wr.getD n []).getD 2 false <;> cases b3:(wr.getD n []).getD 3 false <;> cases b4:(wr.getD n []).getD 4 false <;> rcases this with rfl|rfl|rfl <;> simp only[filter_cons,b2,b3,b4,filter_nil] <;> rfl
theorem Ts(wr:List (List Bool))(n:Nat):yL wr n 2=[]:=by unfold yL;simp
theorem CG(wr:List (List Bool))(n:Nat):yL wr n 5=alN wr n:=by
 unfold yL alN;congr 1
theorem Hk(wr:List (List Bool))(n t:Nat):(yL wr n t).length<=3:=by
 unfold yL;rw[length_map];exact zq3 (length_filter_le _ _) (by simp)
theorem zY(wr:List (List Bool)):∀k,(nR wr k).length<=3*k
 |0=>by simp[nR]
 |k+1=>by
  rw[CE,length_append,<-CG];have h1:=zY wr k;have h2:=Hk wr k 5;omega
def ER(al:List (Nat × Nat)):Nat:=if al=[] then 0 else 1
