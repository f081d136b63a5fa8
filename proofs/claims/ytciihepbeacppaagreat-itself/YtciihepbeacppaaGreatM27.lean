import Derived.Test.YtciihepbeacppaaGreatM26
set_option maxRecDepth 100000
set_option maxHeartbeats 0
namespace Go.Proofs.YtciihepbeacppaaGreat
open Tryz Go.RowKit List World Below
set_option linter.unusedVariables false
def JO(nds:List Nd)(k:Nat):List Bool:=(range k).foldl (λh i=>if lG nds i=true then h.set (nds.getD i aS).nx true else h) (replicate nds.length false)
def OV(nds:List Nd)(k:Nat):Bool:=(range k).any (lG nds)
theorem NG(nds:List Nd)(k:Nat):JO nds (k+1)=if lG nds k=true then (JO nds k).set (nds.getD k aS).nx true else JO nds k:=by
 unfold JO;rw[range_succ,foldl_append];rfl
theorem OW(nds:List Nd)(k:Nat):OV nds (k+1)=(OV nds k||lG nds k):=by
 unfold OV;rw[range_succ,any_append];simp
def Xl(w:World)(c:Cd)(c0:Value)(nds:List Nd)(S:Nat)(w':World):Prop :=
 ∃hv kv wv WV,Sh w' S c c0 hv kv wv (replicate nds.length aF) WV (replicate nds.length []) (jH nds)/\Below w.heap.size w w'/\∀k∈cI S hv kv wv (replicate nds.length aF) WV,w.heap.size<=k
theorem qj.sh{w W:World}{S:Nat}{c0 hv kv wv:Value}{WV:List Value}{nds:List Nd}{nv:Nat}{al:List bC}(h:qj w W S c0 hv kv wv WV (OV nds nds.length) (JO nds nds.length) (!K6 nds nv al) nds.length nds.length):Sh W S (Ao nds nv al) c0 hv kv wv (replicate nds.length aF) WV (replicate nds.length []) (jH nds):=by
 have nD:∀{α:Type} (a:α),(replicate nds.length a).length=nds.length:=λa=>length_replicate;have JQ:∀{α:Type} (a d:α) (i:Nat),i<nds.length->(replicate nds.length a).getD i d=a:=λa d i hi=>by simp[hi]
 refine⟨h.bs,?_,?_,λi hi=>?_,?_,λi hi=>?_,?_,?_,?_,?_,λl hl e he=>?_,h.ap,λk hk=>?_⟩
 .show W.ownsRow 0 _ 1 hv (hdL nds).length (cS (hdL nds));have e:(hdL nds).length=nds.length:=h.hl;rw[e];exact h.hr
 .rw[nD];exact h.kr
 .rw[nD]at hi;rw[JQ _ _ i hi,JQ _ _ i hi];exact⟨rfl,.inl ⟨rfl,rfl⟩⟩
 .rw[nD];exact h.wr
 .rw[nD]at hi;show W.ownsRow 0 _ 1 _ 5 (cS ((replicate nds.length (replicate 5 false)).getD i []));rw[JQ _ _ i hi];exact h.we i hi
 .show(replicate nds.length (replicate 5 false)).length=_;rw[nD,nD]
 .rw[nD];exact h.hl
 .rw[nD];rfl
 .show replicate nds.length []=_;rw[map_replicate];rfl
 .rw[eq_of_mem_replicate hl]at he;simp at he
 .obtain⟨l,hl,e,he,-⟩:=bu.1 hk;rw[eq_of_mem_replicate hl]at he;simp at he
section
variable {w:World} {Q:Nat} {ws:List ByteArray} {ps:PS} {al:List bC} {vv pv nv:Value}
theorem LU(h:Cp w Q ws ps al vv pv nv)(hA:AOk al)(fU:ps.nodes.length<=100000)(qp:ps.vars.length<=1000):
  Calls prog 139 #[.pointer (some ⟨Q,0,none⟩)] w λe w'=>∃S,e=.returned (.pointer (some ⟨S,0,none⟩))/\Xl w (Ao ps.nodes ps.vars.length al) (.pointer (some ⟨Q,0,none⟩)) ps.nodes S w':=by
 have HSI:=ab (zg h hA fU qp);obtain⟨na,nc,AD,-,-⟩:=aj h.nr;subst AD;have c3:=h.bk.cell 3 rfl;have H:=ab h;obtain⟨nds,B4⟩:∃nds,nds=ps.nodes:=⟨_,rfl⟩;obtain⟨sb,AG⟩:∃sb,sb=K6 ps.nodes ps.vars.length al:=⟨_,rfl⟩;rw[<-AG]at HSI;have HSB:=ab AG;obtain⟨dQ,dg⟩:∃dQ:Nat->World->Prop,dQ=λS w'=>Xl w (Ao ps.nodes ps.vars.length al) (.pointer (some ⟨Q,0,none⟩)) ps.nodes S w':=⟨_,rfl⟩;have fD:=ab dg;rw[show(fun(e:Ending) (w':World)=>∃S,e=.returned (.pointer (some ⟨S,0,none⟩))/\Xl w (Ao ps.nodes ps.vars.length al) (.pointer (some ⟨Q,0,none⟩)) ps.nodes S w')=(λe w'=>∃S,e=.returned (.pointer (some ⟨S,0,none⟩))/\dQ S w') by rw[dg]];rw[<-B4]at c3 fU fD HSB;have hQl:=h.bk.lt;have HND:Hid (∀i,(hi:i<nds.length)->∃g cap,Value.slice na ps.nodes.length nc=.slice (some ⟨g,0,none⟩) nds.length cap/\w.cell? ⟨g,i*6,none⟩=some (.int .i64 (nds[i].op:Int))/\w.cell? ⟨g,i*6+1,none⟩=some (.int .i64 (nds[i].v:Int))/\w.cell? ⟨g,i*6+2,none⟩=some (.int .i64 (nds[i].ak:Int))/\w.cell? ⟨g,i*6+3,none⟩=some (.int .i64 (nds[i].ai:Int))/\w.cell? ⟨g,i*6+4,none⟩=some (.int .i64 (nds[i].nx:Int))/\w.cell? ⟨g,i*6+5,none⟩=some (.int .i64 (nds[i].ot:Int))/\g<w.heap.size):=ab (by
  subst B4;intro i hi;obtain⟨g,cap,e,x0,x1,x2,x3,x4,x5⟩:=h.nd hi;exact⟨g,cap,e,x0,x1,x2,x3,x4,x5,block_lt_of_cell? w _ x0⟩)
 have jI:=ab (zq2 B4 fU);have arb:=run_make_row' (P:=prog) 200 4 (.bool false) 1 underlying200 infoBl rfl .i64 .i64 nds.length (by omega) (by omega);have arc:=run_make_row' (P:=prog) 226 255 (.slice none 0 0) 24 underlying226 infoEs rfl .i64 .i64 nds.length (by omega) (by omega);have ard:=run_make_row' (P:=prog) 227 200 (.slice none 0 0) 24 underlying227 infoBs rfl .i64 .i64 nds.length (by omega) (by omega);have arf:∀W:World,(Instr.makeSlice 200 (.int .i64 5) (.int .i64 5)).run prog W=.ok (.slice (some ⟨W.heap.size,0,none⟩) 5 5) (W.alloc (.cells (madeCells #[Value.bool false] 5) 4)):=run_make_row' (P:=prog) 200 4 (.bool false) 1 underlying200 infoBl rfl .i64 .i64 5 (by omega) (by omega);clear h hA qp AG dg B4;go_enter func139,ntmps139;go_wp2_with fail
 refine(uh HSI).mono ?_;rintro e w1 ⟨rfl,a7⟩;have dm:=ab a7;clear a7 HSI;go_upto_region 3 with fail;obtain⟨W2,ey⟩:∃W2,W2=w1.alloc (.cells #[Value.pointer (some ⟨Q,0,none⟩),.slice none 0 0,.bool false,.slice none 0 0,.slice none 0 0,.bool (!sb),.int .i64 3000,.int .i64 2097152,.bool false] 229):=⟨_,rfl⟩;have aL:Below w.heap.size w W2:=by rw[ey];exact(uh dm).trans ((ah w1 _).mono (uh dm).size)
 have JJ:Bk W2 w1.heap.size 229 (oW (.pointer (some ⟨Q,0,none⟩)) (.slice none 0 0) false (.slice none 0 0) (.slice none 0 0) (!sb) 3000 2097152 false):=by rw[ey];exact Bk.new w1 _ _
 have Tk:=(uh dm).size;obtain⟨S,hS⟩:∃S,S=w1.heap.size:=⟨_,rfl⟩;rw[<-hS]at JJ Tk;have H2:=ab (zq2 JJ (zq2 aL Tk));rw[<-ey,<-hS];clear ey hS aL JJ Tk dm;go_cut [] (λwx=>∃hB,Hid (Bk wx S 229 (oW (.pointer (some ⟨Q,0,none⟩)) (.slice (some ⟨hB,0,none⟩) nds.length nds.length) false (.slice none 0 0) (.slice none 0 0) (!sb) 3000 2097152 false)/\wx.ownsRow 0 4 1 (.slice (some ⟨hB,0,none⟩) nds.length nds.length) nds.length (cS (replicate nds.length false))/\S<hB/\Below w.heap.size w wx))
 case first =>
  obtain⟨fq,hb,Tk⟩:=uh H2;have e1:=(fq.alloc (.cells (madeCells #[Value.bool false] nds.length) 4)).cell 1 rfl;have z1:=(fq.alloc (.cells (madeCells #[Value.bool false] nds.length) 4)).frz 1;have Q0:=fq.lt;have aR:((W2.alloc (.cells (madeCells #[Value.bool false] nds.length) 4)).setCell ⟨S,1,none⟩ (.slice (some ⟨W2.heap.size,0,none⟩) nds.length nds.length)).ownsRow 0 4 1 (.slice (some ⟨W2.heap.size,0,none⟩) nds.length nds.length) nds.length (cS (replicate nds.length false)):=by
   have h2:=ownsRow_lit (base:=0) (e:=4) (size:=1) W2 (madeCells #[Value.bool false] nds.length) nds.length (zq5 _) (by have:=(uh jI).2;simp[maxLen];omega) (by simp[madeCells]);rw[toList_madeCells_one]at h2;have e:cS (replicate nds.length false)=replicate nds.length (Value.bool false):=(by unfold cS;rw[map_replicate]);rw[e];exact ci h2 (p:=⟨S,1,none⟩) (by show some W2.heap.size≠some S;intro e;injection e with e;omega) _
  have HN:=ab (zq2 ((fq.alloc (.cells (madeCells #[Value.bool false] nds.length) 4)).set 1 (.slice (some ⟨W2.heap.size,0,none⟩) nds.length nds.length)) (zq2 aR (zq2 Q0 ((hb.trans ((ah W2 (.cells (madeCells #[Value.bool false] nds.length) 4)).mono hb.size)).setCell (p:=⟨S,1,none⟩) Tk (.slice (some ⟨W2.heap.size,0,none⟩) nds.length nds.length)))));clear fq hb Tk Q0 aR;go_wp2_with fail
  go_meet
  exact⟨_,HN⟩
 case rest =>
 obtain⟨hB,hH⟩:=hcut;have Tk:=(uh H2).2.2;clear H2;go_upto_region 4 with fail;go_cut [] (λwx=>∃kB,Hid (Bk wx S 229 (oW (.pointer (some ⟨Q,0,none⟩)) (.slice (some ⟨hB,0,none⟩) nds.length nds.length) false (.slice (some ⟨kB,0,none⟩) nds.length nds.length) (.slice none 0 0) (!sb) 3000 2097152 false)/\wx.ownsRow 0 4 1 (.slice (some ⟨hB,0,none⟩) nds.length nds.length) nds.length (cS (replicate nds.length false))/\wx.ownsRow 0 255 1 (.slice (some ⟨kB,0,none⟩) nds.length nds.length) nds.length (replicate nds.length aF)/\S<hB/\hB<kB/\Below w.heap.size w wx))
 case first =>
  obtain⟨fq,ED,AG,hb⟩:=uh hH;obtain⟨W3,Wi⟩:∃W3,W3=wc:=⟨_,rfl⟩;rw[<-Wi]at fq ED hb ⊢;have e1:=(fq.alloc (.cells (madeCells #[Value.slice none 0 0] nds.length) 255)).cell 3 rfl;have z1:=(fq.alloc (.cells (madeCells #[Value.slice none 0 0] nds.length) 255)).frz 3;have Q0:=fq.lt;have V8:=(ED.lt hB rfl).2;have aR:((W3.alloc (.cells (madeCells #[Value.slice none 0 0] nds.length) 255)).setCell ⟨S,3,none⟩ (.slice (some ⟨W3.heap.size,0,none⟩) nds.length nds.length)).ownsRow 0 255 1 (.slice (some ⟨W3.heap.size,0,none⟩) nds.length nds.length) nds.length (replicate nds.length aF):=by
   have h2:=ownsRow_lit (base:=0) (e:=255) (size:=1) W3 (madeCells #[Value.slice none 0 0] nds.length) nds.length (zq5 _) (by have:=(uh jI).2;simp[maxLen];omega) (by simp[madeCells]);rw[toList_madeCells_one]at h2;exact ci h2 (p:=⟨S,3,none⟩) (by show some W3.heap.size≠some S;intro e;injection e with e;omega) _
  have On:=ci (ED.alloc (.cells (madeCells #[Value.slice none 0 0] nds.length) 255)) (p:=⟨S,3,none⟩) (by show some hB≠some S;intro e;injection e with e;omega) (.slice (some ⟨W3.heap.size,0,none⟩) nds.length nds.length);have HN:=ab (zq2 ((fq.alloc (.cells (madeCells #[Value.slice none 0 0] nds.length) 255)).set 3 (.slice (some ⟨W3.heap.size,0,none⟩) nds.length nds.length)) (zq2 On (zq2 aR (zq2 AG (zq2 V8 ((hb.trans ((ah W3 (.cells (madeCells #[Value.slice none 0 0] nds.length) 255)).mono hb.size)).setCell (p:=⟨S,3,none⟩) Tk (.slice (some ⟨W3.heap.size,0,none⟩) nds.length nds.length)))))));clear fq ED hb Q0 aR On Wi hH V8 AG;go_wp2_with fail
  go_meet
  exact⟨_,HN⟩
 case rest =>
 obtain⟨kB,hK⟩:=hcut;clear hH;go_upto_region 5 with fail;go_cut [] (λwx=>∃wB,Hid (Bk wx S 229 (oW (.pointer (some ⟨Q,0,none⟩)) (.slice (some ⟨hB,0,none⟩) nds.length nds.length) false (.slice (some ⟨kB,0,none⟩) nds.length nds.length) (.slice (some ⟨wB,0,none⟩) nds.length nds.length) (!sb) 3000 2097152 false)/\wx.ownsRow 0 4 1 (.slice (some ⟨hB,0,none⟩) nds.length nds.length) nds.length (cS (replicate nds.length false))/\wx.ownsRow 0 255 1 (.slice (some ⟨kB,0,none⟩) nds.length nds.length) nds.length (replicate nds.length aF)/\wx.ownsRow 0 200 1 (.slice (some ⟨wB,0,none⟩) nds.length nds.length) nds.length (replicate nds.length aF)/\S<hB/\hB<kB/\kB<wB/\Below w.heap.size w wx))
 case first =>
  obtain⟨fq,ED,hrk,AG,JJ,hb⟩:=uh hK;obtain⟨W3,Wi⟩:∃W3,W3=wc:=⟨_,rfl⟩;rw[<-Wi]at fq ED hrk hb ⊢;have e1:=(fq.alloc (.cells (madeCells #[Value.slice none 0 0] nds.length) 200)).cell 4 rfl;have z1:=(fq.alloc (.cells (madeCells #[Value.slice none 0 0] nds.length) 200)).frz 4;have Q0:=fq.lt;have V8:=(hrk.lt kB rfl).2;have aR:((W3.alloc (.cells (madeCells #[Value.slice none 0 0] nds.length) 200)).setCell ⟨S,4,none⟩ (.slice (some ⟨W3.heap.size,0,none⟩) nds.length nds.length)).ownsRow 0 200 1 (.slice (some ⟨W3.heap.size,0,none⟩) nds.length nds.length) nds.length (replicate nds.length aF):=by
   have h2:=ownsRow_lit (base:=0) (e:=200) (size:=1) W3 (madeCells #[Value.slice none 0 0] nds.length) nds.length (zq5 _) (by have:=(uh jI).2;simp[maxLen];omega) (by simp[madeCells]);rw[toList_madeCells_one]at h2;exact ci h2 (p:=⟨S,4,none⟩) (by show some W3.heap.size≠some S;intro e;injection e with e;omega) _
  have On:=ci (ED.alloc (.cells (madeCells #[Value.slice none 0 0] nds.length) 200)) (p:=⟨S,4,none⟩) (by show some hB≠some S;intro e;injection e with e;omega) (.slice (some ⟨W3.heap.size,0,none⟩) nds.length nds.length);have age:=ci (hrk.alloc (.cells (madeCells #[Value.slice none 0 0] nds.length) 200)) (p:=⟨S,4,none⟩) (by show some kB≠some S;intro e;injection e with e;omega) (.slice (some ⟨W3.heap.size,0,none⟩) nds.length nds.length);have HN:=ab (zq2 ((fq.alloc (.cells (madeCells #[Value.slice none 0 0] nds.length) 200)).set 4 (.slice (some ⟨W3.heap.size,0,none⟩) nds.length nds.length)) (zq2 On (zq2 age (zq2 aR (zq2 AG (zq2 JJ (zq2 V8 ((hb.trans ((ah W3 (.cells (madeCells #[Value.slice none 0 0] nds.length) 200)).mono hb.size)).setCell (p:=⟨S,4,none⟩) Tk (.slice (some ⟨W3.heap.size,0,none⟩) nds.length nds.length)))))))));clear fq ED hrk hb Q0 aR On age Wi hK V8 AG JJ;go_wp2_with fail
  go_meet
  exact⟨_,HN⟩
 case rest =>
 obtain⟨wB,hW⟩:=hcut;clear hK;have bX:Hid (qj w wc S (.pointer (some ⟨Q,0,none⟩)) (.slice (some ⟨hB,0,none⟩) nds.length nds.length) (.slice (some ⟨kB,0,none⟩) nds.length nds.length) (.slice (some ⟨wB,0,none⟩) nds.length nds.length) (replicate nds.length aF) (OV nds 0) (JO nds 0) (!sb) nds.length 0/\∀j,0<=j->(replicate nds.length aF).getD j aF=aF):=ab (by
  obtain⟨h1,h2,h3,h4,h5,h6,h7,h8⟩:=uh hW;have sd:∀j,(replicate nds.length aF).getD j aF=aF:=λj=>by
   by_cases hj:j<nds.length
   .simp[hj]
   .rw[getD_eq_getElem?_getD,getElem?_eq_none (by rw[length_replicate];omega)];rfl
  have gl:∀i k,(nF S (.slice (some ⟨hB,0,none⟩) nds.length nds.length) (.slice (some ⟨kB,0,none⟩) nds.length nds.length) (.slice (some ⟨wB,0,none⟩) nds.length nds.length) (replicate nds.length aF) (replicate nds.length aF))[i]?=some (some k)->i=0/\k=S\/i=1/\k=hB\/i=2/\k=kB\/i=3/\k=wB:=λi k hi=>by
   rcases Pi hi with⟨a,b⟩|⟨a,e⟩|⟨a,e⟩|⟨a,e⟩|⟨j,hj,-,e⟩|⟨j,hj,-,e⟩
   .exact zq0 ⟨a,b⟩
   .exact zq1 (zq0 ⟨a,by injection e with e;exact e.symm⟩)
   .exact zq1 (zq1 (zq0 ⟨a,by injection e with e;exact e.symm⟩))
   .exact zq1 (zq1 (zq1 ⟨a,by injection e with e;exact e.symm⟩))
   .rw[sd]at e;cases e
   .rw[sd]at e;cases e
  refine⟨⟨h1,by unfold JO;simp,h2,h3,h4,λj hj=>by omega,λi j k hi hj=>?_,h8,λk hk=>?_⟩,λj _=>sd j⟩
  .have a1:=gl i k hi;have a2:=gl j k hj;omega
  .obtain⟨i,hi⟩:=aQ.1 hk;have a1:=gl i k hi;omega)
 clear hW;go_wp2_with fail
 go_loopg [5] nds.length (λgn iv wx=>∃(k:Nat) (WV:List Value),k+gn=nds.length/\iv=.int .i64 k/\Hid (qj w wx S (.pointer (some ⟨Q,0,none⟩)) (.slice (some ⟨hB,0,none⟩) nds.length nds.length) (.slice (some ⟨kB,0,none⟩) nds.length nds.length) (.slice (some ⟨wB,0,none⟩) nds.length nds.length) WV (OV nds k) (JO nds k) (!sb) nds.length k/\∀j,k<=j->WV.getD j aF=aF))
 case atStart=>exact⟨0,_,by omega,rfl,bX⟩
 case round =>
  clear bX;obtain⟨k,WV,eV,rfl,hI⟩:=hrel;obtain⟨G1,yJ⟩:∃G1,G1=gk:=⟨_,rfl⟩;by_cases aq:k<nds.length
  .have hd:decide ((k:Int)<(nds.length:Int))=true:=(by simp;omega);obtain⟨h1,h2⟩:=uh hI;have d4:=h1.bs.cell 4 rfl;have bQ:=ah wr (.cells (madeCells #[Value.bool false] 5) 4);have hrA:=h1.wr.alloc (.cells (madeCells #[Value.bool false] 5) 4);have e4:=(h1.bs.alloc (.cells (madeCells #[Value.bool false] 5) 4)).cell 4 rfl;have hwl:=h1.wl;have ck:=hrA.cellAt k (by omega);rw[getElem?_eq_getElem (by omega)]at ck;have zk:=hrA.frozenAt k;obtain⟨h3,h4⟩:=h1.row aq h2 (o:=.cells (madeCells #[Value.bool false] 5) 4) rfl (wB:=wB) (wC:=nds.length) rfl;obtain⟨W4,vY⟩:∃W4,W4=(wr.alloc (.cells (madeCells #[Value.bool false] 5) 4)).setCell ⟨wB,k,none⟩ (.slice (some ⟨wr.heap.size,0,none⟩) 5 5):=⟨_,rfl⟩;rw[<-vY]at h3;have i1:(0:Int)<=(k:Int):=(by omega);have i2:(k:Int)<(nds.length:Int):=(by omega);have H3:=ab (zq2 h3 h4);clear h1 h2 bQ hrA h3 h4 hI;go_upto_region 9 with fail;go_cut [] (λwx=>∃WV',Hid (qj w wx S (.pointer (some ⟨Q,0,none⟩)) (.slice (some ⟨hB,0,none⟩) nds.length nds.length) (.slice (some ⟨kB,0,none⟩) nds.length nds.length) (.slice (some ⟨wB,0,none⟩) nds.length nds.length) WV' (OV nds k) (JO nds k) (!sb) nds.length (k+1)/\∀j,k+1<=j->WV'.getD j aF=aF))
   case first =>
    go_region
    all_goals
     go_wp2_with fail
     go_meet
     exact⟨_,ab ⟨(uh H3).1.of_eq (by omega) (λq _=>by rw[vY];rfl) ⟨by have:=(uh H3).1.bl.os;rw[vY]at this;exact this,by have:=(uh H3).1.bl.tape;rw[vY]at this;exact this,by have:=(uh H3).1.bl.output;rw[vY]at this;exact this,by have:=(uh H3).1.bl.size;rw[vY]at this;exact this,by have:=(uh H3).1.bl.block;rw[vY]at this;exact this⟩,(uh H3).2⟩⟩
   case rest =>
    clear H3 vY ck zk e4 d4 hwl;obtain⟨WV',hH⟩:=hcut;obtain⟨g,cap2,cM,x0,x1,x2,x3,x4,x5,k9⟩:=uh HND k aq;have hqc:=((uh hH).1.bl.cell hQl).trans c3;simp only[Value.slice.injEq]at cM;obtain⟨rfl,-,rfl⟩:=cM;have x0:=((uh hH).1.bl.cell k9).trans x0;have x1:=((uh hH).1.bl.cell k9).trans x1;have x2:=((uh hH).1.bl.cell k9).trans x2;have x3:=((uh hH).1.bl.cell k9).trans x3;have x4:=((uh hH).1.bl.cell k9).trans x4;have x5:=((uh hH).1.bl.cell k9).trans x5;have fq:lG nds k=(decide (nds[k].op=10)&&decide (nds[k].nx<k)):=(by unfold lG;rw[bD aq]);have hhs:=NG nds k;have hls:=OW nds k;rw[bD aq]at hhs;obtain⟨nd,c9⟩:∃nd,nd=nds[k]:=⟨_,rfl⟩;rw[<-c9]at x0 x1 x2 x3 x4 x5 fq hhs;obtain⟨W5,k7⟩:∃W5,W5=wc.alloc (.cells #[Value.int .i64 (nd.op:Int),.int .i64 (nd.v:Int),.int .i64 (nd.ak:Int),.int .i64 (nd.ai:Int),.int .i64 (nd.nx:Int),.int .i64 (nd.ot:Int)] 186):=⟨_,rfl⟩;have bQ:Below wc.heap.size wc W5:=(by rw[k7];exact ah wc _);have iI:Bk W5 wc.heap.size 186 nd.cells:=(by rw[k7];exact Bk.new wc _ _);obtain⟨Y,nB⟩:∃Y,Y=wc.heap.size:=⟨_,rfl⟩;rw[<-nB]at iI;have h5:=(uh hH).1.below (by omega) (uh hH).2 bQ;have y0:=iI.cell 0 rfl;have y4:=iI.cell 4 rfl;have Y2:=iI.lt;have hYn:∀q∈cI S (.slice (some ⟨hB,0,none⟩) nds.length nds.length) (.slice (some ⟨kB,0,none⟩) nds.length nds.length) (.slice (some ⟨wB,0,none⟩) nds.length nds.length) (replicate nds.length aF) WV',q≠Y:=λq hq e=>by have:=(uh hH).1.lt (uh hH).2 q hq;omega
    have H5:=ab (zq2 h5 (uh hH).2);have Ac:=ab fq;have HHS:=ab hhs;have HLS:=ab hls;have HYN:=ab hYn;clear bQ iI h5 fq hhs hls c9 hYn hH;go_upto_region 11 with fail;rw[<-k7,<-nB];clear k7 nB x0 x1 x2 x3 x4 x5 hqc;by_cases GD:nd.op=10
    .have d0:((nd.op:Int)==(10:Int))=true:=(by simp[GD]);by_cases hb:nd.nx<k
     .have d1:decide ((nd.nx:Int)<(k:Int))=true:=(by simp;omega);have d1':decide (nd.nx<k)=true:=(by simpa using hb);have vy:lG nds k=true:=(by rw[uh Ac];simp[GD,hb]);have bE:=(uh H5).1.bs.cell 1 rfl;have hhl:=(uh H5).1.hl;have hcA:=(uh H5).1.hr.cellAt nd.nx (by omega);rw[eH (by omega)]at hcA;have hzA:=(uh H5).1.hr.frozenAt nd.nx;have h6:=(uh H5).1.head (by omega) (n:=nd.nx) (hB:=hB) (hC:=nds.length) rfl;have H6:=ab h6;have HBT:=ab vy;have m1:(0:Int)<=(nd.nx:Int):=(by omega);have m2:(nd.nx:Int)<(nds.length:Int):=(by omega);clear h6 vy hhl GD hb;go_upto_region 12 with fail;go_cut [] (λwx=>Hid (qj w wx S (.pointer (some ⟨Q,0,none⟩)) (.slice (some ⟨hB,0,none⟩) nds.length nds.length) (.slice (some ⟨kB,0,none⟩) nds.length nds.length) (.slice (some ⟨wB,0,none⟩) nds.length nds.length) WV' (OV nds k) ((JO nds k).set nd.nx true) (!sb) nds.length (k+1)))
      case first =>
       go_region
       all_goals
        go_wp2_with fail
        go_meet
        exact ab ((uh H6).of_eq (by omega) (λq _=>rfl) ⟨(uh H6).bl.os,(uh H6).bl.tape,(uh H6).bl.output,(uh H6).bl.size,(uh H6).bl.block⟩)
      case rest =>
       clear H6 y0 y4 bE hcA hzA;have s2:=(uh hcut).bs.cell 2 rfl;have s2z:=(uh hcut).bs.frz 2;have HN:Hid (qj w (wc.setCell ⟨S,2,none⟩ (.bool true)) S (.pointer (some ⟨Q,0,none⟩)) (.slice (some ⟨hB,0,none⟩) nds.length nds.length) (.slice (some ⟨kB,0,none⟩) nds.length nds.length) (.slice (some ⟨wB,0,none⟩) nds.length nds.length) WV' (OV nds (k+1)) (JO nds (k+1)) (!sb) nds.length (k+1)/\∀j,k+1<=j->WV'.getD j aF=aF):=ab (by
        rw[uh HLS,uh HHS,uh HBT,if_pos rfl,Bool.or_true];exact⟨(uh hcut).loop (by omega),(uh H5).2⟩)
       clear hcut;go_wp2_with fail
       go_roundg (G1-1)
       case rel=>exact⟨k+1,_,by omega,by go_num,HN⟩
       case measure=>omega
     .have d1:decide ((nd.nx:Int)<(k:Int))=false:=(by simp;omega);have d1':decide (nd.nx<k)=false:=(by simpa using hb);have vy:lG nds k=false:=(by rw[uh Ac];simp[hb]);have HN:Hid (qj w W5 S (.pointer (some ⟨Q,0,none⟩)) (.slice (some ⟨hB,0,none⟩) nds.length nds.length) (.slice (some ⟨kB,0,none⟩) nds.length nds.length) (.slice (some ⟨wB,0,none⟩) nds.length nds.length) WV' (OV nds (k+1)) (JO nds (k+1)) (!sb) nds.length (k+1)/\∀j,k+1<=j->WV'.getD j aF=aF):=ab (by
       rw[uh HLS,uh HHS,vy,if_neg (by decide),Bool.or_false];exact uh H5)
      clear vy GD hb;go_wp2_with fail
      go_roundg (G1-1)
      case rel=>exact⟨k+1,_,by omega,by go_num,HN⟩
      case measure=>omega
    .have d0:((nd.op:Int)==(10:Int))=false:=(by simp;omega);have vy:lG nds k=false:=(by rw[uh Ac];simp[GD]);have HN:Hid (qj w W5 S (.pointer (some ⟨Q,0,none⟩)) (.slice (some ⟨hB,0,none⟩) nds.length nds.length) (.slice (some ⟨kB,0,none⟩) nds.length nds.length) (.slice (some ⟨wB,0,none⟩) nds.length nds.length) WV' (OV nds (k+1)) (JO nds (k+1)) (!sb) nds.length (k+1)/\∀j,k+1<=j->WV'.getD j aF=aF):=ab (by
      rw[uh HLS,uh HHS,vy,if_neg (by decide),Bool.or_false];exact uh H5)
     clear vy GD;go_wp2_with fail
     go_roundg (G1-1)
     case rel=>exact⟨k+1,_,by omega,by go_num,HN⟩
     case measure=>omega
  .have hd:decide ((k:Int)<(nds.length:Int))=false:=(by simp;omega);have jf:k=nds.length:=(by omega);have HP:Hid (dQ S wr):=ab (by
    rw[uh fD];obtain⟨h1,h2⟩:=uh hI;rw[jf,uh HSB]at h1;exact⟨_,_,_,WV,h1.sh,h1.bl,h1.ge⟩)
   clear jf hI;go_wp2_with fail
   go_ret;exact⟨S,rfl,uh HP⟩
end
theorem Gh:∀(l:List Pr) (seen:List Nat),nX seen l=false->(l.map (·.l)).Nodup/\∀p∈l,p.l ∉ seen
 |[],_,_=>⟨nodup_nil,λp hp=>by simp at hp⟩
 |p::l,seen,h=>by
  unfold nX at h;split at h
  .cases h
  .rename_i hn;obtain⟨h1,h2⟩:=Gh l _ h;refine⟨?_,λq hq=>?_⟩
   .rw[map_cons,nodup_cons];refine⟨λhm=>?_,h1⟩;obtain⟨q,hq,e⟩:=mem_map.1 hm;exact h2 q hq (by rw[e];exact mem_cons_self)
   .rcases mem_cons.1 hq with rfl|hq
    .exact hn
    .exact λhm=>h2 q hq (mem_cons_of_mem _ hm)
theorem jA{al:List bC}(ht:gD al)(hf:dT (aG al)=false):am (aG al):=by
 have hl:=zz ht;have du:(aG al).cl.length=5:=by show((jX al).take 5).length=5;rw[length_take];omega
 refine am.mk' du (λc hc=>?_) (λp hp=>?_) (λp hp=>?_) ?_ (λp hp=>?_)
 .obtain⟨i,hi,rfl⟩:=mem_iff_getElem.1 hc;have h5:i<5:=by omega
  have h1:=rz (al:=al) h5;rw[bD hi]at h1;rw[h1];have:=md ht (i:=i) (by omega);omega
 .obtain⟨a,ha,rfl⟩:=mem_map.1 hp;exact s7 ht (mem_filter.1 ha).1
 .obtain⟨a,ha,rfl⟩:=mem_map.1 hp;exact s7 ht (mem_filter.1 ha).1
 .unfold dT at hf;rw[Bool.or_eq_false_iff]at hf;exact(Gh _ _ hf.2).1
 .obtain⟨a,ha,rfl⟩:=mem_map.1 hp;have h1:=(mem_filter.1 ha).2;have h2:a.k=2:=by simpa using h1
  exact h2
theorem gy{f:CF}(h:am f)(nv:Nat):am (sG f nv):=by
 refine am.mk' (by simp[sG]) (λc hc=>?_) h.ow h.ap h.lf h.kd;obtain⟨i,-,rfl⟩:=mem_map.1 hc;split <;> exact h.get _
def As(f:CF)(nv k:Nat):List Nat:=(range 5).map (λi=>if nv<i/\i<k then f.cl.getD 0 0 else f.cl.getD i 0)
theorem gz(f:CF)(nv k:Nat):(As f nv k).length=5:=by simp[As]
theorem sH{f:CF}{nv k i:Nat}(hi:i<5):(As f nv k).getD i 0=if nv<i/\i<k then f.cl.getD 0 0 else f.cl.getD i 0:=by unfold As;simp[hi]
theorem Jm{f:CF}(h5:f.cl.length=5)(nv:Nat):As f nv (1+nv)=f.cl:=by
 apply ext_getElem?;intro i;by_cases hi:i<5
 .have h1:=sH (f:=f) (nv:=nv) (k:=1+nv) hi;rw[if_neg (by omega)]at h1;rw[bD (by rw[gz];exact hi),bD (by omega)]at h1;rw[getElem?_eq_getElem (by rw[gz];exact hi),getElem?_eq_getElem (by omega),h1]
 .rw[getElem?_eq_none (by rw[gz];omega),getElem?_eq_none (by omega)]
theorem MB{f:CF}{nv k:Nat}(h1:nv<k)(hk:k<5):(As f nv k).set k (f.cl.getD 0 0)=As f nv (k+1):=by
 apply ext_getElem?;intro i;by_cases hi:i<5
 .have g1:=sH (f:=f) (nv:=nv) (k:=k+1) hi;rw[bD (by rw[gz];exact hi)]at g1;rw[getElem?_eq_getElem (l:=As f nv (k+1)) (by rw[gz];exact hi),g1];by_cases e:k=i
  .subst e;rw[getElem?_set_self (by rw[gz];exact hi),if_pos (by omega)]
  .have g2:=sH (f:=f) (nv:=nv) (k:=k) hi;rw[bD (by rw[gz];exact hi)]at g2;rw[getElem?_set_ne e,getElem?_eq_getElem (by rw[gz];exact hi),g2];congr 1;by_cases c1:nv<i/\i<k
   .rw[if_pos c1,if_pos (by omega)]
   .rw[if_neg c1,if_neg (by omega)]
 .rw[getElem?_eq_none (by rw[length_set,gz];omega),getElem?_eq_none (by rw[gz];omega)]
theorem SA(f:CF)(nv:Nat):{ f with cl:=As f nv 5 }=sG f nv:=by
 unfold sG As;congr 1;apply map_congr_left;intro i hi;rw[mem_range]at hi;by_cases c1:nv<i
 .rw[if_pos c1,if_pos (by omega)]
 .rw[if_neg c1,if_neg (by omega)]
section
variable {w:World} {S:Nat} {c:Cd} {hv kv wv:Value} {KV WV:List Value} {K:List (List En)} {s:Sr}
theorem MI{Q:Nat}{ws:List ByteArray}{ps:PS}{al:List bC}{vv pv nvv:Value}(h:Sh w S c (.pointer (some ⟨Q,0,none⟩)) hv kv wv KV WV K s)(hC:Cp w Q ws ps al vv pv nvv)(fQ:c.nds=ps.nodes)(hA:AOk al)(qp:ps.vars.length<=4)(hK0:0<K.length)(vX:K.length<=100000){fuel:Nat}(bf:(dL c fuel ps.vars.length al s).ok=true):
  Calls prog 140 #[.pointer (some ⟨S,0,none⟩)] w λe w'=>e=.returned (.tuple #[])/\gf w S c (.pointer (some ⟨Q,0,none⟩)) hv kv wv KV WV K [] (dL c fuel ps.vars.length al s) w':=by
 have c0:=h.bs.cell 0 rfl;have hQ2:=hC.bk.cell 2 rfl;have fU:=h.nl;obtain⟨na,nc,AD,-,-⟩:=aj hC.nr;subst AD;obtain⟨va,vc,y7,-,-⟩:=aj hC.vr;subst y7;have RA:=ab (Xc hC.pr hA.tm hA.le hA.bd);have dJ:ps.nodes.length=K.length:=by rw[<-fQ];exact fU
 have H:=ab h;have HC:=ab hC;have HTM:=ab hA.tm;have aiK:=ab hA.le;have kW:=ab bf;obtain⟨V,hV⟩:∃V,V=ps.vars.length:=⟨_,rfl⟩;have DA:Hid (dL c fuel ps.vars.length al s=if dT (aG al)=true then s else dG c fuel (K.length-1) 0 (bz (sG (aG al) V)) s):=ab (by unfold dL;rw[fU,hV]);obtain⟨dQ,dg⟩:∃dQ:World->Prop,dQ=λw'=>gf w S c (.pointer (some ⟨Q,0,none⟩)) hv kv wv KV WV K [] (dL c fuel ps.vars.length al s) w':=⟨_,rfl⟩;have fD:=ab dg;rw[show(fun(e:Ending) (w':World)=>e=.returned (.tuple #[])/\gf w S c (.pointer (some ⟨Q,0,none⟩)) hv kv wv KV WV K [] (dL c fuel ps.vars.length al s) w')=(λe w'=>e=.returned (.tuple #[])/\dQ w') by rw[dg]];clear h hC fQ hA bf dg fU;go_enter func140,ntmps140;go_wp2_with fail
 refine(uh RA).mono ?_;rintro e w1 ⟨A,fav,fov,rfl,hF,cq,a7,c9⟩;have hrm:=L5 (uh HTM);have Eh:(aG al).cl.getD 0 0<24:=by
  have h1:=md (uh HTM) (i:=0) (by omega);rw[rz (by omega)];omega
 have DB:=ab (xe hF hrm Eh);have H1:=ab (zq2 hF (zq2 cq (zq2 a7 c9)));clear hF cq a7 c9 hrm Eh RA c0 hQ2;cases lF:dT (aG al)
 .rw[lF]at DB;have NJ:=jA (uh HTM) lF;have IZ:Hid (dL c fuel ps.vars.length al s=dG c fuel (K.length-1) 0 (bz (sG (aG al) V)) s):=ab (by rw[uh DA,lF,if_neg (by decide)]);obtain⟨f,hf⟩:∃f,f=aG al:=⟨_,rfl⟩;rw[<-hf]at NJ IZ H1;have Rk:Hid (f.ap.length<=100000):=ab (by
   have h3:f.ap.length<=al.length:=by
    rw[hf];show((al.filter _).map _).length<=_;rw[length_map];exact length_filter_le _ _
   have h4:=uh aiK;omega)
  have Xu:=ab NJ;clear lF DA hf NJ;go_wp2_with fail
  refine(uh DB).mono ?_;rintro e w2 ⟨rfl,aL⟩;obtain⟨hF,cq,a7,c9⟩:=uh H1;have yN:=a7.trans (aL.mono a7.size);have nA:Fm w2 A f fav fov:=⟨hF.below aL,c9,(uh Xu).c5⟩;have H2:=ab (zq2 yN (zq2 nA cq));have r7:=(uh HC).below yN;have fR:=(uh H).below yN;have e0:=fR.bs.cell 0 rfl;have q1:=r7.bk.cell 1 rfl;rw[<-hV]at q1 qp;have bX:Hid (Fm w2 A { f with cl:=As f V (1+V) } fav fov/\Below w.heap.size w w2):=ab ⟨by rw[Jm (uh Xu).c5];exact nA,yN⟩;clear hF cq a7 c9 yN nA r7 fR aL DB;go_wp2_with fail
  go_loopg [3] (4-V) (λgn iv wx=>∃(k:Nat),k+gn=5/\1+V<=k/\iv=.int .i64 k/\Hid (Fm wx A { f with cl:=As f V k } fav fov/\Below w.heap.size w wx))
  case atStart=>exact⟨1+V,by omega,by omega,by go_num,bX⟩
  case round =>
   clear bX e0 q1;obtain⟨k,eV,hkV,rfl,hI⟩:=hrel;obtain⟨G1,yJ⟩:∃G1,G1=gk:=⟨_,rfl⟩;by_cases aq:k<5
   .have hd:decide ((k:Int)<(5:Int))=true:=(by simp;omega);have hF:=(uh hI).1;have x0:=hF.is.cls (i:=0) (by omega);have e00:({ f with cl:=As f V k }:CF).cl.getD 0 0=f.cl.getD 0 0:=by
     show(As f V k).getD 0 0=_;rw[sH (by omega),if_neg (by omega)]
    unfold fH at x0;rw[e00]at x0;have xk:=hF.is.cls (i:=k) aq;have xz:=ownsRow.frozenAt hF.is.ob k;have h3:=hF.setCl k (f.cl.getD 0 0) aq;have e1:({ ({ f with cl:=As f V k }:CF) with cl:=({ f with cl:=As f V k }:CF).cl.set k (f.cl.getD 0 0) }:CF)={ f with cl:=As f V (k+1) }:=by
     show({ f with cl:=(As f V k).set k (f.cl.getD 0 0) }:CF)=_;rw[MB (by omega) aq]
    rw[e1]at h3;have hAw:w.heap.size<=A:=(uh H2).2.2 A (by simp[aD]);obtain⟨cz,hcz⟩:∃cz,cz=f.cl.getD 0 0:=⟨_,rfl⟩;rw[<-hcz]at x0 h3;have HN:=ab (zq2 h3 ((uh hI).2.setCell (p:=⟨A,k,none⟩) hAw (.int .i64 (cz:Int))));have k1:(0:Int)<=(k:Int):=(by omega);have k2:(k:Int)<5:=(by omega);clear hF e00 h3 e1 hcz hI;go_upto_region 5 with fail;go_region
    all_goals
     go_wp2_with fail
     go_roundg (G1-1)
     case rel=>exact⟨k+1,by omega,by omega,by go_num,ab ⟨(uh HN).1.of_eq (λ_ _=>rfl),⟨(uh HN).2.os,(uh HN).2.tape,(uh HN).2.output,(uh HN).2.size,(uh HN).2.block⟩⟩⟩
     case measure=>omega
   .have hd:decide ((k:Int)<(5:Int))=false:=(by simp;omega);have Eu:k=5:=(by omega);obtain⟨hF,hb⟩:=uh hI;rw[Eu,SA]at hF;have hfe:=gy (uh Xu) V;have FK:=ab (kh hF hfe (uh Rk));have HI:=ab hb;have HFE:=ab hfe;clear hF hb hfe hI Eu;go_wp2_with fail
    refine(uh FK).mono ?_;rintro e w4 ⟨rfl,av4,ov4,qN,er⟩;have cq:=(uh H2).2.2;have KT:gb w w4 (cI S hv kv wv KV WV) (cI S hv kv wv KV WV) (dK K) (dK K) []:=(gb.below (X:=[]) (uh HI)).trans (gb.stp (X:=aD A fav fov) er (λq hq=>zq1 hq)) (λq hq=>zq1 (cq q hq));have gJ:∀q,q<w.heap.size->w4.heap[q]?=w.heap[q]?:=λq hq=>(er.block q (zq6 hq (uh HI).size) (λe=>by have:=cq q e;omega)).trans ((uh HI).block q hq);have uo:=(uh H).of_eq (λq hq=>gJ q ((uh H).lt q hq)) (λq hq=>gJ q ((uh H).drlt q hq));have Wn:=(uh HC).of_eq (λq hq=>gJ q ((uh HC).lt q hq));have e0:=uo.bs.cell 0 rfl;have q3:=Wn.bk.cell 3 rfl;rw[dJ]at q3;have Tu:∀q∈aD A av4 ov4,w.heap.size<=q:=λq hq=>by
     rcases er.foot q hq with p|p
     .exact cq q p
     .exact zq3 (uh HI).size p
    have af1:(dG c fuel (K.length-1) 0 (bz (sG f V)) s).ok=true:=(by rw[<-uh IZ];exact uh kW);obtain⟨m,hm⟩:∃m,m=K.length-1:=⟨_,rfl⟩;have Rl:=ab (qx (x:=⟨A,bz (sG f V),av4,ov4⟩) uo qN (uh HFE).tidy (λq hq=>⟨λe=>by have:=(uh H).lt q e;have:=Tu q hq;omega,λe=>by have:=(uh H).drlt q e;have:=Tu q hq;omega⟩) (a:=K.length-1) (n:=0) (by omega) hK0 vX af1);have HG4:=ab (zq2 KT Tu);rw[<-hm]at Rl IZ;have hqm:IntKind.i64.wrap ((K.length:Int)-1)=(m:Int):=(by rw[IntKind.wrap_i64];omega);clear qN er KT gJ uo Wn Tu af1 hm FK cq;go_wp2_with fail
    refine(uh Rl).mono ?_;rintro e w5 ⟨rfl,KV',K',p1,p2,p3⟩;have HP:Hid (dQ w5):=ab (by
     rw[uh fD,uh IZ];exact⟨KV',K',p1,p2,(uh HG4).1.trans p3 (λq hq=>zq1 ((uh HG4).2 q hq))⟩)
    clear p1 p2 p3 Rl;go_wp2_with fail
    go_end0
    exact⟨rfl,uh HP⟩
 .rw[lF]at DB;have IZ:Hid (dL c fuel ps.vars.length al s=s):=ab (by rw[uh DA,lF,if_pos rfl]);clear lF DA;go_wp2_with fail
  refine(uh DB).mono ?_;rintro e w2 ⟨rfl,aL⟩;have HP:Hid (dQ w2):=ab (by
   rw[uh fD,uh IZ];have yN:=(uh H1).2.2.1.trans (aL.mono (uh H1).2.2.1.size);exact⟨KV,K,(uh H).below yN,rfl,gb.below yN⟩)
  clear aL DB;go_wp2_with fail
  refine bodyPost_ret (results_none rfl _ _ _) rfl ?_;exact⟨rfl,uh HP⟩
end
theorem infoAl:(prog.info? 82).map (λi=>(i.zero,i.size,i.bytes))=some (some (.agg #[.int .i64 0,.int .i64 0]),2,16):=by kernel_rfl
theorem infoFs:(prog.info? 125).map (λi=>(i.zero,i.size,i.bytes))=some (some (.slice none 0 0),1,24):=by kernel_rfl
def VP(l:List (Nat × Nat)):List Value:=l.flatMap (λp=>[.int .i64 (p.1:Int),.int .i64 (p.2:Int)])
theorem RQ(l m:List (Nat × Nat)):VP (l++m)=VP l++VP m:=by unfold VP;rw[flatMap_append]
def so(RB:Nat)(av kv:Value)(FV:List Value):List (Option Nat):=some RB::av.ownBlock::kv.ownBlock::FV.map Value.ownBlock
structure Rz(w W:World)(RB vd:Nat)(av kv:Value)(al:List (Nat × Nat))(FV:List Value)(L:List (List FE)):Prop where
 bk:Bk W RB 118 [.int .i64 (vd:Int),av,kv]
 al:W.ownsRow 0 82 2 av al.length (VP al)
 kr:W.ownsRow 0 125 1 kv L.length FV
 ke:∀i,i<L.length->W.ownsRow 0 126 1 (FV.getD i aF) (L.getD i []).length ((L.getD i []).map FE.p)
 ap:Apt (so RB av kv FV)
 ge:∀k∈SR (so RB av kv FV),w.heap.size<=k
 bl:Below w.heap.size w W
section
variable {w W W' W1:World} {RB vd:Nat} {av kv:Value} {al:List (Nat × Nat)} {FV:List Value} {L:List (List FE)}
theorem Fa{i:Nat}(hi:i<FV.length):(so RB av kv FV)[3+i]?=some (FV.getD i aF).ownBlock:=by
 unfold so;rw[show 3+i=i+1+1+1 by omega];simp only[getElem?_cons_succ];simp[hi]
theorem xW{i k:Nat}(h:(so RB av kv FV)[i]?=some (some k)):i=0/\k=RB\/i=1/\av.ownBlock=some k\/i=2/\kv.ownBlock=some k\/∃j,j<FV.length/\i=3+j/\(FV.getD j aF).ownBlock=some k:=by
 unfold so at h;match i with
 |0=>left;simpa[eq_comm] using h
 |1=>right;left;simpa using h
 |2=>right;right;left;simpa using h
 |i+3 =>
  right;right;right;simp only[getElem?_cons_succ]at h;have hl:i<FV.length:=by
   have:=(List.getElem?_eq_some_iff.1 h).1;simpa using this
  exact⟨i,hl,by omega,by simpa[hl] using h⟩
theorem Rz.fl(h:Rz w W RB vd av kv al FV L):FV.length=L.length:=by have:=h.kr.1;omega
theorem Rz.lt(h:Rz w W RB vd av kv al FV L):∀k∈SR (so RB av kv FV),k<W.heap.size:=by
 intro k hk;obtain⟨i,hi⟩:=aQ.1 hk;rcases xW hi with⟨-,rfl⟩|⟨-,e⟩|⟨-,e⟩|⟨j,hj,-,e⟩
 .exact h.bk.lt
 .exact(h.al.lt k e).2
 .exact(h.kr.lt k e).2
 .exact((h.ke j (by rw[<-h.fl];exact hj)).lt k e).2
theorem Rz.of_eq(h:Rz w W RB vd av kv al FV L)(he:∀k∈SR (so RB av kv FV),W'.heap[k]?=W.heap[k]?)(hb:Below w.heap.size w W'):Rz w W' RB vd av kv al FV L:=by
 have hf:=h.fl;exact⟨h.bk.of_eq (he RB (aQ.2 ⟨0,rfl⟩)),ae h.al (λk hk=>he k (aQ.2 ⟨1,congrArg some hk⟩)),ae h.kr (λk hk=>he k (aQ.2 ⟨2,congrArg some hk⟩)),λi hi=>ae (h.ke i hi) (λk hk=>he k (aQ.2 ⟨_,(Fa (by omega)).trans (congrArg some hk)⟩)),h.ap,h.ge,hb⟩
theorem Rz.below(h:Rz w W RB vd av kv al FV L)(hb:Below W.heap.size W W'):Rz w W' RB vd av kv al FV L:=h.of_eq (λk hk=>hb.block k (h.lt k hk)) (h.bl.trans (hb.mono h.bl.size))
theorem Rz.verd(h:Rz w W RB vd av kv al FV L):Rz w (W.setCell ⟨RB,0,none⟩ (.int .i64 1)) RB 1 av kv al FV L:=by
 have hf:=h.fl;have aJ:∀p k,p≠0->(so RB av kv FV)[p]?=some (some k)->(W.setCell ⟨RB,0,none⟩ (.int .i64 1)).heap[k]?=W.heap[k]?:=λp k hp hk=>heap_setCell _ _ _ _ (λe=>hp (h.ap p 0 k hk (by rw[show k=RB from e];rfl)));exact⟨h.bk.set 0 (.int .i64 1),ae h.al (λk hk=>aJ 1 k (by omega) (congrArg some hk)),ae h.kr (λk hk=>aJ 2 k (by omega) (congrArg some hk)),λi hi=>ae (h.ke i hi) (λk hk=>aJ _ k (by omega) ((Fa (by omega)).trans (congrArg some hk))),h.ap,h.ge,h.bl.setCell (p:=⟨RB,0,none⟩) (h.ge RB (aQ.2 ⟨0,rfl⟩)) _⟩
theorem Rz.alarm(h:Rz w W RB vd av kv al FV L){p:Nat × Nat}{g c:Nat}(aN:W1.ownsRow 0 82 2 (.slice (some ⟨g,0,none⟩) (al.length+1) c) (al.length+1) (VP al++[.int .i64 (p.1:Int),.int .i64 (p.2:Int)]))(hg:W.grownBy W1 av.ownBlock)(cd:some g=av.ownBlock\/g=W.heap.size):
  Rz w (W1.setCell ⟨RB,1,none⟩ (.slice (some ⟨g,0,none⟩) (al.length+1) c)) RB vd (.slice (some ⟨g,0,none⟩) (al.length+1) c) kv (al++[p]) FV L/\Bk W1 RB 118 [.int .i64 (vd:Int),av,kv]:=by
 have hf:=h.fl;have si:∀q k,q≠1->(so RB av kv FV)[q]?=some (some k)->W1.heap[k]?=W.heap[k]?:=λq k hq hk=>hg.block k (h.lt k (aQ.2 ⟨q,hk⟩)) (λe=>hq (h.ap q 1 k hk (congrArg some e.symm)));have hgR:g≠RB:=λe=>by
  rcases cd with q|q
  .have:=h.ap 1 0 RB (by rw[<-e];exact congrArg some q.symm) rfl;omega
  .have:=h.bk.lt;omega
 have aJ:∀q k,q≠0->q≠1->(so RB av kv FV)[q]?=some (some k)->(W1.setCell ⟨RB,1,none⟩ (.slice (some ⟨g,0,none⟩) (al.length+1) c)).heap[k]?=W.heap[k]?:=λq k h0 h1 hk=>(heap_setCell _ _ _ _ (λe=>h0 (h.ap q 0 k hk (by rw[show k=RB from e];rfl)))).trans (si q k h1 hk);have fq:=h.bk.of_eq (si 0 RB (by omega) rfl);have cf:so RB (.slice (some ⟨g,0,none⟩) (al.length+1) c) kv FV=(so RB av kv FV).set 1 (some g):=rfl;refine⟨⟨fq.set 1 _,?_,ae h.kr (λk hk=>aJ 2 k (by omega) (by omega) (congrArg some hk)),λi hi=>ae (h.ke i hi) (λk hk=>aJ _ k (by omega) (by omega) ((Fa (by omega)).trans (congrArg some hk))),?_,λk hk=>?_,?_⟩,fq⟩
 .rw[length_append,length_singleton,RQ];exact ci aN (p:=⟨RB,1,none⟩) (by show some g≠some RB;intro e;injection e with e;exact hgR e) _
 .rw[cf];refine h.ap.set 1 (λk hk=>?_);injection hk with hk;subst hk;rcases cd with q|q
  .exact zq0 (congrArg some q.symm)
  .exact zq1 (λj hj=>by have:=h.lt g (aQ.2 ⟨j,hj⟩);omega)
 .obtain⟨i,hi⟩:=aQ.1 hk;rw[cf,getElem?_set]at hi;split at hi
  .split at hi
   .simp only[Option.some.injEq]at hi;subst hi;rcases cd with q|q
    .exact h.ge g (aQ.2 ⟨1,congrArg some q.symm⟩)
    .have:=h.bl.size;omega
   .simp at hi
  .exact h.ge k (aQ.2 ⟨i,hi⟩)
 .refine(h.bl.grown hg h.bl.size (λk hk=>h.ge k (aQ.2 ⟨1,congrArg some hk⟩))).setCell (p:=⟨RB,1,none⟩) (h.ge RB (aQ.2 ⟨0,rfl⟩)) _
theorem Rz.know{n kB kC:Nat}{x:FE}(h:Rz w W RB vd av kv al FV L)(hn:n<L.length)(BX:kv=.slice (some ⟨kB,0,none⟩) L.length kC){g c:Nat}(aN:W1.ownsRow 0 126 1 (.slice (some ⟨g,0,none⟩) ((L.getD n []).length+1) c) ((L.getD n []).length+1) ((L.getD n []).map FE.p++[x.p]))(hg:W.grownBy W1 (FV.getD n aF).ownBlock)(cd:some g=(FV.getD n aF).ownBlock\/g=W.heap.size):
  Rz w (W1.setCell ⟨kB,n,none⟩ (.slice (some ⟨g,0,none⟩) ((L.getD n []).length+1) c)) RB vd av kv al (FV.set n (.slice (some ⟨g,0,none⟩) ((L.getD n []).length+1) c)) (L.set n (L.getD n []++[x]))/\W1.ownsRow 0 125 1 kv L.length FV/\Bk W1 RB 118 [.int .i64 (vd:Int),av,kv]:=by
 have hf:=h.fl;obtain⟨v,hv⟩:∃v,v=Value.slice (some ⟨g,0,none⟩) ((L.getD n []).length+1) c:=⟨_,rfl⟩;have TM:v.ownBlock=some g:=by rw[hv];rfl
 rw[<-hv]at aN ⊢;have sN:(so RB av kv FV)[2]?=some (some kB):=by rw[BX];rfl
 have eV:(so RB av kv FV)[3+n]?=some (FV.getD n aF).ownBlock:=Fa (by omega);have si:∀q k,q≠3+n->(so RB av kv FV)[q]?=some (some k)->W1.heap[k]?=W.heap[k]?:=λq k hq hk=>hg.block k (h.lt k (aQ.2 ⟨q,hk⟩)) (λe=>hq (h.ap q (3+n) k hk (eV.trans (congrArg some e.symm))));have KU:g≠kB:=λe=>by
  rcases cd with q|q
  .have:=h.ap (3+n) 2 kB (by rw[eV,<-q,e]) sN;omega
  .have:=h.lt kB (aQ.2 ⟨2,sN⟩);omega
 have aJ:∀q k,q≠2->q≠3+n->(so RB av kv FV)[q]?=some (some k)->(W1.setCell ⟨kB,n,none⟩ v).heap[k]?=W.heap[k]?:=λq k h0 h1 hk=>(heap_setCell _ _ _ _ (λe=>h0 (h.ap q 2 k hk (by rw[show k=kB from e];exact sN)))).trans (si q k h1 hk);have Q8:W1.ownsRow 0 125 1 kv L.length FV:=ae h.kr (λk hk=>si 2 k (by omega) (congrArg some hk));have cf:so RB av kv (FV.set n v)=(so RB av kv FV).set (3+n) (some g):=by
  unfold so;rw[show 3+n=n+1+1+1 by omega];simp only[set_cons_succ];rw[map_set,TM]
 have hLs:(L.set n (L.getD n []++[x])).length=L.length:=length_set;refine⟨⟨h.bk.of_eq (aJ 0 RB (by omega) (by omega) rfl),ae h.al (λk hk=>aJ 1 k (by omega) (by omega) (congrArg some hk)),?_,λi hi=>?_,?_,λk hk=>?_,?_⟩,Q8,h.bk.of_eq (si 0 RB (by omega) rfl)⟩
 .rw[hLs];rw[BX]at Q8 ⊢;exact(Q8.stored n v).1
 .rw[hLs]at hi;by_cases e:i=n
  .subst e;have e1:(FV.set i v).getD i aF=v:=(by rw[getD_eq_getElem?_getD,getElem?_set_self (by omega)];rfl);have e2:(L.set i (L.getD i []++[x])).getD i []=L.getD i []++[x]:=(by rw[getD_eq_getElem?_getD,getElem?_set_self (by omega)];rfl);rw[e1,e2,length_append,length_singleton,map_append];exact ci aN (p:=⟨kB,i,none⟩) (by rw[TM];intro e;injection e with e;exact KU e) _
  .have e1:(FV.set n v).getD i aF=FV.getD i aF:=(by rw[getD_eq_getElem?_getD,getElem?_set_ne (λe'=>e e'.symm),<-getD_eq_getElem?_getD]);have e2:(L.set n (L.getD n []++[x])).getD i []=L.getD i []:=(by rw[getD_eq_getElem?_getD,getElem?_set_ne (λe'=>e e'.symm),<-getD_eq_getElem?_getD]);rw[e1,e2];exact ae (h.ke i hi) (λk hk=>aJ _ k (by omega) (by omega) ((Fa (by omega)).trans (congrArg some hk)))
 .rw[cf];refine h.ap.set _ (λk hk=>?_);injection hk with hk;subst hk;rcases cd with q|q
  .exact zq0 (by rw[eV,<-q])
  .exact zq1 (λj hj=>by have:=h.lt g (aQ.2 ⟨j,hj⟩);omega)
 .obtain⟨i,hi⟩:=aQ.1 hk;rw[cf,getElem?_set]at hi;split at hi
  .split at hi
   .simp only[Option.some.injEq]at hi;subst hi;rcases cd with q|q
    .exact h.ge g (aQ.2 ⟨3+n,by rw[eV,<-q]⟩)
    .have:=h.bl.size;omega
   .simp at hi
  .exact h.ge k (aQ.2 ⟨i,hi⟩)
 .exact(h.bl.grown hg h.bl.size (λk hk=>h.ge k (aQ.2 ⟨3+n,eV.trans (congrArg some hk)⟩))).setCell (p:=⟨kB,n,none⟩) (h.ge kB (aQ.2 ⟨2,sN⟩)) _
end
def alN(wr:List (List Bool))(n:Nat):List (Nat × Nat):=([2,3,4].filter (λk=>(wr.getD n []).getD k false)).map (λk=>(n,k))
def mw(wr:List (List Bool))(k:Nat):List (Nat × Nat):=(range k).flatMap (alN wr)
theorem AV(wr:List (List Bool))(k:Nat):mw wr (k+1)=mw wr k++alN wr k:=by unfold mw;rw[range_succ,flatMap_append];simp
theorem RR(wr:List (List Bool)):mw wr wr.length=RS wr:=rfl
def wO(wr:List (List Bool))(n t:Nat):List (Nat × Nat):=([2,3,4].filter (λk=>decide (k<t)&&(wr.getD n []).getD k false)).map (λk=>(n,k))
theorem LG(wr:List (List Bool))(n:Nat){t:Nat}(h2:2<=t)(h5:t<5):wO wr n (t+1)=wO wr n t++if (wr.getD n []).getD t false=true then [(n,t)] else []:=by
 have:t=2\/t=3\/t=4:=by omega
 unfold wO;cases b2:(wr.getD n []).getD 2 false <;> cases b3:(wr.getD n []).getD 3 false <;> cases b4:(wr.getD n []).getD 4 false <;> rcases this with rfl|rfl|rfl <;> simp only[filter_cons,b2,b3,b4,filter_nil] <;> rfl
theorem RT(wr:List (List Bool))(n:Nat):wO wr n 2=[]:=by unfold wO;simp
theorem AW(wr:List (List Bool))(n:Nat):wO wr n 5=alN wr n:=by
 unfold wO alN;congr 1
theorem FU(wr:List (List Bool))(n t:Nat):(wO wr n t).length<=3:=by
 unfold wO;rw[length_map];exact zq3 (length_filter_le _ _) (by simp)
theorem FT(wr:List (List Bool)):∀k,(mw wr k).length<=3*k
 |0=>by simp[mw]
 |k+1=>by
  rw[AV,length_append,<-AW];have h1:=FT wr k;have h2:=FU wr k 5;omega
def Dx(al:List (Nat × Nat)):Nat:=if al=[] then 0 else 1
