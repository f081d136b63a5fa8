import Derived.Test.YtciihepbeacppaaGreatM28
set_option maxRecDepth 100000
set_option maxHeartbeats 0
namespace Go.Proofs.YtciihepbeacppaaGreat
open Tryz Go.RowKit List World Below
set_option linter.unusedVariables false
def Hz(nds:List Nd)(k:Nat):List Bool:=(range k).foldl (λh i=>if gU nds i=true then h.set (nds.getD i aK).nx true else h) (replicate nds.length false)
def MQ(nds:List Nd)(k:Nat):Bool:=(range k).any (gU nds)
theorem Lz(nds:List Nd)(k:Nat):Hz nds (k+1)=if gU nds k=true then (Hz nds k).set (nds.getD k aK).nx true else Hz nds k:=by
 unfold Hz;rw[range_succ,foldl_append];rfl
theorem MR(nds:List Nd)(k:Nat):MQ nds (k+1)=(MQ nds k||gU nds k):=by
 unfold MQ;rw[range_succ,any_append];simp
def Uo(w:World)(c:Cd)(c0:Value)(nds:List Nd)(S:Nat)(w':World):Prop :=
 ∃hv kv wv WV,Sh w' S c c0 hv kv wv (replicate nds.length aH) WV (replicate nds.length []) (md nds)/\Below w.heap.size w w'/\∀k∈cL S hv kv wv (replicate nds.length aH) WV,w.heap.size<=k
theorem pM.sh{w W:World}{S:Nat}{c0 hv kv wv:Value}{WV:List Value}{nds:List Nd}{nv:Nat}{al:List cf}(h:pM w W S c0 hv kv wv WV (MQ nds nds.length) (Hz nds nds.length) (!Jp nds nv al) nds.length nds.length):Sh W S (Ey nds nv al) c0 hv kv wv (replicate nds.length aH) WV (replicate nds.length []) (md nds):=by
 have ni:∀{α:Type} (a:α),(replicate nds.length a).length=nds.length:=λa=>length_replicate;have Wv:∀{α:Type} (a d:α) (i:Nat),i<nds.length->(replicate nds.length a).getD i d=a:=λa d i hi=>by simp[hi]
 refine⟨h.bs,?_,?_,λi hi=>?_,?_,λi hi=>?_,?_,?_,?_,?_,λl hl e he=>?_,h.ap,λk hk=>?_⟩
 .show W.ownsRow 0 _ 1 hv (O0 nds).length (cR (O0 nds));have e:(O0 nds).length=nds.length:=h.hl;rw[e];exact h.hr
 .rw[ni];exact h.kr
 .rw[ni]at hi;rw[Wv _ _ i hi,Wv _ _ i hi];exact⟨rfl,.inl ⟨rfl,rfl⟩⟩
 .rw[ni];exact h.wr
 .rw[ni]at hi;show W.ownsRow 0 _ 1 _ 5 (cR ((replicate nds.length (replicate 5 false)).getD i []));rw[Wv _ _ i hi];exact h.we i hi
 .show(replicate nds.length (replicate 5 false)).length=_;rw[ni,ni]
 .rw[ni];exact h.hl
 .rw[ni];rfl
 .show replicate nds.length []=_;rw[map_replicate];rfl
 .rw[eq_of_mem_replicate hl]at he;simp at he
 .obtain⟨l,hl,e,he,-⟩:=bt.1 hk;rw[eq_of_mem_replicate hl]at he;simp at he
section
variable {w:World} {Q:Nat} {ws:List ByteArray} {ps:PS} {al:List cf} {vv pv nv:Value}
theorem JX(h:Cp w Q ws ps al vv pv nv)(hA:YL al)(iN:ps.nodes.length<=100000)(Dp:ps.vars.length<=1000):
  Calls prog 139 #[.pointer (some ⟨Q,0,none⟩)] w λe w'=>∃S,e=.returned (.pointer (some ⟨S,0,none⟩))/\Uo w (Ey ps.nodes ps.vars.length al) (.pointer (some ⟨Q,0,none⟩)) ps.nodes S w':=by
 have HSI:=ab (yv h hA iN Dp);obtain⟨na,nc,Ig,-,-⟩:=aj h.nr;subst Ig;have c3:=h.bk.cell 3 rfl;have H:=ab h;obtain⟨nds,AJ⟩:∃nds,nds=ps.nodes:=⟨_,rfl⟩;obtain⟨sb,zH⟩:∃sb,sb=Jp ps.nodes ps.vars.length al:=⟨_,rfl⟩;rw[<-zH]at HSI;have HSB:=ab zH;obtain⟨dP,df⟩:∃dP:Nat->World->Prop,dP=λS w'=>Uo w (Ey ps.nodes ps.vars.length al) (.pointer (some ⟨Q,0,none⟩)) ps.nodes S w':=⟨_,rfl⟩;have fD:=ab df;rw[show(fun(e:Ending) (w':World)=>∃S,e=.returned (.pointer (some ⟨S,0,none⟩))/\Uo w (Ey ps.nodes ps.vars.length al) (.pointer (some ⟨Q,0,none⟩)) ps.nodes S w')=(λe w'=>∃S,e=.returned (.pointer (some ⟨S,0,none⟩))/\dP S w') by rw[df]];rw[<-AJ]at c3 iN fD HSB;have hQl:=h.bk.lt;have YX:Hid (∀i,(hi:i<nds.length)->∃g cap,Value.slice na ps.nodes.length nc=.slice (some ⟨g,0,none⟩) nds.length cap/\w.cell? ⟨g,i*6,none⟩=some (.int .i64 (nds[i].op:Int))/\w.cell? ⟨g,i*6+1,none⟩=some (.int .i64 (nds[i].v:Int))/\w.cell? ⟨g,i*6+2,none⟩=some (.int .i64 (nds[i].ak:Int))/\w.cell? ⟨g,i*6+3,none⟩=some (.int .i64 (nds[i].ai:Int))/\w.cell? ⟨g,i*6+4,none⟩=some (.int .i64 (nds[i].nx:Int))/\w.cell? ⟨g,i*6+5,none⟩=some (.int .i64 (nds[i].ot:Int))/\g<w.heap.size):=ab (by
  subst AJ;intro i hi;obtain⟨g,cap,e,x0,x1,x2,x3,x4,x5⟩:=h.nd hi;exact⟨g,cap,e,x0,x1,x2,x3,x4,x5,block_lt_of_cell? w _ x0⟩)
 have jE:=ab (zq2 AJ iN);have anH:=run_make_row' (P:=prog) 200 4 (.bool false) 1 underlying200 infoBl rfl .i64 .i64 nds.length (by omega) (by omega);have anI:=run_make_row' (P:=prog) 226 255 (.slice none 0 0) 24 underlying226 infoEs rfl .i64 .i64 nds.length (by omega) (by omega);have anJ:=run_make_row' (P:=prog) 227 200 (.slice none 0 0) 24 underlying227 infoBs rfl .i64 .i64 nds.length (by omega) (by omega);have anK:∀W:World,(Instr.makeSlice 200 (.int .i64 5) (.int .i64 5)).run prog W=.ok (.slice (some ⟨W.heap.size,0,none⟩) 5 5) (W.alloc (.cells (madeCells #[Value.bool false] 5) 4)):=run_make_row' (P:=prog) 200 4 (.bool false) 1 underlying200 infoBl rfl .i64 .i64 5 (by omega) (by omega);clear h hA Dp zH df AJ;go_enter func139,ntmps139;go_wp2_with fail
 refine(uh HSI).mono ?_;rintro e w1 ⟨rfl,bB⟩;have eU:=ab bB;clear bB HSI;go_upto_region 3 with fail;obtain⟨W2,iA⟩:∃W2,W2=w1.alloc (.cells #[Value.pointer (some ⟨Q,0,none⟩),.slice none 0 0,.bool false,.slice none 0 0,.slice none 0 0,.bool (!sb),.int .i64 3000,.int .i64 2097152,.bool false] 229):=⟨_,rfl⟩;have aR:Below w.heap.size w W2:=by rw[iA];exact(uh eU).trans ((ah w1 _).mono (uh eU).size)
 have Hv:Bk W2 w1.heap.size 229 (ou (.pointer (some ⟨Q,0,none⟩)) (.slice none 0 0) false (.slice none 0 0) (.slice none 0 0) (!sb) 3000 2097152 false):=by rw[iA];exact Bk.new w1 _ _
 have QA:=(uh eU).size;obtain⟨S,hS⟩:∃S,S=w1.heap.size:=⟨_,rfl⟩;rw[<-hS]at Hv QA;have H2:=ab (zq2 Hv (zq2 aR QA));rw[<-iA,<-hS];clear iA hS aR Hv QA eU;go_cut [] (λwx=>∃hB,Hid (Bk wx S 229 (ou (.pointer (some ⟨Q,0,none⟩)) (.slice (some ⟨hB,0,none⟩) nds.length nds.length) false (.slice none 0 0) (.slice none 0 0) (!sb) 3000 2097152 false)/\wx.ownsRow 0 4 1 (.slice (some ⟨hB,0,none⟩) nds.length nds.length) nds.length (cR (replicate nds.length false))/\S<hB/\Below w.heap.size w wx))
 case first =>
  obtain⟨gy,hb,QA⟩:=uh H2;have e1:=(gy.alloc (.cells (madeCells #[Value.bool false] nds.length) 4)).cell 1 rfl;have z1:=(gy.alloc (.cells (madeCells #[Value.bool false] nds.length) 4)).frz 1;have OS:=gy.lt;have bp:((W2.alloc (.cells (madeCells #[Value.bool false] nds.length) 4)).setCell ⟨S,1,none⟩ (.slice (some ⟨W2.heap.size,0,none⟩) nds.length nds.length)).ownsRow 0 4 1 (.slice (some ⟨W2.heap.size,0,none⟩) nds.length nds.length) nds.length (cR (replicate nds.length false)):=by
   have h2:=ownsRow_lit (base:=0) (e:=4) (size:=1) W2 (madeCells #[Value.bool false] nds.length) nds.length (zq5 _) (by have:=(uh jE).2;simp[maxLen];omega) (by simp[madeCells]);rw[toList_madeCells_one]at h2;have e:cR (replicate nds.length false)=replicate nds.length (Value.bool false):=(by unfold cR;rw[map_replicate]);rw[e];exact ca h2 (p:=⟨S,1,none⟩) (by show some W2.heap.size≠some S;intro e;injection e with e;omega) _
  have HN:=ab (zq2 ((gy.alloc (.cells (madeCells #[Value.bool false] nds.length) 4)).set 1 (.slice (some ⟨W2.heap.size,0,none⟩) nds.length nds.length)) (zq2 bp (zq2 OS ((hb.trans ((ah W2 (.cells (madeCells #[Value.bool false] nds.length) 4)).mono hb.size)).setCell (p:=⟨S,1,none⟩) QA (.slice (some ⟨W2.heap.size,0,none⟩) nds.length nds.length)))));clear gy hb QA OS bp;go_wp2_with fail
  go_meet
  exact⟨_,HN⟩
 case rest =>
 obtain⟨hB,hH⟩:=hcut;have QA:=(uh H2).2.2;clear H2;go_upto_region 4 with fail;go_cut [] (λwx=>∃kB,Hid (Bk wx S 229 (ou (.pointer (some ⟨Q,0,none⟩)) (.slice (some ⟨hB,0,none⟩) nds.length nds.length) false (.slice (some ⟨kB,0,none⟩) nds.length nds.length) (.slice none 0 0) (!sb) 3000 2097152 false)/\wx.ownsRow 0 4 1 (.slice (some ⟨hB,0,none⟩) nds.length nds.length) nds.length (cR (replicate nds.length false))/\wx.ownsRow 0 255 1 (.slice (some ⟨kB,0,none⟩) nds.length nds.length) nds.length (replicate nds.length aH)/\S<hB/\hB<kB/\Below w.heap.size w wx))
 case first =>
  obtain⟨gy,yi,zH,hb⟩:=uh hH;obtain⟨W3,hW3⟩:∃W3,W3=wc:=⟨_,rfl⟩;rw[<-hW3]at gy yi hb ⊢;have e1:=(gy.alloc (.cells (madeCells #[Value.slice none 0 0] nds.length) 255)).cell 3 rfl;have z1:=(gy.alloc (.cells (madeCells #[Value.slice none 0 0] nds.length) 255)).frz 3;have OS:=gy.lt;have Tq:=(yi.lt hB rfl).2;have bp:((W3.alloc (.cells (madeCells #[Value.slice none 0 0] nds.length) 255)).setCell ⟨S,3,none⟩ (.slice (some ⟨W3.heap.size,0,none⟩) nds.length nds.length)).ownsRow 0 255 1 (.slice (some ⟨W3.heap.size,0,none⟩) nds.length nds.length) nds.length (replicate nds.length aH):=by
   have h2:=ownsRow_lit (base:=0) (e:=255) (size:=1) W3 (madeCells #[Value.slice none 0 0] nds.length) nds.length (zq5 _) (by have:=(uh jE).2;simp[maxLen];omega) (by simp[madeCells]);rw[toList_madeCells_one]at h2;exact ca h2 (p:=⟨S,3,none⟩) (by show some W3.heap.size≠some S;intro e;injection e with e;omega) _
  have Mm:=ca (yi.alloc (.cells (madeCells #[Value.slice none 0 0] nds.length) 255)) (p:=⟨S,3,none⟩) (by show some hB≠some S;intro e;injection e with e;omega) (.slice (some ⟨W3.heap.size,0,none⟩) nds.length nds.length);have HN:=ab (zq2 ((gy.alloc (.cells (madeCells #[Value.slice none 0 0] nds.length) 255)).set 3 (.slice (some ⟨W3.heap.size,0,none⟩) nds.length nds.length)) (zq2 Mm (zq2 bp (zq2 zH (zq2 Tq ((hb.trans ((ah W3 (.cells (madeCells #[Value.slice none 0 0] nds.length) 255)).mono hb.size)).setCell (p:=⟨S,3,none⟩) QA (.slice (some ⟨W3.heap.size,0,none⟩) nds.length nds.length)))))));clear gy yi hb OS bp Mm hW3 hH Tq zH;go_wp2_with fail
  go_meet
  exact⟨_,HN⟩
 case rest =>
 obtain⟨kB,hK⟩:=hcut;clear hH;go_upto_region 5 with fail;go_cut [] (λwx=>∃wB,Hid (Bk wx S 229 (ou (.pointer (some ⟨Q,0,none⟩)) (.slice (some ⟨hB,0,none⟩) nds.length nds.length) false (.slice (some ⟨kB,0,none⟩) nds.length nds.length) (.slice (some ⟨wB,0,none⟩) nds.length nds.length) (!sb) 3000 2097152 false)/\wx.ownsRow 0 4 1 (.slice (some ⟨hB,0,none⟩) nds.length nds.length) nds.length (cR (replicate nds.length false))/\wx.ownsRow 0 255 1 (.slice (some ⟨kB,0,none⟩) nds.length nds.length) nds.length (replicate nds.length aH)/\wx.ownsRow 0 200 1 (.slice (some ⟨wB,0,none⟩) nds.length nds.length) nds.length (replicate nds.length aH)/\S<hB/\hB<kB/\kB<wB/\Below w.heap.size w wx))
 case first =>
  obtain⟨gy,yi,hrk,zH,Hv,hb⟩:=uh hK;obtain⟨W3,hW3⟩:∃W3,W3=wc:=⟨_,rfl⟩;rw[<-hW3]at gy yi hrk hb ⊢;have e1:=(gy.alloc (.cells (madeCells #[Value.slice none 0 0] nds.length) 200)).cell 4 rfl;have z1:=(gy.alloc (.cells (madeCells #[Value.slice none 0 0] nds.length) 200)).frz 4;have OS:=gy.lt;have Tq:=(hrk.lt kB rfl).2;have bp:((W3.alloc (.cells (madeCells #[Value.slice none 0 0] nds.length) 200)).setCell ⟨S,4,none⟩ (.slice (some ⟨W3.heap.size,0,none⟩) nds.length nds.length)).ownsRow 0 200 1 (.slice (some ⟨W3.heap.size,0,none⟩) nds.length nds.length) nds.length (replicate nds.length aH):=by
   have h2:=ownsRow_lit (base:=0) (e:=200) (size:=1) W3 (madeCells #[Value.slice none 0 0] nds.length) nds.length (zq5 _) (by have:=(uh jE).2;simp[maxLen];omega) (by simp[madeCells]);rw[toList_madeCells_one]at h2;exact ca h2 (p:=⟨S,4,none⟩) (by show some W3.heap.size≠some S;intro e;injection e with e;omega) _
  have Mm:=ca (yi.alloc (.cells (madeCells #[Value.slice none 0 0] nds.length) 200)) (p:=⟨S,4,none⟩) (by show some hB≠some S;intro e;injection e with e;omega) (.slice (some ⟨W3.heap.size,0,none⟩) nds.length nds.length);have ac1:=ca (hrk.alloc (.cells (madeCells #[Value.slice none 0 0] nds.length) 200)) (p:=⟨S,4,none⟩) (by show some kB≠some S;intro e;injection e with e;omega) (.slice (some ⟨W3.heap.size,0,none⟩) nds.length nds.length);have HN:=ab (zq2 ((gy.alloc (.cells (madeCells #[Value.slice none 0 0] nds.length) 200)).set 4 (.slice (some ⟨W3.heap.size,0,none⟩) nds.length nds.length)) (zq2 Mm (zq2 ac1 (zq2 bp (zq2 zH (zq2 Hv (zq2 Tq ((hb.trans ((ah W3 (.cells (madeCells #[Value.slice none 0 0] nds.length) 200)).mono hb.size)).setCell (p:=⟨S,4,none⟩) QA (.slice (some ⟨W3.heap.size,0,none⟩) nds.length nds.length)))))))));clear gy yi hrk hb OS bp Mm ac1 hW3 hK Tq zH Hv;go_wp2_with fail
  go_meet
  exact⟨_,HN⟩
 case rest =>
 obtain⟨wB,hW⟩:=hcut;clear hK;have cd:Hid (pM w wc S (.pointer (some ⟨Q,0,none⟩)) (.slice (some ⟨hB,0,none⟩) nds.length nds.length) (.slice (some ⟨kB,0,none⟩) nds.length nds.length) (.slice (some ⟨wB,0,none⟩) nds.length nds.length) (replicate nds.length aH) (MQ nds 0) (Hz nds 0) (!sb) nds.length 0/\∀j,0<=j->(replicate nds.length aH).getD j aH=aH):=ab (by
  obtain⟨h1,h2,h3,h4,h5,h6,h7,h8⟩:=uh hW;have rl:∀j,(replicate nds.length aH).getD j aH=aH:=λj=>by
   by_cases hj:j<nds.length
   .simp[hj]
   .rw[getD_eq_getElem?_getD,getElem?_eq_none (by rw[length_replicate];omega)];rfl
  have gG:∀i k,(ny S (.slice (some ⟨hB,0,none⟩) nds.length nds.length) (.slice (some ⟨kB,0,none⟩) nds.length nds.length) (.slice (some ⟨wB,0,none⟩) nds.length nds.length) (replicate nds.length aH) (replicate nds.length aH))[i]?=some (some k)->i=0/\k=S\/i=1/\k=hB\/i=2/\k=kB\/i=3/\k=wB:=λi k hi=>by
   rcases M9 hi with⟨a,b⟩|⟨a,e⟩|⟨a,e⟩|⟨a,e⟩|⟨j,hj,-,e⟩|⟨j,hj,-,e⟩
   .exact zq0 ⟨a,b⟩
   .exact zq1 (zq0 ⟨a,by injection e with e;exact e.symm⟩)
   .exact zq1 (zq1 (zq0 ⟨a,by injection e with e;exact e.symm⟩))
   .exact zq1 (zq1 (zq1 ⟨a,by injection e with e;exact e.symm⟩))
   .rw[rl]at e;cases e
   .rw[rl]at e;cases e
  refine⟨⟨h1,by unfold Hz;simp,h2,h3,h4,λj hj=>by omega,λi j k hi hj=>?_,h8,λk hk=>?_⟩,λj _=>rl j⟩
  .have a1:=gG i k hi;have a2:=gG j k hj;omega
  .obtain⟨i,hi⟩:=aU.1 hk;have a1:=gG i k hi;omega)
 clear hW;go_wp2_with fail
 go_loopg [5] nds.length (λgn iv wx=>∃(k:Nat) (WV:List Value),k+gn=nds.length/\iv=.int .i64 k/\Hid (pM w wx S (.pointer (some ⟨Q,0,none⟩)) (.slice (some ⟨hB,0,none⟩) nds.length nds.length) (.slice (some ⟨kB,0,none⟩) nds.length nds.length) (.slice (some ⟨wB,0,none⟩) nds.length nds.length) WV (MQ nds k) (Hz nds k) (!sb) nds.length k/\∀j,k<=j->WV.getD j aH=aH))
 case atStart=>exact⟨0,_,by omega,rfl,cd⟩
 case round =>
  clear cd;obtain⟨k,WV,f7,rfl,hI⟩:=hrel;obtain⟨G1,uF⟩:∃G1,G1=gk:=⟨_,rfl⟩;by_cases ar:k<nds.length
  .have hd:decide ((k:Int)<(nds.length:Int))=true:=(by simp;omega);obtain⟨h1,h2⟩:=uh hI;have d4:=h1.bs.cell 4 rfl;have bV:=ah wr (.cells (madeCells #[Value.bool false] 5) 4);have hrA:=h1.wr.alloc (.cells (madeCells #[Value.bool false] 5) 4);have e4:=(h1.bs.alloc (.cells (madeCells #[Value.bool false] 5) 4)).cell 4 rfl;have hwl:=h1.wl;have ck:=hrA.cellAt k (by omega);rw[getElem?_eq_getElem (by omega)]at ck;have zk:=hrA.frozenAt k;obtain⟨h3,h4⟩:=h1.row ar h2 (o:=.cells (madeCells #[Value.bool false] 5) 4) rfl (wB:=wB) (wC:=nds.length) rfl;obtain⟨W4,vm⟩:∃W4,W4=(wr.alloc (.cells (madeCells #[Value.bool false] 5) 4)).setCell ⟨wB,k,none⟩ (.slice (some ⟨wr.heap.size,0,none⟩) 5 5):=⟨_,rfl⟩;rw[<-vm]at h3;have i1:(0:Int)<=(k:Int):=(by omega);have i2:(k:Int)<(nds.length:Int):=(by omega);have H3:=ab (zq2 h3 h4);clear h1 h2 bV hrA h3 h4 hI;go_upto_region 9 with fail;go_cut [] (λwx=>∃WV',Hid (pM w wx S (.pointer (some ⟨Q,0,none⟩)) (.slice (some ⟨hB,0,none⟩) nds.length nds.length) (.slice (some ⟨kB,0,none⟩) nds.length nds.length) (.slice (some ⟨wB,0,none⟩) nds.length nds.length) WV' (MQ nds k) (Hz nds k) (!sb) nds.length (k+1)/\∀j,k+1<=j->WV'.getD j aH=aH))
   case first =>
    go_region
    all_goals
     go_wp2_with fail
     go_meet
     exact⟨_,ab ⟨(uh H3).1.of_eq (by omega) (λq _=>by rw[vm];rfl) ⟨by have:=(uh H3).1.bl.os;rw[vm]at this;exact this,by have:=(uh H3).1.bl.tape;rw[vm]at this;exact this,by have:=(uh H3).1.bl.output;rw[vm]at this;exact this,by have:=(uh H3).1.bl.size;rw[vm]at this;exact this,by have:=(uh H3).1.bl.block;rw[vm]at this;exact this⟩,(uh H3).2⟩⟩
   case rest =>
    clear H3 vm ck zk e4 d4 hwl;obtain⟨WV',hH⟩:=hcut;obtain⟨g,cap2,c9,x0,x1,x2,x3,x4,x5,mq⟩:=uh YX k ar;have hqc:=((uh hH).1.bl.cell hQl).trans c3;simp only[Value.slice.injEq]at c9;obtain⟨rfl,-,rfl⟩:=c9;have x0:=((uh hH).1.bl.cell mq).trans x0;have x1:=((uh hH).1.bl.cell mq).trans x1;have x2:=((uh hH).1.bl.cell mq).trans x2;have x3:=((uh hH).1.bl.cell mq).trans x3;have x4:=((uh hH).1.bl.cell mq).trans x4;have x5:=((uh hH).1.bl.cell mq).trans x5;have gy:gU nds k=(decide (nds[k].op=10)&&decide (nds[k].nx<k)):=(by unfold gU;rw[bC ar]);have hhs:=Lz nds k;have hls:=MR nds k;rw[bC ar]at hhs;obtain⟨nd,dV⟩:∃nd,nd=nds[k]:=⟨_,rfl⟩;rw[<-dV]at x0 x1 x2 x3 x4 x5 gy hhs;obtain⟨W5,qK⟩:∃W5,W5=wc.alloc (.cells #[Value.int .i64 (nd.op:Int),.int .i64 (nd.v:Int),.int .i64 (nd.ak:Int),.int .i64 (nd.ai:Int),.int .i64 (nd.nx:Int),.int .i64 (nd.ot:Int)] 186):=⟨_,rfl⟩;have bV:Below wc.heap.size wc W5:=(by rw[qK];exact ah wc _);have lJ:Bk W5 wc.heap.size 186 nd.cells:=(by rw[qK];exact Bk.new wc _ _);obtain⟨Y,uG⟩:∃Y,Y=wc.heap.size:=⟨_,rfl⟩;rw[<-uG]at lJ;have h5:=(uh hH).1.below (by omega) (uh hH).2 bV;have y0:=lJ.cell 0 rfl;have y4:=lJ.cell 4 rfl;have QD:=lJ.lt;have hYn:∀q∈cL S (.slice (some ⟨hB,0,none⟩) nds.length nds.length) (.slice (some ⟨kB,0,none⟩) nds.length nds.length) (.slice (some ⟨wB,0,none⟩) nds.length nds.length) (replicate nds.length aH) WV',q≠Y:=λq hq e=>by have:=(uh hH).1.lt (uh hH).2 q hq;omega
    have H5:=ab (zq2 h5 (uh hH).2);have D7:=ab gy;have HHS:=ab hhs;have HLS:=ab hls;have HYN:=ab hYn;clear bV lJ h5 gy hhs hls dV hYn hH;go_upto_region 11 with fail;rw[<-qK,<-uG];clear qK uG x0 x1 x2 x3 x4 x5 hqc;by_cases EW:nd.op=10
    .have d0:((nd.op:Int)==(10:Int))=true:=(by simp[EW]);by_cases hb:nd.nx<k
     .have d1:decide ((nd.nx:Int)<(k:Int))=true:=(by simp;omega);have d1':decide (nd.nx<k)=true:=(by simpa using hb);have vn:gU nds k=true:=(by rw[uh D7];simp[EW,hb]);have bO:=(uh H5).1.bs.cell 1 rfl;have hhl:=(uh H5).1.hl;have hcA:=(uh H5).1.hr.cellAt nd.nx (by omega);rw[eG (by omega)]at hcA;have hzA:=(uh H5).1.hr.frozenAt nd.nx;have h6:=(uh H5).1.head (by omega) (n:=nd.nx) (hB:=hB) (hC:=nds.length) rfl;have H6:=ab h6;have HBT:=ab vn;have m1:(0:Int)<=(nd.nx:Int):=(by omega);have m2:(nd.nx:Int)<(nds.length:Int):=(by omega);clear h6 vn hhl EW hb;go_upto_region 12 with fail;go_cut [] (λwx=>Hid (pM w wx S (.pointer (some ⟨Q,0,none⟩)) (.slice (some ⟨hB,0,none⟩) nds.length nds.length) (.slice (some ⟨kB,0,none⟩) nds.length nds.length) (.slice (some ⟨wB,0,none⟩) nds.length nds.length) WV' (MQ nds k) ((Hz nds k).set nd.nx true) (!sb) nds.length (k+1)))
      case first =>
       go_region
       all_goals
        go_wp2_with fail
        go_meet
        exact ab ((uh H6).of_eq (by omega) (λq _=>rfl) ⟨(uh H6).bl.os,(uh H6).bl.tape,(uh H6).bl.output,(uh H6).bl.size,(uh H6).bl.block⟩)
      case rest =>
       clear H6 y0 y4 bO hcA hzA;have s2:=(uh hcut).bs.cell 2 rfl;have s2z:=(uh hcut).bs.frz 2;have HN:Hid (pM w (wc.setCell ⟨S,2,none⟩ (.bool true)) S (.pointer (some ⟨Q,0,none⟩)) (.slice (some ⟨hB,0,none⟩) nds.length nds.length) (.slice (some ⟨kB,0,none⟩) nds.length nds.length) (.slice (some ⟨wB,0,none⟩) nds.length nds.length) WV' (MQ nds (k+1)) (Hz nds (k+1)) (!sb) nds.length (k+1)/\∀j,k+1<=j->WV'.getD j aH=aH):=ab (by
        rw[uh HLS,uh HHS,uh HBT,if_pos rfl,Bool.or_true];exact⟨(uh hcut).loop (by omega),(uh H5).2⟩)
       clear hcut;go_wp2_with fail
       go_roundg (G1-1)
       case rel=>exact⟨k+1,_,by omega,by go_num,HN⟩
       case measure=>omega
     .have d1:decide ((nd.nx:Int)<(k:Int))=false:=(by simp;omega);have d1':decide (nd.nx<k)=false:=(by simpa using hb);have vn:gU nds k=false:=(by rw[uh D7];simp[hb]);have HN:Hid (pM w W5 S (.pointer (some ⟨Q,0,none⟩)) (.slice (some ⟨hB,0,none⟩) nds.length nds.length) (.slice (some ⟨kB,0,none⟩) nds.length nds.length) (.slice (some ⟨wB,0,none⟩) nds.length nds.length) WV' (MQ nds (k+1)) (Hz nds (k+1)) (!sb) nds.length (k+1)/\∀j,k+1<=j->WV'.getD j aH=aH):=ab (by
       rw[uh HLS,uh HHS,vn,if_neg (by decide),Bool.or_false];exact uh H5)
      clear vn EW hb;go_wp2_with fail
      go_roundg (G1-1)
      case rel=>exact⟨k+1,_,by omega,by go_num,HN⟩
      case measure=>omega
    .have d0:((nd.op:Int)==(10:Int))=false:=(by simp;omega);have vn:gU nds k=false:=(by rw[uh D7];simp[EW]);have HN:Hid (pM w W5 S (.pointer (some ⟨Q,0,none⟩)) (.slice (some ⟨hB,0,none⟩) nds.length nds.length) (.slice (some ⟨kB,0,none⟩) nds.length nds.length) (.slice (some ⟨wB,0,none⟩) nds.length nds.length) WV' (MQ nds (k+1)) (Hz nds (k+1)) (!sb) nds.length (k+1)/\∀j,k+1<=j->WV'.getD j aH=aH):=ab (by
      rw[uh HLS,uh HHS,vn,if_neg (by decide),Bool.or_false];exact uh H5)
     clear vn EW;go_wp2_with fail
     go_roundg (G1-1)
     case rel=>exact⟨k+1,_,by omega,by go_num,HN⟩
     case measure=>omega
  .have hd:decide ((k:Int)<(nds.length:Int))=false:=(by simp;omega);have jz:k=nds.length:=(by omega);have HP:Hid (dP S wr):=ab (by
    rw[uh fD];obtain⟨h1,h2⟩:=uh hI;rw[jz,uh HSB]at h1;exact⟨_,_,_,WV,h1.sh,h1.bl,h1.ge⟩)
   clear jz hI;go_wp2_with fail
   go_ret;exact⟨S,rfl,uh HP⟩
end
theorem ED:∀(l:List Pr) (seen:List Nat),vi seen l=false->(l.map (·.l)).Nodup/\∀p∈l,p.l ∉ seen
 |[],_,_=>⟨nodup_nil,λp hp=>by simp at hp⟩
 |p::l,seen,h=>by
  unfold vi at h;split at h
  .cases h
  .rename_i hn;obtain⟨h1,h2⟩:=ED l _ h;refine⟨?_,λq hq=>?_⟩
   .rw[map_cons,nodup_cons];refine⟨λhm=>?_,h1⟩;obtain⟨q,hq,e⟩:=mem_map.1 hm;exact h2 q hq (by rw[e];exact mem_cons_self)
   .rcases mem_cons.1 hq with rfl|hq
    .exact hn
    .exact λhm=>h2 q hq (mem_cons_of_mem _ hm)
theorem sL{al:List cf}(ht:vf al)(hf:kz (ej al)=false):au (ej al):=by
 have hl:=yN ht;have fY:(ej al).cl.length=5:=by show((mA al).take 5).length=5;rw[length_take];omega
 refine au.mk' fY (λc hc=>?_) (λp hp=>?_) (λp hp=>?_) ?_ (λp hp=>?_)
 .obtain⟨i,hi,rfl⟩:=mem_iff_getElem.1 hc;have h5:i<5:=by omega
  have h1:=EA (al:=al) h5;rw[bC hi]at h1;rw[h1];have:=yO ht (i:=i) (by omega);omega
 .obtain⟨a,ha,rfl⟩:=mem_map.1 hp;exact yX ht (mem_filter.1 ha).1
 .obtain⟨a,ha,rfl⟩:=mem_map.1 hp;exact yX ht (mem_filter.1 ha).1
 .unfold kz at hf;rw[Bool.or_eq_false_iff]at hf;exact(ED _ _ hf.2).1
 .obtain⟨a,ha,rfl⟩:=mem_map.1 hp;have h1:=(mem_filter.1 ha).2;have h2:a.k=2:=by simpa using h1
  exact h2
theorem oC{f:CF}(h:au f)(nv:Nat):au (Af f nv):=by
 refine au.mk' (by simp[Af]) (λc hc=>?_) h.ow h.ap h.lf h.kd;obtain⟨i,-,rfl⟩:=mem_map.1 hc;split <;> exact h.get _
def zz(f:CF)(nv k:Nat):List Nat:=(range 5).map (λi=>if nv<i/\i<k then f.cl.getD 0 0 else f.cl.getD i 0)
theorem gw(f:CF)(nv k:Nat):(zz f nv k).length=5:=by simp[zz]
theorem rJ{f:CF}{nv k i:Nat}(hi:i<5):(zz f nv k).getD i 0=if nv<i/\i<k then f.cl.getD 0 0 else f.cl.getD i 0:=by unfold zz;simp[hi]
theorem GX{f:CF}(h5:f.cl.length=5)(nv:Nat):zz f nv (1+nv)=f.cl:=by
 apply ext_getElem?;intro i;by_cases hi:i<5
 .have h1:=rJ (f:=f) (nv:=nv) (k:=1+nv) hi;rw[if_neg (by omega)]at h1;rw[bC (by rw[gw];exact hi),bC (by omega)]at h1;rw[getElem?_eq_getElem (by rw[gw];exact hi),getElem?_eq_getElem (by omega),h1]
 .rw[getElem?_eq_none (by rw[gw];omega),getElem?_eq_none (by omega)]
theorem Kx{f:CF}{nv k:Nat}(h1:nv<k)(hk:k<5):(zz f nv k).set k (f.cl.getD 0 0)=zz f nv (k+1):=by
 apply ext_getElem?;intro i;by_cases hi:i<5
 .have g1:=rJ (f:=f) (nv:=nv) (k:=k+1) hi;rw[bC (by rw[gw];exact hi)]at g1;rw[getElem?_eq_getElem (l:=zz f nv (k+1)) (by rw[gw];exact hi),g1];by_cases e:k=i
  .subst e;rw[getElem?_set_self (by rw[gw];exact hi),if_pos (by omega)]
  .have g2:=rJ (f:=f) (nv:=nv) (k:=k) hi;rw[bC (by rw[gw];exact hi)]at g2;rw[getElem?_set_ne e,getElem?_eq_getElem (by rw[gw];exact hi),g2];congr 1;by_cases c1:nv<i/\i<k
   .rw[if_pos c1,if_pos (by omega)]
   .rw[if_neg c1,if_neg (by omega)]
 .rw[getElem?_eq_none (by rw[length_set,gw];omega),getElem?_eq_none (by rw[gw];omega)]
theorem P0(f:CF)(nv:Nat):{ f with cl:=zz f nv 5 }=Af f nv:=by
 unfold Af zz;congr 1;apply map_congr_left;intro i hi;rw[mem_range]at hi;by_cases c1:nv<i
 .rw[if_pos c1,if_pos (by omega)]
 .rw[if_neg c1,if_neg (by omega)]
section
variable {w:World} {S:Nat} {c:Cd} {hv kv wv:Value} {KV WV:List Value} {K:List (List En)} {s:Sr}
theorem KC{Q:Nat}{ws:List ByteArray}{ps:PS}{al:List cf}{vv pv nvv:Value}(h:Sh w S c (.pointer (some ⟨Q,0,none⟩)) hv kv wv KV WV K s)(hC:Cp w Q ws ps al vv pv nvv)(je:c.nds=ps.nodes)(hA:YL al)(Dp:ps.vars.length<=4)(hK0:0<K.length)(vj:K.length<=100000){fuel:Nat}(bE:(fT c fuel ps.vars.length al s).ok=true):
  Calls prog 140 #[.pointer (some ⟨S,0,none⟩)] w λe w'=>e=.returned (.tuple #[])/\gf w S c (.pointer (some ⟨Q,0,none⟩)) hv kv wv KV WV K [] (fT c fuel ps.vars.length al s) w':=by
 have c0:=h.bs.cell 0 rfl;have hQ2:=hC.bk.cell 2 rfl;have iN:=h.nl;obtain⟨na,nc,Ig,-,-⟩:=aj hC.nr;subst Ig;obtain⟨va,vc,ym,-,-⟩:=aj hC.vr;subst ym;have Pt:=ab (adz hC.pr hA.tm hA.le hA.bd);have et:ps.nodes.length=K.length:=by rw[<-je];exact iN
 have H:=ab h;have HC:=ab hC;have HTM:=ab hA.tm;have afv:=ab hA.le;have kQ:=ab bE;obtain⟨V,hV⟩:∃V,V=ps.vars.length:=⟨_,rfl⟩;have Jw:Hid (fT c fuel ps.vars.length al s=if kz (ej al)=true then s else cZ c fuel (K.length-1) 0 (bR (Af (ej al) V)) s):=ab (by unfold fT;rw[iN,hV]);obtain⟨dP,df⟩:∃dP:World->Prop,dP=λw'=>gf w S c (.pointer (some ⟨Q,0,none⟩)) hv kv wv KV WV K [] (fT c fuel ps.vars.length al s) w':=⟨_,rfl⟩;have fD:=ab df;rw[show(fun(e:Ending) (w':World)=>e=.returned (.tuple #[])/\gf w S c (.pointer (some ⟨Q,0,none⟩)) hv kv wv KV WV K [] (fT c fuel ps.vars.length al s) w')=(λe w'=>e=.returned (.tuple #[])/\dP w') by rw[df]];clear h hC je hA bE df iN;go_enter func140,ntmps140;go_wp2_with fail
 refine(uh Pt).mono ?_;rintro e w1 ⟨A,fav,fov,rfl,hF,cq,bB,dV⟩;have hrm:=aaV (uh HTM);have I7:(ej al).cl.getD 0 0<24:=by
  have h1:=yO (uh HTM) (i:=0) (by omega);rw[EA (by omega)];omega
 have Cr:=ab (G0 hF hrm I7);have H1:=ab (zq2 hF (zq2 cq (zq2 bB dV)));clear hF cq bB dV hrm I7 Pt c0 hQ2;cases qh:kz (ej al)
 .rw[qh]at Cr;have LH:=sL (uh HTM) qh;have GH:Hid (fT c fuel ps.vars.length al s=cZ c fuel (K.length-1) 0 (bR (Af (ej al) V)) s):=ab (by rw[uh Jw,qh,if_neg (by decide)]);obtain⟨f,hf⟩:∃f,f=ej al:=⟨_,rfl⟩;rw[<-hf]at LH GH H1;have Uu:Hid (f.ap.length<=100000):=ab (by
   have h3:f.ap.length<=al.length:=by
    rw[hf];show((al.filter _).map _).length<=_;rw[length_map];exact length_filter_le _ _
   have h4:=uh afv;omega)
  have UA:=ab LH;clear qh Jw hf LH;go_wp2_with fail
  refine(uh Cr).mono ?_;rintro e w2 ⟨rfl,aR⟩;obtain⟨hF,cq,bB,dV⟩:=uh H1;have xX:=bB.trans (aR.mono bB.size);have oj:Fm w2 A f fav fov:=⟨hF.below aR,dV,(uh UA).c5⟩;have H2:=ab (zq2 xX (zq2 oj cq));have uJ:=(uh HC).below xX;have dF:=(uh H).below xX;have e0:=dF.bs.cell 0 rfl;have q1:=uJ.bk.cell 1 rfl;rw[<-hV]at q1 Dp;have cd:Hid (Fm w2 A { f with cl:=zz f V (1+V) } fav fov/\Below w.heap.size w w2):=ab ⟨by rw[GX (uh UA).c5];exact oj,xX⟩;clear hF cq bB dV xX oj uJ dF aR Cr;go_wp2_with fail
  go_loopg [3] (4-V) (λgn iv wx=>∃(k:Nat),k+gn=5/\1+V<=k/\iv=.int .i64 k/\Hid (Fm wx A { f with cl:=zz f V k } fav fov/\Below w.heap.size w wx))
  case atStart=>exact⟨1+V,by omega,by omega,by go_num,cd⟩
  case round =>
   clear cd e0 q1;obtain⟨k,f7,hkV,rfl,hI⟩:=hrel;obtain⟨G1,uF⟩:∃G1,G1=gk:=⟨_,rfl⟩;by_cases ar:k<5
   .have hd:decide ((k:Int)<(5:Int))=true:=(by simp;omega);have hF:=(uh hI).1;have x0:=hF.is.cls (i:=0) (by omega);have e00:({ f with cl:=zz f V k }:CF).cl.getD 0 0=f.cl.getD 0 0:=by
     show(zz f V k).getD 0 0=_;rw[rJ (by omega),if_neg (by omega)]
    unfold fX at x0;rw[e00]at x0;have xk:=hF.is.cls (i:=k) ar;have xz:=ownsRow.frozenAt hF.is.ob k;have h3:=hF.setCl k (f.cl.getD 0 0) ar;have e1:({ ({ f with cl:=zz f V k }:CF) with cl:=({ f with cl:=zz f V k }:CF).cl.set k (f.cl.getD 0 0) }:CF)={ f with cl:=zz f V (k+1) }:=by
     show({ f with cl:=(zz f V k).set k (f.cl.getD 0 0) }:CF)=_;rw[Kx (by omega) ar]
    rw[e1]at h3;have hAw:w.heap.size<=A:=(uh H2).2.2 A (by simp[aG]);obtain⟨cz,hcz⟩:∃cz,cz=f.cl.getD 0 0:=⟨_,rfl⟩;rw[<-hcz]at x0 h3;have HN:=ab (zq2 h3 ((uh hI).2.setCell (p:=⟨A,k,none⟩) hAw (.int .i64 (cz:Int))));have k1:(0:Int)<=(k:Int):=(by omega);have k2:(k:Int)<5:=(by omega);clear hF e00 h3 e1 hcz hI;go_upto_region 5 with fail;go_region
    all_goals
     go_wp2_with fail
     go_roundg (G1-1)
     case rel=>exact⟨k+1,by omega,by omega,by go_num,ab ⟨(uh HN).1.of_eq (λ_ _=>rfl),⟨(uh HN).2.os,(uh HN).2.tape,(uh HN).2.output,(uh HN).2.size,(uh HN).2.block⟩⟩⟩
     case measure=>omega
   .have hd:decide ((k:Int)<(5:Int))=false:=(by simp;omega);have Dd:k=5:=(by omega);obtain⟨hF,hb⟩:=uh hI;rw[Dd,P0]at hF;have Zt:=oC (uh UA) V;have Eg:=ab (j6 hF Zt (uh Uu));have HI:=ab hb;have Z9:=ab Zt;clear hF hb Zt hI Dd;go_wp2_with fail
    refine(uh Eg).mono ?_;rintro e w4 ⟨rfl,av4,ov4,qf,el⟩;have cq:=(uh H2).2.2;have Jg:gb w w4 (cL S hv kv wv KV WV) (cL S hv kv wv KV WV) (dK K) (dK K) []:=(gb.below (X:=[]) (uh HI)).trans (gb.stp (X:=aG A fav fov) el (λq hq=>zq1 hq)) (λq hq=>zq1 (cq q hq));have gE:∀q,q<w.heap.size->w4.heap[q]?=w.heap[q]?:=λq hq=>(el.block q (zq6 hq (uh HI).size) (λe=>by have:=cq q e;omega)).trans ((uh HI).block q hq);have tu:=(uh H).of_eq (λq hq=>gE q ((uh H).lt q hq)) (λq hq=>gE q ((uh H).drlt q hq));have TE:=(uh HC).of_eq (λq hq=>gE q ((uh HC).lt q hq));have e0:=tu.bs.cell 0 rfl;have q3:=TE.bk.cell 3 rfl;rw[et]at q3;have QL:∀q∈aG A av4 ov4,w.heap.size<=q:=λq hq=>by
     rcases el.foot q hq with p|p
     .exact cq q p
     .exact zq3 (uh HI).size p
    have acM:(cZ c fuel (K.length-1) 0 (bR (Af f V)) s).ok=true:=(by rw[<-uh GH];exact uh kQ);obtain⟨m,hm⟩:∃m,m=K.length-1:=⟨_,rfl⟩;have Ph:=ab (pU (x:=⟨A,bR (Af f V),av4,ov4⟩) tu qf (uh Z9).tidy (λq hq=>⟨λe=>by have:=(uh H).lt q e;have:=QL q hq;omega,λe=>by have:=(uh H).drlt q e;have:=QL q hq;omega⟩) (a:=K.length-1) (n:=0) (by omega) hK0 vj acM);have HG4:=ab (zq2 Jg QL);rw[<-hm]at Ph GH;have hqm:IntKind.i64.wrap ((K.length:Int)-1)=(m:Int):=(by rw[IntKind.wrap_i64];omega);clear qf el Jg gE tu TE QL acM hm Eg cq;go_wp2_with fail
    refine(uh Ph).mono ?_;rintro e w5 ⟨rfl,KV',K',p1,p2,p3⟩;have HP:Hid (dP w5):=ab (by
     rw[uh fD,uh GH];exact⟨KV',K',p1,p2,(uh HG4).1.trans p3 (λq hq=>zq1 ((uh HG4).2 q hq))⟩)
    clear p1 p2 p3 Ph;go_wp2_with fail
    go_end0
    exact⟨rfl,uh HP⟩
 .rw[qh]at Cr;have GH:Hid (fT c fuel ps.vars.length al s=s):=ab (by rw[uh Jw,qh,if_pos rfl]);clear qh Jw;go_wp2_with fail
  refine(uh Cr).mono ?_;rintro e w2 ⟨rfl,aR⟩;have HP:Hid (dP w2):=ab (by
   rw[uh fD,uh GH];have xX:=(uh H1).2.2.1.trans (aR.mono (uh H1).2.2.1.size);exact⟨KV,K,(uh H).below xX,rfl,gb.below xX⟩)
  clear aR Cr;go_wp2_with fail
  refine bodyPost_ret (results_none rfl _ _ _) rfl ?_;exact⟨rfl,uh HP⟩
end
theorem infoAl:(prog.info? 82).map (λi=>(i.zero,i.size,i.bytes))=some (some (.agg #[.int .i64 0,.int .i64 0]),2,16):=by kernel_rfl
theorem infoFs:(prog.info? 125).map (λi=>(i.zero,i.size,i.bytes))=some (some (.slice none 0 0),1,24):=by kernel_rfl
def vP(l:List (Nat × Nat)):List Value:=l.flatMap (λp=>[.int .i64 (p.1:Int),.int .i64 (p.2:Int)])
theorem El(l m:List (Nat × Nat)):vP (l++m)=vP l++vP m:=by unfold vP;rw[flatMap_append]
def rt(RB:Nat)(av kv:Value)(FV:List Value):List (Option Nat):=some RB::av.ownBlock::kv.ownBlock::FV.map Value.ownBlock
structure Rz(w W:World)(RB vd:Nat)(av kv:Value)(al:List (Nat × Nat))(FV:List Value)(L:List (List FE)):Prop where
 bk:Bk W RB 118 [.int .i64 (vd:Int),av,kv]
 al:W.ownsRow 0 82 2 av al.length (vP al)
 kr:W.ownsRow 0 125 1 kv L.length FV
 ke:∀i,i<L.length->W.ownsRow 0 126 1 (FV.getD i aH) (L.getD i []).length ((L.getD i []).map FE.p)
 ap:YM (rt RB av kv FV)
 ge:∀k∈Qh (rt RB av kv FV),w.heap.size<=k
 bl:Below w.heap.size w W
section
variable {w W W' W1:World} {RB vd:Nat} {av kv:Value} {al:List (Nat × Nat)} {FV:List Value} {L:List (List FE)}
theorem DO{i:Nat}(hi:i<FV.length):(rt RB av kv FV)[3+i]?=some (FV.getD i aH).ownBlock:=by
 unfold rt;rw[show 3+i=i+1+1+1 by omega];simp only[getElem?_cons_succ];simp[hi]
theorem wZ{i k:Nat}(h:(rt RB av kv FV)[i]?=some (some k)):i=0/\k=RB\/i=1/\av.ownBlock=some k\/i=2/\kv.ownBlock=some k\/∃j,j<FV.length/\i=3+j/\(FV.getD j aH).ownBlock=some k:=by
 unfold rt at h;match i with
 |0=>left;simpa[eq_comm] using h
 |1=>right;left;simpa using h
 |2=>right;right;left;simpa using h
 |i+3 =>
  right;right;right;simp only[getElem?_cons_succ]at h;have hl:i<FV.length:=by
   have:=(List.getElem?_eq_some_iff.1 h).1;simpa using this
  exact⟨i,hl,by omega,by simpa[hl] using h⟩
theorem Rz.fl(h:Rz w W RB vd av kv al FV L):FV.length=L.length:=by have:=h.kr.1;omega
theorem Rz.lt(h:Rz w W RB vd av kv al FV L):∀k∈Qh (rt RB av kv FV),k<W.heap.size:=by
 intro k hk;obtain⟨i,hi⟩:=aU.1 hk;rcases wZ hi with⟨-,rfl⟩|⟨-,e⟩|⟨-,e⟩|⟨j,hj,-,e⟩
 .exact h.bk.lt
 .exact(h.al.lt k e).2
 .exact(h.kr.lt k e).2
 .exact((h.ke j (by rw[<-h.fl];exact hj)).lt k e).2
theorem Rz.of_eq(h:Rz w W RB vd av kv al FV L)(he:∀k∈Qh (rt RB av kv FV),W'.heap[k]?=W.heap[k]?)(hb:Below w.heap.size w W'):Rz w W' RB vd av kv al FV L:=by
 have hf:=h.fl;exact⟨h.bk.of_eq (he RB (aU.2 ⟨0,rfl⟩)),ae h.al (λk hk=>he k (aU.2 ⟨1,congrArg some hk⟩)),ae h.kr (λk hk=>he k (aU.2 ⟨2,congrArg some hk⟩)),λi hi=>ae (h.ke i hi) (λk hk=>he k (aU.2 ⟨_,(DO (by omega)).trans (congrArg some hk)⟩)),h.ap,h.ge,hb⟩
theorem Rz.below(h:Rz w W RB vd av kv al FV L)(hb:Below W.heap.size W W'):Rz w W' RB vd av kv al FV L:=h.of_eq (λk hk=>hb.block k (h.lt k hk)) (h.bl.trans (hb.mono h.bl.size))
theorem Rz.verd(h:Rz w W RB vd av kv al FV L):Rz w (W.setCell ⟨RB,0,none⟩ (.int .i64 1)) RB 1 av kv al FV L:=by
 have hf:=h.fl;have aY:∀p k,p≠0->(rt RB av kv FV)[p]?=some (some k)->(W.setCell ⟨RB,0,none⟩ (.int .i64 1)).heap[k]?=W.heap[k]?:=λp k hp hk=>heap_setCell _ _ _ _ (λe=>hp (h.ap p 0 k hk (by rw[show k=RB from e];rfl)));exact⟨h.bk.set 0 (.int .i64 1),ae h.al (λk hk=>aY 1 k (by omega) (congrArg some hk)),ae h.kr (λk hk=>aY 2 k (by omega) (congrArg some hk)),λi hi=>ae (h.ke i hi) (λk hk=>aY _ k (by omega) ((DO (by omega)).trans (congrArg some hk))),h.ap,h.ge,h.bl.setCell (p:=⟨RB,0,none⟩) (h.ge RB (aU.2 ⟨0,rfl⟩)) _⟩
theorem Rz.alarm(h:Rz w W RB vd av kv al FV L){p:Nat × Nat}{g c:Nat}(aO:W1.ownsRow 0 82 2 (.slice (some ⟨g,0,none⟩) (al.length+1) c) (al.length+1) (vP al++[.int .i64 (p.1:Int),.int .i64 (p.2:Int)]))(hg:W.grownBy W1 av.ownBlock)(b7:some g=av.ownBlock\/g=W.heap.size):
  Rz w (W1.setCell ⟨RB,1,none⟩ (.slice (some ⟨g,0,none⟩) (al.length+1) c)) RB vd (.slice (some ⟨g,0,none⟩) (al.length+1) c) kv (al++[p]) FV L/\Bk W1 RB 118 [.int .i64 (vd:Int),av,kv]:=by
 have hf:=h.fl;have rm:∀q k,q≠1->(rt RB av kv FV)[q]?=some (some k)->W1.heap[k]?=W.heap[k]?:=λq k hq hk=>hg.block k (h.lt k (aU.2 ⟨q,hk⟩)) (λe=>hq (h.ap q 1 k hk (congrArg some e.symm)));have hgR:g≠RB:=λe=>by
  rcases b7 with q|q
  .have:=h.ap 1 0 RB (by rw[<-e];exact congrArg some q.symm) rfl;omega
  .have:=h.bk.lt;omega
 have aY:∀q k,q≠0->q≠1->(rt RB av kv FV)[q]?=some (some k)->(W1.setCell ⟨RB,1,none⟩ (.slice (some ⟨g,0,none⟩) (al.length+1) c)).heap[k]?=W.heap[k]?:=λq k h0 h1 hk=>(heap_setCell _ _ _ _ (λe=>h0 (h.ap q 0 k hk (by rw[show k=RB from e];rfl)))).trans (rm q k h1 hk);have gy:=h.bk.of_eq (rm 0 RB (by omega) rfl);have cW:rt RB (.slice (some ⟨g,0,none⟩) (al.length+1) c) kv FV=(rt RB av kv FV).set 1 (some g):=rfl;refine⟨⟨gy.set 1 _,?_,ae h.kr (λk hk=>aY 2 k (by omega) (by omega) (congrArg some hk)),λi hi=>ae (h.ke i hi) (λk hk=>aY _ k (by omega) (by omega) ((DO (by omega)).trans (congrArg some hk))),?_,λk hk=>?_,?_⟩,gy⟩
 .rw[length_append,length_singleton,El];exact ca aO (p:=⟨RB,1,none⟩) (by show some g≠some RB;intro e;injection e with e;exact hgR e) _
 .rw[cW];refine h.ap.set 1 (λk hk=>?_);injection hk with hk;subst hk;rcases b7 with q|q
  .exact zq0 (congrArg some q.symm)
  .exact zq1 (λj hj=>by have:=h.lt g (aU.2 ⟨j,hj⟩);omega)
 .obtain⟨i,hi⟩:=aU.1 hk;rw[cW,getElem?_set]at hi;split at hi
  .split at hi
   .simp only[Option.some.injEq]at hi;subst hi;rcases b7 with q|q
    .exact h.ge g (aU.2 ⟨1,congrArg some q.symm⟩)
    .have:=h.bl.size;omega
   .simp at hi
  .exact h.ge k (aU.2 ⟨i,hi⟩)
 .refine(h.bl.grown hg h.bl.size (λk hk=>h.ge k (aU.2 ⟨1,congrArg some hk⟩))).setCell (p:=⟨RB,1,none⟩) (h.ge RB (aU.2 ⟨0,rfl⟩)) _
theorem Rz.know{n kB kC:Nat}{x:FE}(h:Rz w W RB vd av kv al FV L)(hn:n<L.length)(O2:kv=.slice (some ⟨kB,0,none⟩) L.length kC){g c:Nat}(aO:W1.ownsRow 0 126 1 (.slice (some ⟨g,0,none⟩) ((L.getD n []).length+1) c) ((L.getD n []).length+1) ((L.getD n []).map FE.p++[x.p]))(hg:W.grownBy W1 (FV.getD n aH).ownBlock)(b7:some g=(FV.getD n aH).ownBlock\/g=W.heap.size):
  Rz w (W1.setCell ⟨kB,n,none⟩ (.slice (some ⟨g,0,none⟩) ((L.getD n []).length+1) c)) RB vd av kv al (FV.set n (.slice (some ⟨g,0,none⟩) ((L.getD n []).length+1) c)) (L.set n (L.getD n []++[x]))/\W1.ownsRow 0 125 1 kv L.length FV/\Bk W1 RB 118 [.int .i64 (vd:Int),av,kv]:=by
 have hf:=h.fl;obtain⟨v,hv⟩:∃v,v=Value.slice (some ⟨g,0,none⟩) ((L.getD n []).length+1) c:=⟨_,rfl⟩;have QY:v.ownBlock=some g:=by rw[hv];rfl
 rw[<-hv]at aO ⊢;have ll:(rt RB av kv FV)[2]?=some (some kB):=by rw[O2];rfl
 have f7:(rt RB av kv FV)[3+n]?=some (FV.getD n aH).ownBlock:=DO (by omega);have rm:∀q k,q≠3+n->(rt RB av kv FV)[q]?=some (some k)->W1.heap[k]?=W.heap[k]?:=λq k hq hk=>hg.block k (h.lt k (aU.2 ⟨q,hk⟩)) (λe=>hq (h.ap q (3+n) k hk (f7.trans (congrArg some e.symm))));have Zv:g≠kB:=λe=>by
  rcases b7 with q|q
  .have:=h.ap (3+n) 2 kB (by rw[f7,<-q,e]) ll;omega
  .have:=h.lt kB (aU.2 ⟨2,ll⟩);omega
 have aY:∀q k,q≠2->q≠3+n->(rt RB av kv FV)[q]?=some (some k)->(W1.setCell ⟨kB,n,none⟩ v).heap[k]?=W.heap[k]?:=λq k h0 h1 hk=>(heap_setCell _ _ _ _ (λe=>h0 (h.ap q 2 k hk (by rw[show k=kB from e];exact ll)))).trans (rm q k h1 hk);have hkr:W1.ownsRow 0 125 1 kv L.length FV:=ae h.kr (λk hk=>rm 2 k (by omega) (congrArg some hk));have cW:rt RB av kv (FV.set n v)=(rt RB av kv FV).set (3+n) (some g):=by
  unfold rt;rw[show 3+n=n+1+1+1 by omega];simp only[set_cons_succ];rw[map_set,QY]
 have hLs:(L.set n (L.getD n []++[x])).length=L.length:=length_set;refine⟨⟨h.bk.of_eq (aY 0 RB (by omega) (by omega) rfl),ae h.al (λk hk=>aY 1 k (by omega) (by omega) (congrArg some hk)),?_,λi hi=>?_,?_,λk hk=>?_,?_⟩,hkr,h.bk.of_eq (rm 0 RB (by omega) rfl)⟩
 .rw[hLs];rw[O2]at hkr ⊢;exact(hkr.stored n v).1
 .rw[hLs]at hi;by_cases e:i=n
  .subst e;have e1:(FV.set i v).getD i aH=v:=(by rw[getD_eq_getElem?_getD,getElem?_set_self (by omega)];rfl);have e2:(L.set i (L.getD i []++[x])).getD i []=L.getD i []++[x]:=(by rw[getD_eq_getElem?_getD,getElem?_set_self (by omega)];rfl);rw[e1,e2,length_append,length_singleton,map_append];exact ca aO (p:=⟨kB,i,none⟩) (by rw[QY];intro e;injection e with e;exact Zv e) _
  .have e1:(FV.set n v).getD i aH=FV.getD i aH:=(by rw[getD_eq_getElem?_getD,getElem?_set_ne (λe'=>e e'.symm),<-getD_eq_getElem?_getD]);have e2:(L.set n (L.getD n []++[x])).getD i []=L.getD i []:=(by rw[getD_eq_getElem?_getD,getElem?_set_ne (λe'=>e e'.symm),<-getD_eq_getElem?_getD]);rw[e1,e2];exact ae (h.ke i hi) (λk hk=>aY _ k (by omega) (by omega) ((DO (by omega)).trans (congrArg some hk)))
 .rw[cW];refine h.ap.set _ (λk hk=>?_);injection hk with hk;subst hk;rcases b7 with q|q
  .exact zq0 (by rw[f7,<-q])
  .exact zq1 (λj hj=>by have:=h.lt g (aU.2 ⟨j,hj⟩);omega)
 .obtain⟨i,hi⟩:=aU.1 hk;rw[cW,getElem?_set]at hi;split at hi
  .split at hi
   .simp only[Option.some.injEq]at hi;subst hi;rcases b7 with q|q
    .exact h.ge g (aU.2 ⟨3+n,by rw[f7,<-q]⟩)
    .have:=h.bl.size;omega
   .simp at hi
  .exact h.ge k (aU.2 ⟨i,hi⟩)
 .exact(h.bl.grown hg h.bl.size (λk hk=>h.ge k (aU.2 ⟨3+n,f7.trans (congrArg some hk)⟩))).setCell (p:=⟨kB,n,none⟩) (h.ge kB (aU.2 ⟨2,ll⟩)) _
end
def alN(wr:List (List Bool))(n:Nat):List (Nat × Nat):=([2,3,4].filter (λk=>(wr.getD n []).getD k false)).map (λk=>(n,k))
def mj(wr:List (List Bool))(k:Nat):List (Nat × Nat):=(range k).flatMap (alN wr)
theorem zR(wr:List (List Bool))(k:Nat):mj wr (k+1)=mj wr k++alN wr k:=by unfold mj;rw[range_succ,flatMap_append];simp
theorem Em(wr:List (List Bool)):mj wr wr.length=U5 wr:=rfl
def vQ(wr:List (List Bool))(n t:Nat):List (Nat × Nat):=([2,3,4].filter (λk=>decide (k<t)&&(wr.getD n []).getD k false)).map (λk=>(n,k))
theorem JL(wr:List (List Bool))(n:Nat){t:Nat}(h2:2<=t)(h5:t<5):vQ wr n (t+1)=vQ wr n t++if (wr.getD n []).getD t false=true then [(n,t)] else []:=by
 have:t=2\/t=3\/t=4:=by omega
 unfold vQ;cases b2:(wr.getD n []).getD 2 false <;> cases b3:(wr.getD n []).getD 3 false <;> cases b4:(wr.getD n []).getD 4 false <;> rcases this with rfl|rfl|rfl <;> simp only[filter_cons,b2,b3,b4,filter_nil] <;> rfl
theorem PG(wr:List (List Bool))(n:Nat):vQ wr n 2=[]:=by unfold vQ;simp
theorem zS(wr:List (List Bool))(n:Nat):vQ wr n 5=alN wr n:=by
 unfold vQ alN;congr 1
theorem Eo(wr:List (List Bool))(n t:Nat):(vQ wr n t).length<=3:=by
 unfold vQ;rw[length_map];exact zq3 (length_filter_le _ _) (by simp)
theorem xD(wr:List (List Bool)):∀k,(mj wr k).length<=3*k
 |0=>by simp[mj]
 |k+1=>by
  rw[zR,length_append,<-zS];have h1:=xD wr k;have h2:=Eo wr k 5;omega
def Cl(al:List (Nat × Nat)):Nat:=if al=[] then 0 else 1
