import Derived.Test.YtciihepbeacppaaGreatM24
set_option maxRecDepth 100000
set_option maxHeartbeats 0
namespace Go.Proofs.YtciihepbeacppaaGreat
open Tryz Go.RowKit List World Below
set_option linter.unusedVariables false
structure Pn(W:World)(v:Value)(L:List FE)(j:Nat)(F D:List Nat):Prop where
 pe:fh W 0 v L j
 td:∀x∈L,Td x.f
 fd:∀k∈lU v L j,k ∉ F/\k ∉ D
theorem Pn.next{W W':World}{v:Value}{L:List FE}{j:Nat}{F F' D D':List Nat}(h:Pn W v L j F D)(hj:j<L.length)(hg:gb W W' F F' D D' L[j].bs):Pn W' v L (j+1) F' D':=by
 obtain⟨-,-,h3,h4,-⟩:=h.pe.next hj;refine⟨h3.stp hg.st (λk hk hn=>?_),h.td,λk hk=>⟨λhn=>?_,λhn=>?_⟩⟩
 .rcases mem_append.1 hn with p|p
  .exact(h.fd k (h4 k hk).1).1 p
  .exact(h4 k hk).2 p
 .rcases hg.st.foot k hn with p|p
  .rcases mem_append.1 p with p|p
   .exact(h.fd k (h4 k hk).1).1 p
   .exact(h4 k hk).2 p
  .have:=h3.lt k hk;omega
 .rcases hg.dr k hn with p|p|p
  .exact(h.fd k (h4 k hk).1).2 p
  .exact(h4 k hk).2 p
  .have:=h3.lt k hk;omega
section
variable {w w':World} {S:Nat} {c:Cd} {c0 hv kv wv:Value} {KV WV:List Value} {K:List (List En)} {s:Sr} {x:FE}
theorem Sh.wc(h:Sh w S c c0 hv kv wv KV WV K s){n:Nat}(hn:n<K.length):∃g cap g2 cap2,wv=.slice (some ⟨g,0,none⟩) K.length cap/\WV.getD n aF=.slice (some ⟨g2,0,none⟩) 5 cap2/\w.cell? ⟨g,n,none⟩=some (.slice (some ⟨g2,0,none⟩) 5 cap2)/\(∀t,t<5->w.cell? ⟨g2,t,none⟩=some (.bool ((s.wr.getD n []).getD t false)))/\∀t,w.frozen? ⟨g2,t,none⟩=false:=by
 obtain⟨g,cap,hv,-,-,-⟩:=bM h.wr (by omega);have h2:=h.we n hn;obtain⟨g2,cap2,GS,-,-,-⟩:=bM h2 (by omega);have hwl:=h.wvl;rw[GS]at h2;refine⟨g,cap,g2,cap2,hv,GS,?_,λt ht=>?_,λt=>h2.frozenAt t⟩
 .have:=h.wr;rw[hv]at this;rw[this.cellAt n (by omega),getElem?_eq_getElem (by omega),<-bD (d:=aF) (by omega),GS]
 .rw[h2.cellAt t (by omega)];have h5:(s.wr.getD n []).length=5:=by
   have:=h2.1;unfold cS at this;rw[length_map]at this;omega
  exact eH (by omega)
theorem gf.pre{X:List Nat}{s':Sr}{w1 w2:World}(h:gf w1 S c c0 hv kv wv KV WV K X s' w2)(hb:Below w.heap.size w w1):gf w S c c0 hv kv wv KV WV K X s' w2:=by
 obtain⟨KV',K',h1,h2,h3⟩:=h;exact⟨KV',K',h1,h2,(gb.below (X:=X) hb).trans h3 (λk hk=>zq0 hk)⟩
theorem qx(h:Sh w S c c0 hv kv wv KV WV K s)(hx:Fm w x.A x.f x.av x.ov)(hT:Td x.f)(hd:∀k∈x.bs,k ∉ cI S hv kv wv KV WV/\k ∉ dK K){a n:Nat}(ha:a<K.length)(hn:n<K.length)(vX:K.length<=100000){fuel:Nat}(bf:(dG c fuel a n x.f s).ok=true):
  Calls prog 172 #[.pointer (some ⟨S,0,none⟩),.int .i64 a,.int .i64 n,.pointer (some ⟨x.A,0,none⟩)] w λe w'=>e=.returned (.tuple #[])/\gf w S c c0 hv kv wv KV WV K x.bs (dG c fuel a n x.f s) w':=by
 have c2:=h.bs.cell 2 rfl;have wH:Hid (∀w1,Below w.heap.size w w1->(bG c n x.f s).ok=true->Calls prog 201 #[.pointer (some ⟨S,0,none⟩),.int .i64 n,.pointer (some ⟨x.A,0,none⟩)] w1 λe w'=>e=.returned (.tuple #[])/\gf w S c c0 hv kv wv KV WV K x.bs (bG c n x.f s) w'):=ab (λw1 hb ho=>(OM (h.below hb) (hx.below hb) hT hd hn vX ho).mono (λe w' hp=>⟨hp.1,hp.2.pre hb⟩));cases BY:c.lp
 .have e:dG c fuel a n x.f s=bG c n x.f s:=by unfold dG;rw[if_pos (zq0 BY)]
  rw[e]at bf ⊢;rw[BY]at c2;have HL:=ab (uh wH w (Below.refl _ _) bf);clear h hx hT hd BY e wH;go_enter func172,ntmps172;go_wp2_with fail
  refine(uh HL).mono ?_;rintro e w1 ⟨rfl,hp⟩;have HP:=ab hp;clear hp HL;go_wp2_with fail
  refine bodyPost_ret (results_none rfl _ _ _) rfl ?_;exact⟨rfl,uh HP⟩
 .rw[BY]at c2;have Ae:=ab (ut hx.is hT.ok);by_cases rH:eY x.f=[]
  .have e:dG c fuel a n x.f s=bG c n x.f s:=(by unfold dG;rw[if_pos (zq1 rH)]);rw[e]at bf ⊢;have hl0:(((eY x.f).length:Int)==(0:Int))=true:=(by rw[rH];rfl);have kW:=ab bf;clear h hx hT hd BY e rH bf;go_enter func172,ntmps172;go_wp2_with fail
   refine(uh Ae).mono ?_;rintro e w1 ⟨lv,rfl,r9,a7⟩;obtain⟨la,lc,dX,-,-⟩:=aj r9;subst dX;have HL:=ab (uh wH w1 a7 (uh kW));clear r9 a7 wH Ae;go_wp2_with fail
   refine(uh HL).mono ?_;rintro e w2 ⟨rfl,hp⟩;have HP:=ab hp;clear hp HL;go_wp2_with fail
   refine bodyPost_ret (results_none rfl _ _ _) rfl ?_;exact⟨rfl,uh HP⟩
  .have hl0:(((eY x.f).length:Int)==(0:Int))=false:=by
    have:(eY x.f).length≠0:=λe=>rH (length_eq_zero_iff.1 e);simp;omega
   obtain⟨R,hR⟩:∃R,R=iF c fuel 0 [] ([x.f],kT a 2 s):=⟨_,rfl⟩;have e:dG c fuel a n x.f s=R.1.foldl (λs g=>bG c n g s) R.2:=(by unfold dG;rw[if_neg (by rw[not_or];exact⟨by rw[BY];decide,rH⟩),hR]);rw[e]at bf ⊢;have aeN:R.2.ok=true:=jT _ bf;have hRk:R.2.kn=s.kn/\R.2.wr=(kT a 2 s).wr:=by
    have h1:cG [x.f]:=λy hy=>by rw[mem_singleton]at hy;subst hy;exact hT
    obtain⟨-,g2,g3⟩:=lS (c:=c) fuel 0 (r:=([x.f],kT a 2 s)) (res:=[]) h1 (λy hy=>by simp at hy);rw[<-hR]at g2 g3;exact⟨g2,g3⟩
   have Nt:R.2.lo=s.lo:=(by rw[hR];exact MQ fuel 0 [] ([x.f],kT a 2 s));obtain⟨wB,wC,gA,cA,Cf,Tm,cw,ct,hz⟩:=h.wc ha;subst Cf;have c4:=h.bs.cell 4 rfl;have ct2:=ct 2 (by omega);have eK:=hz 2;have je:=h.bad ha (t:=2) (by omega) Tm;have H:=ab h;have HX:=ab hx;have HT:=ab hT;have HD:=ab hd;have HR:=ab hR;have VE:=ab (zq2 aeN (zq2 hRk Nt));have kW:=ab bf;have Xq:=ab (zq2 Tm je);have i1:(0:Int)<=(a:Int):=(by omega);have i2:(a:Int)<(K.length:Int):=(by omega);obtain⟨dQ,dg⟩:∃dQ:World->Prop,dQ=λw'=>gf w S c c0 hv kv (.slice (some ⟨wB,0,none⟩) K.length wC) KV WV K x.bs (R.1.foldl (λs g=>bG c n g s) R.2) w':=⟨_,rfl⟩;have fD:=ab dg;rw[show(fun(e:Ending) (w':World)=>e=.returned (.tuple #[])/\gf w S c c0 hv kv (.slice (some ⟨wB,0,none⟩) K.length wC) KV WV K x.bs (R.1.foldl (λs g=>bG c n g s) R.2) w')=(λe w'=>e=.returned (.tuple #[])/\dQ w') by rw[dg]];clear h hx hT hd BY e rH bf wH hR aeN hRk Nt Tm je ct hz dg;go_enter func172,ntmps172;go_wp2_with fail
   refine(uh Ae).mono ?_;rintro e w1 ⟨lv,rfl,r9,a7⟩;obtain⟨la,lc,dX,-,-⟩:=aj r9;subst dX;have h1:=(uh H).below a7;obtain⟨aL,vB⟩:=h1.bad ha (t:=2) (by omega) (uh Xq).1;have d4:=h1.bs.cell 4 rfl;have dw:=(a7.cell (block_lt_of_cell? w _ cw)).trans cw;have dt:=(a7.cell (block_lt_of_cell? w _ ct2)).trans ct2;have hlA:=block_lt_of_cell? w _ ct2;have dz:w1.frozen? ⟨gA,2,none⟩=false:=by
    have h5:=h1.we a ha;rw[(uh Xq).1]at h5;exact h5.frozenAt 2
   have vJ:=((uh HX).below a7).of_eq (w':=w1.setCell ⟨gA,2,none⟩ (.bool true)) (λk hk=>heap_setCell _ _ _ _ (λe=>(uh HD k hk).1 (by rw[show k=gA from e];exact vB)));have KF:=ab (Bw (c:=c) (s:=kT a 2 s) (x:=x) (B:=0) aL.bs vJ (uh HT) (λq _=>zq5 _) (λe=>(uh HD S e).1 fJ) (zq5 _) fuel (by rw[<-uh HR];exact(uh VE).1));rw[<-uh HR]at KF;have NL:gb w (w1.setCell ⟨gA,2,none⟩ (.bool true)) (cI S hv kv (.slice (some ⟨wB,0,none⟩) K.length wC) KV WV) (cI S hv kv (.slice (some ⟨wB,0,none⟩) K.length wC) KV WV) (dK K) (dK K) x.bs:=(gb.below (X:=x.bs) a7).trans (gb.stp (X:=[]) ((ar.refl [gA] w1).setCell (p:=⟨gA,2,none⟩) (zq0 (by simp)) (.bool true)) (λk hk=>zq0 (by rw[mem_singleton]at hk;rw[hk];exact vB))) (λk hk=>by simp at hk);have H2:=ab (zq2 aL (zq2 NL vJ));clear r9 a7 h1 aL vB vJ hlA NL Ae Xq c4 ct2 cw eK c2;go_wp2_with fail
   refine(uh KF).mono ?_;rintro e w3 ⟨v3,L3,rfl,lW,ago,Wy,yO,bZ,eW⟩;obtain⟨va,vc,y7,-,-⟩:=aj lW.row;subst y7;have h3:=(uh H2).1.own (s':=R.2) (by rw[(uh VE).2.2];exact yO) eW (λk hk=>by
    rcases mem_cons.1 hk with p|p
    .exact zq0 p
    .exact zq1 (uh HD k p)) (uh VE).2.1.1 (uh VE).2.1.2
   have hg3:=(uh H2).2.1.trans (gb.stp (X:=x.bs) eW (λk hk=>by
    rcases mem_cons.1 hk with p|p
    .exact zq0 (by rw[p];exact fJ)
    .exact zq1 p)) (λk hk=>zq0 hk)
   have Zo:∀k∈a9 (.slice va L3.length vc) L3,k∈x.bs\/w.heap.size<=k:=λk hk=>by
    rcases eW.foot k (mem_cons_of_mem _ hk) with p|p
    .rcases mem_cons.1 p with p|p
     .exact absurd (by rw[<-p];exact hk) bZ
     .exact zq0 p
    .exact zq1 (zq3 (uh H2).2.1.st.size p)
   have Nr:Pn w3 (.slice va L3.length vc) L3 0 (cI S hv kv (.slice (some ⟨wB,0,none⟩) K.length wC) KV WV) (dK K):=⟨lW.pend,ago,λk hk=>by
    have sN:k∈a9 (.slice va L3.length vc) L3:=(by simpa[lU,a9] using hk);rcases Zo k sN with p|p
    .exact uh HD k p
    .exact⟨λe=>by have:=(uh H).lt k e;omega,λe=>by have:=(uh H).drlt k e;omega⟩⟩
   have fs:((L3.drop 0).map (·.f)).foldl (λs g=>bG c n g s) R.2=R.1.foldl (λs g=>bG c n g s) R.2:=(by rw[drop_zero,Wy]);have ai5:=ab Zo;have aqw:L3.length<=9223372036854775807:=by
    obtain⟨a1,c1,e1,e2,e3⟩:=aj lW.row;omega
   have bX:=ab (zq2 h3 (zq2 hg3 (zq2 Nr fs)));clear lW ago Wy yO bZ eW h3 hg3 Zo Nr fs H2 KF;go_wp2_with fail
   go_loopg [37] L3.length (λgn iv wx=>∃(j:Nat) (KV':List Value) (K':List (List En)) (s':Sr),j+gn=L3.length/\iv=.int .i64 j/\Hid (Sh wx S c c0 hv kv (.slice (some ⟨wB,0,none⟩) K.length wC) KV' WV K' s'/\K'.length=K.length/\gb w wx (cI S hv kv (.slice (some ⟨wB,0,none⟩) K.length wC) KV WV) (cI S hv kv (.slice (some ⟨wB,0,none⟩) K.length wC) KV' WV) (dK K) (dK K') x.bs/\Pn wx (.slice va L3.length vc) L3 j (cI S hv kv (.slice (some ⟨wB,0,none⟩) K.length wC) KV' WV) (dK K')/\((L3.drop j).map (·.f)).foldl (λs g=>bG c n g s) s'=R.1.foldl (λs g=>bG c n g s) R.2))
   case atStart=>exact⟨0,KV,K,R.2,by omega,rfl,ab ⟨(uh bX).1,rfl,(uh bX).2⟩⟩
   case round =>
    clear bX;obtain⟨j,KV',K',s',xD,rfl,hI⟩:=hrel;obtain⟨G1,yJ⟩:∃G1,G1=gk:=⟨_,rfl⟩;by_cases aq:j<L3.length
    .have jb:decide ((j:Int)<(L3.length:Int))=true:=(by simp;omega);obtain⟨h1,h2,h3,h4,h5⟩:=uh hI;obtain⟨g2,cap2,cZ,aw⟩:=h4.pe.cell aq;simp only[Value.slice.injEq,true_and]at cZ;obtain⟨rfl,rfl⟩:=cZ;obtain⟨n1,-,-,-,n5⟩:=h4.pe.next aq;have Oy:=h4.td _ (getElem_mem aq);have yS:∀k∈L3[j].bs,k ∉ cI S hv kv (.slice (some ⟨wB,0,none⟩) K.length wC) KV' WV/\k ∉ dK K':=λk hk=>h4.fd k (n5 k hk);have jm:L3.drop j=L3[j]::L3.drop (j+1):=drop_eq_getElem_cons aq;rw[jm,map_cons,foldl_cons]at h5;have pB:(bG c n L3[j].f s').ok=true:=jT _ (by rw[h5];exact uh kW);have wg:∀w' rU K2,gb wr w' (cI S hv kv (.slice (some ⟨wB,0,none⟩) K.length wC) KV' WV) (cI S hv kv (.slice (some ⟨wB,0,none⟩) K.length wC) rU WV) (dK K') (dK K2) L3[j].bs->Pn w' (.slice (some ⟨g2,0,none⟩) L3.length vc) L3 (j+1) (cI S hv kv (.slice (some ⟨wB,0,none⟩) K.length wC) rU WV) (dK K2)/\gb w w' (cI S hv kv (.slice (some ⟨wB,0,none⟩) K.length wC) KV WV) (cI S hv kv (.slice (some ⟨wB,0,none⟩) K.length wC) rU WV) (dK K) (dK K2) x.bs:=λw' rU K2 hg=>⟨h4.next aq hg,h3.trans hg (λk hk=>uh ai5 k (mem_append_right _ (mem_flatMap.2 ⟨_,getElem_mem aq,hk⟩)))⟩;obtain⟨y,hy⟩:∃y,y=L3[j]:=⟨_,rfl⟩;rw[<-hy]at aw n1 Oy yS h5 pB wg;have GW:y.p=.pointer (some ⟨y.A,0,none⟩):=rfl;rw[GW]at aw;have HLJ:=ab (OM h1 n1 Oy yS (n:=n) (by omega) (by omega) pB);have oM:=ab (zq2 wg (zq2 h2 h5));have k1:(0:Int)<=(j:Int):=(by omega);have k2:(j:Int)<(L3.length:Int):=(by omega);clear h1 h2 h3 h4 h5 n1 n5 Oy yS jm pB wg hy GW hI;go_wp2_with fail
     refine(uh HLJ).mono ?_;rintro e w5 ⟨rfl,rU,K2,g1,g2',g3⟩;obtain⟨p1,p2⟩:=(uh oM).1 w5 rU K2 g3;have HN:=ab (zq2 g1 (zq2 (g2'.trans (uh oM).2.1) (zq2 p2 (zq2 p1 (uh oM).2.2))));clear g1 g2' g3 p1 p2 HLJ oM;go_wp2_with fail
     go_roundg (G1-1)
     case rel=>exact⟨j+1,rU,K2,_,by omega,by go_num,HN⟩
     case measure=>omega
    .have jb:decide ((j:Int)<(L3.length:Int))=false:=(by simp;omega);have hP:dQ wr:=by
      obtain⟨h1,h2,h3,h4,h5⟩:=uh hI;rw[drop_eq_nil_of_le (by omega)]at h5;rw[uh fD];refine⟨KV',K',?_,h2,h3⟩;rw[<-h5];exact h1
     have HP:=ab hP;clear hP hI;go_wp2_with fail
     go_end0
     exact⟨rfl,uh HP⟩
end
def aaQ(A:Nat):Value:=.pointer (some ⟨A,0,none⟩)
structure Cp(w:World)(Q:Nat)(ws:List ByteArray)(s:PS)(al:List bC)(vv pv nv:Value):Prop where
 bk:Bk w Q 105 [.string ⟨(jn ws).toArray⟩,vv,pv,nv]
 vr:w.ownsRow 0 5 1 vv s.vars.length (bc s.vars)
 pr:w.ownsRow 0 239 5 pv al.length (aW al)
 nr:w.ownsRow 0 186 6 nv s.nodes.length (bj s.nodes)
def Ar(Q:Nat)(vv pv nv:Value):List Nat:=Q::(vv.ownBlock.toList++(pv.ownBlock.toList++nv.ownBlock.toList))
section
variable {w w':World} {Q:Nat} {ws:List ByteArray} {s:PS} {al:List bC} {vv pv nv:Value}
theorem Cp.of_eq(h:Cp w Q ws s al vv pv nv)(he:∀k∈Ar Q vv pv nv,w'.heap[k]?=w.heap[k]?):Cp w' Q ws s al vv pv nv :=
 ⟨h.bk.of_eq (he Q (by simp[Ar])),ae h.vr (λk hk=>he k (by simp[Ar,hk])),ae h.pr (λk hk=>he k (by simp[Ar,hk])),ae h.nr (λk hk=>he k (by simp[Ar,hk]))⟩
theorem Cp.lt(h:Cp w Q ws s al vv pv nv):∀k∈Ar Q vv pv nv,k<w.heap.size:=by
 intro k hk;simp only[Ar,mem_cons,mem_append,Option.mem_toList]at hk;rcases hk with rfl|hk|hk|hk
 .exact h.bk.lt
 .exact(h.vr.lt k hk).2
 .exact(h.pr.lt k hk).2
 .exact(h.nr.lt k hk).2
theorem Cp.below(h:Cp w Q ws s al vv pv nv)(hb:Below w.heap.size w w'):Cp w' Q ws s al vv pv nv:=h.of_eq (λk hk=>hb.block k (h.lt k hk))
end
theorem XR.cp{B:Nat}{w:World}{Q:Nat}{ws:List ByteArray}{s:PS}{al:List bC}(h:XR B w Q ws s al):∃vv pv nv,Cp w Q ws s al vv pv nv/\∀k∈Ar Q vv pv nv,B<=k:=by
 obtain⟨vv,pv,nv,h0,hB,h1,h2,h3⟩:=h;refine⟨vv,pv,nv,⟨h0,dA h1 (zq5 _),dA h2 (zq5 _),dA h3 (zq5 _)⟩,λk hk=>?_⟩;simp only[Ar,mem_cons,mem_append,Option.mem_toList]at hk;rcases hk with rfl|hk|hk|hk
 .exact hB
 .exact(h1.lt k hk).1
 .exact(h2.lt k hk).1
 .exact(h3.lt k hk).1
def ndA(nds:List Nd)(n:Nat):Nd:=nds.getD n ⟨0,0,0,0,0,0⟩
theorem Pb{l:List Nd}{k:Nat}(h:k<l.length):∀j,j<6->(bj l)[k*6+j]?=l[k].cells[j]?:=by
 induction l generalizing k with
 |nil=>simp at h
 |cons x l ih =>
  have hx:bj (x::l)=x.cells++bj l:=rfl;have hl:x.cells.length=6:=rfl;intro j hj;cases k with
  |zero=>rw[hx,getElem?_append_left (by omega)];simp
  |succ k =>
   rw[hx,getElem?_append_right (by omega),hl,show(k+1)*6+j-6=k*6+j by omega,ih (by simpa using h) j hj];rfl
theorem X6{w:World}{Q:Nat}{ws:List ByteArray}{s:PS}{al:List bC}{vv pv nv:Value}(n:Nat)(h:Cp w Q ws s al vv pv nv)(hl:s.nodes.length<=100000):
  Calls prog 103 #[.pointer (some ⟨Q,0,none⟩),.int .i64 n] w λe w'=>e=.returned (.agg (ndA s.nodes n).cells.toArray)/\Below w.heap.size w w':=by
 have c3:=h.bk.cell 3 rfl;have hQ:=h.bk.lt;have hb:=ah w (.cells #[Value.int .i64 0,.int .i64 0,.int .i64 0,.int .i64 0,.int .i64 0,.int .i64 0] 186);have d3:=(hb.cell (block_lt_of_cell? w _ c3)).trans c3;by_cases hn:n<s.nodes.length
 .obtain⟨g,cap,rfl,fQ,hm,k9⟩:=bM h.nr (by omega);have hg:=Pb hn;have x:∀j,j<6->w.cell? ⟨g,n*6+j,none⟩=s.nodes[n].cells[j]?:=λj hj=>(h.nr.cellAt (n*6+j) (by omega)).trans (hg j hj);have x':∀j,j<6->(w.alloc (.cells #[Value.int .i64 0,.int .i64 0,.int .i64 0,.int .i64 0,.int .i64 0,.int .i64 0] 186)).cell? ⟨g,n*6+j,none⟩=s.nodes[n].cells[j]?:=λj hj=>(hb.cell (p:=⟨g,n*6+j,none⟩) k9).trans (x j hj);have HE:Hid (ndA s.nodes n=s.nodes[n]):=ab (by simp[ndA,hn]);generalize s.nodes[n]=nd at *;obtain⟨op,v,ak,ai,nx,ot⟩:=nd;have x0:=x' 0 (by omega);have x1:=x' 1 (by omega);have x2:=x' 2 (by omega);have x3:=x' 3 (by omega);have x4:=x' 4 (by omega);have x5:=x' 5 (by omega);simp only[Nd.cells,getElem?_cons_zero,getElem?_cons_succ,Nat.add_zero]at x0 x1 x2 x3 x4 x5;clear x x' hg h c3 hb;go_enter func103,ntmps103;go_wp2_with fail
  refine bodyPost_ret (v:=.agg #[.int .i64 op,.int .i64 v,.int .i64 ak,.int .i64 ai,.int .i64 nx,.int .i64 ot]) (by simp[results,Tryz.results103,go_sem]) rfl ⟨?_,?_⟩
  .rw[uh HE];rfl
  .exact ah _ _
 .obtain⟨ao,cap,rfl,fQ,hm⟩:=aj h.nr;have HE:Hid (ndA s.nodes n=⟨0,0,0,0,0,0⟩):=ab (by unfold ndA;simp[List.getD,getElem?_eq_none (Nat.le_of_not_lt hn)]);have cq:(s.nodes.length:Int)<=(n:Int):=by omega
  clear h c3 hb;go_enter func103,ntmps103;go_wp2_with fail
  refine bodyPost_ret (v:=.agg #[.int .i64 0,.int .i64 0,.int .i64 0,.int .i64 0,.int .i64 0,.int .i64 0]) (by simp[results,Tryz.results103,go_sem]) rfl ⟨?_,?_⟩
  .rw[uh HE];rfl
  .exact ah _ _
structure vu(nds:List Nd):Prop where
 v:∀n,(nds.getD n aS).v<4/\(nds.getD n aS).ai<4
 op:∀n,(nds.getD n aS).op<=1000
 nx:∀n,n<nds.length->(nds.getD n aS).op≠0->(nds.getD n aS).nx<nds.length
 ot:∀n,n<nds.length->((nds.getD n aS).op=7\/(nds.getD n aS).op=8\/(nds.getD n aS).op=9)->(nds.getD n aS).ot<nds.length
theorem tR{n:Nd}{f:CF}(h:(b8 n f).nx≠[]):n.op≠0:=λe=>h (by unfold b8;rw[if_pos e];rfl)
theorem qD{n:Nd}{f:CF}(h:(b8 n f).ot≠[]):n.op=7\/n.op=8\/n.op=9:=by
 apply Classical.byContradiction;intro hc;simp only[not_or]at hc;apply h;unfold b8;repeat' split
 all_goals first|rfl|(exfalso;omega)
structure Lp(w W:World)(S:Nat)(c:Cd)(c0 hv kv wv:Value)(RN WV:List Value)(K0:List (List En))(X:List Nat)(KV:List Value)(K:List (List En))(s:Sr)(v:Value)(L:List FE)(j:Nat)(Z:List Nat):Prop where
 sh:Sh W S c c0 hv kv wv KV WV K s
 kl:K.length=K0.length
 go:gb w W (cI S hv kv wv RN WV) (cI S hv kv wv KV WV) (dK K0) (dK K) X
 pn:Pn W v L j (cI S hv kv wv KV WV) (dK K)
 ap:∀k∈Z,(k ∉ cI S hv kv wv KV WV/\k ∉ dK K)/\k ∉ lU v L j/\k<W.heap.size
 nw:∀k∈lU v L j,k∈X\/w.heap.size<=k
section
variable {w W W':World} {S:Nat} {c:Cd} {c0 hv kv wv:Value} {RN WV KV:List Value} {K0 K:List (List En)} {X Z:List Nat} {s s':Sr} {v:Value} {L:List FE} {j:Nat}
theorem Lp.next(h:Lp w W S c c0 hv kv wv RN WV K0 X KV K s v L j Z)(hj:j<L.length)(hP:gf W S c c0 hv kv wv KV WV K L[j].bs s' W'):∃KV' K',Lp w W' S c c0 hv kv wv RN WV K0 X KV' K' s' v L (j+1) Z/\∀k∈Z,W'.heap[k]?=W.heap[k]?:=by
 obtain⟨KV',K',h1,h2,h3⟩:=hP;obtain⟨-,-,-,n4,n5⟩:=h.pn.pe.next hj;refine⟨KV',K',⟨h1,h2.trans h.kl,h.go.trans h3 (λk hk=>h.nw k (n5 k hk)),h.pn.next hj h3,λk hk=>?_,λk hk=>h.nw k (n4 k hk).1⟩,λk hk=>?_⟩
 .obtain⟨⟨a1,a2⟩,a3,a4⟩:=h.ap k hk;refine⟨⟨λhn=>?_,λhn=>?_⟩,λhn=>a3 (n4 k hn).1,zq6 a4 h3.st.size⟩
  .rcases h3.st.foot k hn with p|p
   .rcases mem_append.1 p with p|p
    .exact a1 p
    .exact a3 (n5 k p)
   .omega
  .rcases h3.dr k hn with p|p|p
   .exact a2 p
   .exact a3 (n5 k p)
   .omega
 .obtain⟨⟨a1,a2⟩,a3,a4⟩:=h.ap k hk;refine h3.st.block k a4 (λhn=>?_);rcases mem_append.1 hn with p|p
  .exact a1 p
  .exact a3 (n5 k p)
theorem Lp.end'(h:Lp w W S c c0 hv kv wv RN WV K0 X KV K s v L j Z):gf w S c c0 hv kv wv RN WV K0 X s W:=⟨KV,K,h.sh,h.kl,h.go⟩
end
structure Sx(w W:World)(S:Nat)(c:Cd)(c0 hv kv wv:Value)(KV WV:List Value)(K:List (List En))(s:Sr)(O:Nat)(nu da fu:Bool)(nv tv:Value)(Ln Lt:List FE)(Y:Nat)(nd:Nd):Prop where
 sh:Sh W S c c0 hv kv wv KV WV K s
 go:gb w W (cI S hv kv wv KV WV) (cI S hv kv wv KV WV) (dK K) (dK K) []
 oo:Oo W O nu da fu nv tv Ln Lt
 bx:Bk W Y 186 nd.cells
 on:∀k∈Y::dV O nv tv Ln Lt,(k ∉ cI S hv kv wv KV WV/\k ∉ dK K)/\w.heap.size<=k
 yn:Y ∉ dV O nv tv Ln Lt
section
variable {w W:World} {S:Nat} {c:Cd} {c0 hv kv wv:Value} {KV WV:List Value} {K:List (List En)} {s:Sr} {O:Nat} {nu da fu:Bool} {nv tv:Value} {Ln Lt:List FE} {Y:Nat} {nd:Nd}
theorem Sx.bad(h:Sx w W S c c0 hv kv wv KV WV K s O nu da fu nv tv Ln Lt Y nd){n:Nat}(hn:n<K.length){t:Nat}(ht:t<5){g cap:Nat}(hg:WV.getD n aF=.slice (some ⟨g,0,none⟩) 5 cap):Sx w (W.setCell ⟨g,t,none⟩ (.bool true)) S c c0 hv kv wv KV WV K (kT n t s) O nu da fu nv tv Ln Lt Y nd:=by
 obtain⟨h1,h2⟩:=h.sh.bad hn ht hg;have aJ:∀k∈Y::dV O nv tv Ln Lt,(W.setCell ⟨g,t,none⟩ (.bool true)).heap[k]?=W.heap[k]?:=λk hk=>heap_setCell _ _ _ _ (λe=>(h.on k hk).1.1 (by rw[show k=g from e];exact h2));exact⟨h1,h.go.trans (gb.stp (X:=[]) ((ar.refl [g] W).setCell (p:=⟨g,t,none⟩) (zq0 (by simp)) (.bool true)) (λk hk=>zq0 (by rw[mem_singleton]at hk;rw[hk];exact h2))) (λk hk=>by simp at hk),h.oo.of_eq (λk hk=>aJ k (mem_cons_of_mem _ hk)),h.bx.of_eq (aJ Y (by simp)),h.on,h.yn⟩
theorem Sx.full(h:Sx w W S c c0 hv kv wv KV WV K s O nu da fu nv tv Ln Lt Y nd):Sx w (W.setCell ⟨S,8,none⟩ (.bool true)) S c c0 hv kv wv KV WV K { s with fu:=true } O nu da fu nv tv Ln Lt Y nd:=by
 have hs:ar [S] W [S] (W.setCell ⟨S,8,none⟩ (.bool true)):=(ar.refl [S] W).setCell (p:=⟨S,8,none⟩) (zq0 (by simp)) (.bool true);have h1:=h.sh.own (s':={ s with fu:=true }) (h.sh.bs.set 8 (.bool true)) hs (λk hk=>zq0 (mem_singleton.1 hk)) rfl rfl;have aJ:∀k∈Y::dV O nv tv Ln Lt,(W.setCell ⟨S,8,none⟩ (.bool true)).heap[k]?=W.heap[k]?:=λk hk=>heap_setCell _ _ _ _ (λe=>(h.on k hk).1.1 (by rw[show k=S from e];exact fJ));exact⟨h1,h.go.trans (gb.stp (X:=[]) hs (λk hk=>zq0 (by rw[mem_singleton]at hk;rw[hk];exact fJ))) (λk hk=>by simp at hk),h.oo.of_eq (λk hk=>aJ k (mem_cons_of_mem _ hk)),h.bx.of_eq (aJ Y (by simp)),h.on,h.yn⟩
theorem Sx.lp(h:Sx w W S c c0 hv kv wv KV WV K s O nu da fu nv tv Ln Lt Y nd)(ht:∀x∈Ln,Td x.f):Lp w W S c c0 hv kv wv KV WV K [] KV K s nv Ln 0 (Y::O::a9 tv Lt):=by
 have c9:=nodup_cons.1 h.oo.nd;have ug:=nodup_append.1 c9.2;have e:lU nv Ln 0=a9 nv Ln:=by simp[lU,a9]
 refine⟨h.sh,rfl,h.go,⟨h.oo.nx.pend,ht,λk hk=>?_⟩,λk hk=>?_,λk hk=>zq1 ?_⟩
 .rw[e]at hk;exact(h.on k (by simp only[dV,mem_cons,mem_append];exact zq1 (zq1 (zq0 hk)))).1
 .have hm:k∈Y::dV O nv tv Ln Lt:=by
   simp only[dV,mem_cons,mem_append]at hk ⊢;rcases hk with p|p|p
   .exact zq0 p
   .exact zq1 (zq0 p)
   .exact zq1 (zq1 (zq1 p))
  refine⟨(h.on k hm).1,λhn=>?_,?_⟩
  .rw[e]at hn;rcases mem_cons.1 hk with p|p
   .exact h.yn (by rw[<-p];simp only[dV,mem_cons,mem_append];exact zq1 (zq0 hn))
   .rcases mem_cons.1 p with p|p
    .exact c9.1 (by rw[<-p];exact mem_append_left _ hn)
    .exact ug.2.2 k hn k p rfl
  .rcases mem_cons.1 hm with p|p
   .rw[p];exact h.bx.lt
   .exact h.oo.lt k p
 .rw[e]at hk;exact(h.on k (by simp only[dV,mem_cons,mem_append];exact zq1 (zq1 (zq0 hk)))).2
end
section
variable {w W:World} {S:Nat} {c:Cd} {c0 hv kv wv:Value} {KV WV:List Value} {K:List (List En)} {s:Sr} {x:FE}
theorem Sh.wcs{wB wC gA cA m n:Nat}(h:Sh w S c c0 hv kv (.slice (some ⟨wB,0,none⟩) m wC) KV WV K s)(hn:n<K.length)(hW:WV.getD n aF=.slice (some ⟨gA,0,none⟩) 5 cA):w.cell? ⟨S,4,none⟩=some (.slice (some ⟨wB,0,none⟩) m wC)/\w.cell? ⟨wB,n,none⟩=some (.slice (some ⟨gA,0,none⟩) 5 cA)/\(∀t,t<5->w.cell? ⟨gA,t,none⟩=some (.bool ((s.wr.getD n []).getD t false)))/\∀t,w.frozen? ⟨gA,t,none⟩=false:=by
 obtain⟨g,cap,g2,cap2,h1,h2,h3,h4,h5⟩:=h.wc hn;rw[hW]at h2;simp only[Value.slice.injEq,Option.some.injEq,Addr.mk.injEq,and_true,true_and]at h1 h2;obtain⟨rfl,-,-⟩:=h1;obtain⟨rfl,rfl⟩:=h2;exact⟨h.bs.cell 4 rfl,h3,h4,h5⟩
theorem Lp.turn{w W:World}{RN:List Value}{K0:List (List En)}{v tv:Value}{L Lt:List FE}{j Y O:Nat}(h:Lp w W S c c0 hv kv wv RN WV K0 [] KV K s v L j (Y::O::a9 tv Lt))(ht:Fl W 0 tv Lt)(hT:∀y∈Lt,Td y.f)(hn:∀k∈a9 tv Lt,w.heap.size<=k)(hY:Y ∉ a9 tv Lt):Lp w W S c c0 hv kv wv RN WV K0 [] KV K s tv Lt 0 [Y]:=by
 have e:lU tv Lt 0=a9 tv Lt:=by simp[lU,a9]
 refine⟨h.sh,h.kl,h.go,⟨ht.pend,hT,λk hk=>?_⟩,λk hk=>?_,λk hk=>zq1 ?_⟩
 .rw[e]at hk;exact(h.ap k (mem_cons_of_mem _ (mem_cons_of_mem _ hk))).1
 .rw[mem_singleton]at hk;subst hk;obtain⟨a1,-,a3⟩:=h.ap k (by simp);exact⟨a1,by rw[e];exact hY,a3⟩
 .rw[e]at hk;exact hn k hk
theorem U0{Q:Nat}{ws:List ByteArray}{ps:PS}{al:List bC}{vv pv nvv:Value}(h:Sh w S c (.pointer (some ⟨Q,0,none⟩)) hv kv wv KV WV K s)(hC:Cp w Q ws ps al vv pv nvv)(fQ:c.nds=ps.nodes)(hN:vu c.nds)(hF:dF w x.A x.f x.av x.ov)(hT:Td x.f)(hd:∀k∈x.bs,k ∉ cI S hv kv wv KV WV){n:Nat}(hn:n<K.length)(vX:K.length<=100000){fuel:Nat}(bf:(nH c fuel n x.f s).ok=true):
  Calls prog 173 #[.pointer (some ⟨S,0,none⟩),.int .i64 n,.pointer (some ⟨x.A,0,none⟩)] w λe w'=>e=.returned (.tuple #[])/\gf w S c (.pointer (some ⟨Q,0,none⟩)) hv kv wv KV WV K [] (nH c fuel n x.f s) w':=by
 have fU:=h.nl;obtain⟨nd,c9⟩:∃nd,nd=c.nds.getD n aS:=⟨_,rfl⟩;have yZ:=hN.v n;have mC:=hN.op n;have wg:=hN.nx n (by omega);have Ra:=hN.ot n (by omega);rw[<-c9]at yZ mC wg Ra;have hndA:ndA ps.nodes n=nd:=by rw[c9,fQ];rfl
 have HAT:Hid (Calls prog 103 #[.pointer (some ⟨Q,0,none⟩),.int .i64 n] w λe w'=>e=.returned (.agg #[.int .i64 (nd.op:Int),.int .i64 (nd.v:Int),.int .i64 (nd.ak:Int),.int .i64 (nd.ai:Int),.int .i64 (nd.nx:Int),.int .i64 (nd.ot:Int)])/\Below w.heap.size w w'):=ab (by
  have h1:=X6 n hC (by rw[<-fQ];omega);rw[hndA]at h1;exact h1)
 obtain⟨⟨onx,oot,nu,da,fu⟩,ho⟩:∃o,o=b8 nd x.f:=⟨_,rfl⟩;have Do:(∀x∈onx,Td x)/\∀x∈oot,Td x:=by
  have h1:=lQ yZ.1 yZ.2 hT;rw[<-ho]at h1;exact h1
 obtain⟨b1,a7⟩:∃b1,b1=(decide (nd.op=0)&&!decide (eY x.f=[])):=⟨_,rfl⟩;have aE:nH c fuel n x.f s=oot.foldl (λs g=>dG c fuel n nd.ot g s) (onx.foldl (λs g=>dG c fuel n nd.nx g s) (fuS fu (wrI da n 4 (wrI nu n 3 (wrI b1 n 2 s))))):=by
  unfold nH;simp only;rw[<-c9,<-ho,<-a7]
 rw[aE]at bf ⊢;have afY:onx≠[]->nd.nx<K.length:=λe=>by rw[<-fU];exact wg (tR (by rw[<-ho];exact e))
 have af9:oot≠[]->nd.ot<K.length:=λe=>by rw[<-fU];exact Ra (qD (by rw[<-ho];exact e))
 obtain⟨wB,wC,gA,cA,Cf,Tm,-,-,-⟩:=h.wc hn;subst Cf;have c0':=h.bs.cell 0 rfl;have H:=ab h;have HF:=ab hF;have HT:=ab hT;have HD:=ab hd;have HO:=ab ho;have dm:=ab a7;have FK:=ab Do;have oM:=ab (zq2 afY af9);have kW:=ab bf;have RM:=ab Tm;have HV4:=ab (zq2 yZ mC);obtain⟨dQ,dg⟩:∃dQ:World->Prop,dQ=λw'=>gf w S c (.pointer (some ⟨Q,0,none⟩)) hv kv (.slice (some ⟨wB,0,none⟩) K.length wC) KV WV K [] (oot.foldl (λs g=>dG c fuel n nd.ot g s) (onx.foldl (λs g=>dG c fuel n nd.nx g s) (fuS fu (wrI da n 4 (wrI nu n 3 (wrI b1 n 2 s)))))) w':=⟨_,rfl⟩;have fD:=ab dg;rw[show(fun(e:Ending) (w':World)=>e=.returned (.tuple #[])/\gf w S c (.pointer (some ⟨Q,0,none⟩)) hv kv (.slice (some ⟨wB,0,none⟩) K.length wC) KV WV K [] (oot.foldl (λs g=>dG c fuel n nd.ot g s) (onx.foldl (λs g=>dG c fuel n nd.nx g s) (fuS fu (wrI da n 4 (wrI nu n 3 (wrI b1 n 2 s)))))) w')=(λe w'=>e=.returned (.tuple #[])/\dQ w') by rw[dg]];have i1:(0:Int)<=(n:Int):=by omega
 have i2:(n:Int)<(K.length:Int):=by omega
 clear h hC fQ hN hF hT hd c9 yZ mC wg Ra hndA Do aE afY af9 bf Tm ho a7 dg fU;go_enter func173,ntmps173;go_wp2_with fail
 refine(uh HAT).mono ?_;rintro e w1 ⟨rfl,Tp⟩;obtain⟨W2,ey⟩:∃W2,W2=w1.alloc (.cells #[Value.int .i64 (nd.op:Int),.int .i64 (nd.v:Int),.int .i64 (nd.ak:Int),.int .i64 (nd.ai:Int),.int .i64 (nd.nx:Int),.int .i64 (nd.ot:Int)] 186):=⟨_,rfl⟩;have bQ:Below w1.heap.size w1 W2:=by rw[ey];exact ah w1 _
 have iI:Bk W2 w1.heap.size 186 nd.cells:=by rw[ey];exact Bk.new w1 _ _
 have aL:=Tp.trans (bQ.mono Tp.size);obtain⟨Y,nB⟩:∃Y,Y=w1.heap.size:=⟨_,rfl⟩;rw[<-nB]at iI;have hYw:w.heap.size<=Y:=by rw[nB];exact Tp.size
 have y0:=iI.cell 0 rfl;have H2:=ab (zq2 aL (zq2 iI hYw));have Ae:=ab (ut ((uh HF).below aL) (uh HT).ok);clear bQ iI aL Tp hYw HAT c0';go_upto_region 1 with fail;rw[<-ey,<-nB];clear ey nB;go_cut [26] (λbv wx=>bv=.bool b1/\Hid (Below W2.heap.size W2 wx))
 case first =>
  by_cases JW:nd.op=0
  .have d0:((nd.op:Int)==(0:Int))=true:=(by simp[JW]);by_cases rH:eY x.f=[]
   .have d1:decide (0<(eY x.f).length)=false:=(by rw[rH];rfl);have Le:Hid (b1=false):=ab (by rw[uh dm];simp[rH]);clear JW rH;go_wp2_with fail
    refine(uh Ae).mono ?_;rintro e w3 ⟨lv,rfl,r9,cB⟩;obtain⟨la,lc,dX,-,-⟩:=aj r9;subst dX;have oL:=ab cB;clear r9 cB;go_wp2_with fail
    go_meet
    exact⟨by rw[uh Le],oL⟩
   .have d1:decide (0<(eY x.f).length)=true:=by
     have:(eY x.f).length≠0:=λe=>rH (length_eq_zero_iff.1 e);rw[decide_eq_true_eq];omega
    have Le:Hid (b1=true):=ab (by rw[uh dm];simp[JW,rH]);clear JW rH;go_wp2_with fail
    refine(uh Ae).mono ?_;rintro e w3 ⟨lv,rfl,r9,cB⟩;obtain⟨la,lc,dX,-,-⟩:=aj r9;subst dX;have oL:=ab cB;clear r9 cB;go_wp2_with fail
    go_meet
    exact⟨by rw[uh Le],oL⟩
  .have d0:((nd.op:Int)==(0:Int))=false:=(by simp;omega);have Le:Hid (b1=false):=ab (by rw[uh dm];simp[JW]);clear JW;go_wp2_with fail
   go_meet
   exact⟨by rw[uh Le],ab (Below.refl _ _)⟩
 case rest =>
  obtain⟨rfl,SZ⟩:=hcut;have h3:=((uh H).below (uh H2).1).below (uh SZ);have cB:=(uh H2).1.trans ((uh SZ).mono (uh H2).1.size);have hY3:=(uh H2).2.1.below (uh SZ);have Dg:=(uh HF).below cB;have H3:=ab (zq2 h3 (zq2 (gb.below (F:=(cI S hv kv (.slice (some ⟨wB,0,none⟩) K.length wC) KV WV)) (D:=dK K) (X:=[]) cB) (zq2 hY3 Dg)));clear h3 cB hY3 Dg Ae y0;go_upto_if 26 with fail
  go_cut [] (λwx=>Hid (Sh wx S c (.pointer (some ⟨Q,0,none⟩)) hv kv (.slice (some ⟨wB,0,none⟩) K.length wC) KV WV K (wrI b1 n 2 s)/\gb w wx (cI S hv kv (.slice (some ⟨wB,0,none⟩) K.length wC) KV WV) (cI S hv kv (.slice (some ⟨wB,0,none⟩) K.length wC) KV WV) (dK K) (dK K) []/\Bk wx Y 186 nd.cells/\dF wx x.A x.f x.av x.ov))
  case first =>
   cases b1
   rotate_left
   .obtain⟨h3,hg3,hY3,Dg⟩:=uh H3;obtain⟨d4,dw,dt,dz⟩:=h3.wcs hn (uh RM);have dt':=dt 2 (by omega);have dz':=dz 2;obtain⟨hb,vB⟩:=h3.bad hn (t:=2) (by omega) (uh RM);have hYg:Y≠gA:=λe=>by
     have h1:=(uh H).lt gA vB;have h2:=(uh H2).2.2;omega
    have HN:Hid (Sh (wc.setCell ⟨gA,2,none⟩ (.bool true)) S c (.pointer (some ⟨Q,0,none⟩)) hv kv (.slice (some ⟨wB,0,none⟩) K.length wC) KV WV K (wrI true n 2 s)/\gb w (wc.setCell ⟨gA,2,none⟩ (.bool true)) (cI S hv kv (.slice (some ⟨wB,0,none⟩) K.length wC) KV WV) (cI S hv kv (.slice (some ⟨wB,0,none⟩) K.length wC) KV WV) (dK K) (dK K) []/\Bk (wc.setCell ⟨gA,2,none⟩ (.bool true)) Y 186 nd.cells/\dF (wc.setCell ⟨gA,2,none⟩ (.bool true)) x.A x.f x.av x.ov):=ab (by
     rw[show(wrI true n 2 s)=kT n 2 s from rfl];exact⟨hb,hg3.trans (gb.stp (X:=[]) ((ar.refl [gA] wc).setCell (p:=⟨gA,2,none⟩) (zq0 (by simp)) (.bool true)) (λk hk=>zq0 (by rw[mem_singleton]at hk;rw[hk];exact vB))) (λk hk=>by simp at hk),hY3.setO (p:=⟨gA,2,none⟩) (λe=>hYg e.symm) _,Dg.of_eq (λk hk=>heap_setCell _ _ _ _ (λe=>uh HD k hk (by rw[show k=gA from e];exact vB)))⟩)
    clear h3 hg3 hY3 Dg dt dz hb vB hYg H3;go_wp2_with fail
    go_meet
    exact HN
   .have HN:Hid (Sh wc S c (.pointer (some ⟨Q,0,none⟩)) hv kv (.slice (some ⟨wB,0,none⟩) K.length wC) KV WV K (wrI false n 2 s)/\gb w wc (cI S hv kv (.slice (some ⟨wB,0,none⟩) K.length wC) KV WV) (cI S hv kv (.slice (some ⟨wB,0,none⟩) K.length wC) KV WV) (dK K) (dK K) []/\Bk wc Y 186 nd.cells/\dF wc x.A x.f x.av x.ov):=ab (by
     rw[show(wrI false n 2 s)=s from rfl];exact uh H3)
    clear H3;go_wp2_with fail
    go_meet
    exact HN
  case rest =>
   obtain⟨h4,KT,Wj,qN⟩:=uh hcut;have y0:=Wj.cell 0 rfl;have y1:=Wj.cell 1 rfl;have y2:=Wj.cell 2 rfl;have y3:=Wj.cell 3 rfl;have y4:=Wj.cell 4 rfl;have y5:=Wj.cell 5 rfl;have FC:=ab (Mw (n:=nd) qN (uh HT) (uh HV4).1.1 (uh HV4).1.2 (uh HV4).2);unfold Rg at FC;have H4:=ab (zq2 h4 (zq2 KT Wj));clear h4 KT Wj qN hcut H3;go_wp2_with fail
   refine(uh FC).mono ?_;rintro e w5 ⟨O,rfl,nv,tv,Ln,Lt,sj,jF,wm,cq,cD⟩;rw[<-uh HO]at sj jF wm;simp only at sj jF wm;have Y2:=(uh H4).2.2.lt;have jD:∀k,w.heap.size<=k->(k ∉ (cI S hv kv (.slice (some ⟨wB,0,none⟩) K.length wC) KV WV)/\k ∉ dK K)/\w.heap.size<=k:=λk hk=>⟨⟨λe=>by have:=(uh H).lt k e;omega,λe=>by have:=(uh H).drlt k e;omega⟩,hk⟩;have HX:Hid (Sx w w5 S c (.pointer (some ⟨Q,0,none⟩)) hv kv (.slice (some ⟨wB,0,none⟩) K.length wC) KV WV K (wrI b1 n 2 s) O nu da fu nv tv Ln Lt Y nd):=ab ⟨(uh H4).1.below cD,(uh H4).2.1.trans (gb.below (X:=[]) cD) (λk hk=>by simp at hk),sj,(uh H4).2.2.below cD,λk hk=>by
    rcases mem_cons.1 hk with p|p
    .rw[p];exact jD Y (uh H2).2.2
    .exact jD k (zq3 (uh H4).2.1.st.size (cq k p)),λe=>by have:=cq Y e;omega⟩
   have HM:=ab (zq2 jF wm);clear sj jF wm cq cD Y2 jD H4 FC y0 y1 y2 y3 y4 y5;have o2:=(uh HX).oo.bk.cell 2 rfl;go_upto_if 41 with fail
   go_cut [] (λwx=>Hid (Sx w wx S c (.pointer (some ⟨Q,0,none⟩)) hv kv (.slice (some ⟨wB,0,none⟩) K.length wC) KV WV K (wrI nu n 3 (wrI b1 n 2 s)) O nu da fu nv tv Ln Lt Y nd))
   case first =>
    cases nu
    .go_wp2_with fail
     go_meet
     exact HX
    .obtain⟨d4,dw,dt,dz⟩:=(uh HX).sh.wcs hn (uh RM);have dt':=dt 3 (by omega);have dz':=dz 3;have HN:=ab ((uh HX).bad hn (t:=3) (by omega) (uh RM));clear dt dz;go_wp2_with fail
     go_meet
     exact HN
   case rest =>
   clear o2 HX;have HX:=ab (uh hcut);clear hcut;have o3:=(uh HX).oo.bk.cell 3 rfl;go_upto_if 53 with fail
   go_cut [] (λwx=>Hid (Sx w wx S c (.pointer (some ⟨Q,0,none⟩)) hv kv (.slice (some ⟨wB,0,none⟩) K.length wC) KV WV K (wrI da n 4 (wrI nu n 3 (wrI b1 n 2 s))) O nu da fu nv tv Ln Lt Y nd))
   case first =>
    cases da
    .go_wp2_with fail
     go_meet
     exact HX
    .obtain⟨d4,dw,dt,dz⟩:=(uh HX).sh.wcs hn (uh RM);have dt':=dt 4 (by omega);have dz':=dz 4;have HN:=ab ((uh HX).bad hn (t:=4) (by omega) (uh RM));clear dt dz;go_wp2_with fail
     go_meet
     exact HN
   case rest =>
   clear o3 HX;have HX:=ab (uh hcut);clear hcut;have o4:=(uh HX).oo.bk.cell 4 rfl;go_upto_if 65 with fail
   go_cut [] (λwx=>Hid (Sx w wx S c (.pointer (some ⟨Q,0,none⟩)) hv kv (.slice (some ⟨wB,0,none⟩) K.length wC) KV WV K (fuS fu (wrI da n 4 (wrI nu n 3 (wrI b1 n 2 s)))) O nu da fu nv tv Ln Lt Y nd))
   case first =>
    cases fu
    .go_wp2_with fail
     go_meet
     exact ab (by rw[show fuS false (wrI da n 4 (wrI nu n 3 (wrI b1 n 2 s)))=(wrI da n 4 (wrI nu n 3 (wrI b1 n 2 s))) by unfold fuS;rw[Bool.or_false]];exact uh HX)
    .have e8:=(uh HX).sh.bs.cell 8 rfl;have z8:=(uh HX).sh.bs.frz 8;have HN:=ab (uh HX).full;go_wp2_with fail
     go_meet
     exact ab (by rw[show fuS true (wrI da n 4 (wrI nu n 3 (wrI b1 n 2 s)))={ (wrI da n 4 (wrI nu n 3 (wrI b1 n 2 s))) with fu:=true } by unfold fuS;rw[Bool.or_true]];exact uh HN)
   case rest =>
   clear o4 HX;obtain⟨s2,fR⟩:∃s2,s2=(fuS fu (wrI da n 4 (wrI nu n 3 (wrI b1 n 2 s)))):=⟨_,rfl⟩;rw[<-fR]at hcut fD kW;obtain⟨s3,eW⟩:∃s3,s3=onx.foldl (λs g=>dG c fuel n nd.nx g s) s2:=⟨_,rfl⟩;rw[<-eW]at fD kW;have hX:=uh hcut;have htLn:∀y∈Ln,Td y.f:=λy hy=>(uh FK).1 _ (by rw[<-(uh HM).1];exact mem_map_of_mem hy);have htLt:∀y∈Lt,Td y.f:=λy hy=>(uh FK).2 _ (by rw[<-(uh HM).2];exact mem_map_of_mem hy);have BY:=hX.lp htLn;have cK:Hid ((∀k∈a9 tv Lt,w.heap.size<=k)/\Y ∉ a9 tv Lt/\∀y∈Lt,Td y.f):=ab ⟨λk hk=>(hX.on k (by simp only[dV,mem_cons,mem_append];exact zq1 (zq1 (zq1 hk)))).2,λe=>hX.yn (by simp only[dV,mem_cons,mem_append];exact zq1 (zq1 e)),htLt⟩;obtain⟨na,nc,AD,ak9,ala⟩:=aj hX.oo.nx.row;obtain⟨ta,tc,htv,alD,alE⟩:=aj hX.oo.ot.row;have oc:=hX.oo.bk.cell 0 rfl;have bX:Hid (Lp w wc S c (.pointer (some ⟨Q,0,none⟩)) hv kv (.slice (some ⟨wB,0,none⟩) K.length wC) KV WV K [] KV K s2 nv Ln 0 (Y::O::a9 tv Lt)/\((Ln.drop 0).map (·.f)).foldl (λs g=>dG c fuel n nd.nx g s) s2=s3/\Bk wc Y 186 nd.cells/\Bk wc O 280 [nv,tv,.bool nu,.bool da,.bool fu]/\Fl wc 0 tv Lt):=ab ⟨BY,by rw[drop_zero,(uh HM).1,eW],hX.bx,hX.oo.bk,hX.oo.ot⟩;subst AD;subst htv;have aqx:Ln.length<=9223372036854775807:=(by omega);have aqy:Lt.length<=9223372036854775807:=(by omega);clear hX BY htLn htLt fR eW hcut ak9 ala alD alE;go_wp2_with fail
   go_loopg [74] Ln.length (λgn iv wx=>∃(j:Nat) (KV':List Value) (K':List (List En)) (s':Sr),j+gn=Ln.length/\iv=.int .i64 j/\Hid (Lp w wx S c (.pointer (some ⟨Q,0,none⟩)) hv kv (.slice (some ⟨wB,0,none⟩) K.length wC) KV WV K [] KV' K' s' (.slice na Ln.length nc) Ln j (Y::O::a9 (.slice ta Lt.length tc) Lt)/\((Ln.drop j).map (·.f)).foldl (λs g=>dG c fuel n nd.nx g s) s'=s3/\Bk wx Y 186 nd.cells/\Bk wx O 280 [.slice na Ln.length nc,.slice ta Lt.length tc,.bool nu,.bool da,.bool fu]/\Fl wx 0 (.slice ta Lt.length tc) Lt))
   case atStart=>exact⟨0,KV,K,s2,by omega,rfl,bX⟩
   case round =>
    clear bX oc;obtain⟨j,KV',K',s',xD,rfl,hI⟩:=hrel;obtain⟨G1,yJ⟩:∃G1,G1=gk:=⟨_,rfl⟩;by_cases aq:j<Ln.length
    .have jb:decide ((j:Int)<(Ln.length:Int))=true:=(by simp;omega);obtain⟨h1,h2,h3,h4,h5⟩:=uh hI;obtain⟨g2,cap2,cZ,aw⟩:=h1.pn.pe.cell aq;simp only[Value.slice.injEq,true_and]at cZ;obtain⟨rfl,rfl⟩:=cZ;obtain⟨n1,-,-,-,n5⟩:=h1.pn.pe.next aq;have Oy:=h1.pn.td _ (getElem_mem aq);have yS:∀k∈Ln[j].bs,k ∉ cI S hv kv (.slice (some ⟨wB,0,none⟩) K.length wC) KV' WV/\k ∉ dK K':=λk hk=>h1.pn.fd k (n5 k hk);have jm:Ln.drop j=Ln[j]::Ln.drop (j+1):=drop_eq_getElem_cons aq;rw[jm,map_cons,foldl_cons]at h2;have pB:(dG c fuel n nd.nx Ln[j].f s').ok=true:=gE _ (by rw[h2];exact gE _ (uh kW));have aJ:onx≠[]:=λe=>by
      have h9:=congrArg List.length (uh HM).1;rw[e,length_map,length_nil]at h9;omega
     have hnn:=(uh oM).1 aJ;have jf:=h1.kl;have y4:=h3.cell 4 rfl;have YR:∀w' ,gf wr S c (.pointer (some ⟨Q,0,none⟩)) hv kv (.slice (some ⟨wB,0,none⟩) K.length wC) KV' WV K' Ln[j].bs (dG c fuel n nd.nx Ln[j].f s') w'->∃rU K2,Lp w w' S c (.pointer (some ⟨Q,0,none⟩)) hv kv (.slice (some ⟨wB,0,none⟩) K.length wC) KV WV K [] rU K2 (dG c fuel n nd.nx Ln[j].f s') (.slice (some ⟨g2,0,none⟩) Ln.length nc) Ln (j+1) (Y::O::a9 (.slice ta Lt.length tc) Lt)/\Bk w' Y 186 nd.cells/\Bk w' O 280 [.slice (some ⟨g2,0,none⟩) Ln.length nc,.slice ta Lt.length tc,.bool nu,.bool da,.bool fu]/\Fl w' 0 (.slice ta Lt.length tc) Lt:=λw' hP=>by
      obtain⟨rU,K2,q1,q2⟩:=h1.next aq hP;exact⟨rU,K2,q1,h3.of_eq (q2 Y (by simp)),h4.of_eq (q2 O (by simp)),h5.of_eq (λk hk=>q2 k (mem_cons_of_mem _ (mem_cons_of_mem _ hk)))⟩
     obtain⟨y,hy⟩:∃y,y=Ln[j]:=⟨_,rfl⟩;rw[<-hy]at aw n1 Oy yS h2 pB YR;have GW:y.p=.pointer (some ⟨y.A,0,none⟩):=rfl;rw[GW]at aw;have Rl:=ab (qx h1.sh n1 Oy yS (a:=n) (n:=nd.nx) (by omega) (by omega) (by omega) pB);have tC:=ab (zq2 YR h2);have k1:(0:Int)<=(j:Int):=(by omega);have k2:(j:Int)<(Ln.length:Int):=(by omega);clear h1 h2 h3 h4 h5 n1 n5 Oy yS jm pB aJ hnn jf YR hy GW hI;go_wp2_with fail
     refine(uh Rl).mono ?_;rintro e w6 ⟨rfl,hP⟩;obtain⟨rU,K2,q1,q2,q3,q4⟩:=(uh tC).1 w6 hP;have HN:=ab (zq2 q1 (zq2 (uh tC).2 (zq2 q2 (zq2 q3 q4))));clear hP q1 q2 q3 q4 Rl tC y4 aw;go_wp2_with fail
     go_roundg (G1-1)
     case rel=>exact⟨j+1,rU,K2,_,by omega,by go_num,HN⟩
     case measure=>omega
    .have jb:decide ((j:Int)<(Ln.length:Int))=false:=(by simp;omega);obtain⟨h1,h2,h3,h4,h5⟩:=uh hI;rw[drop_eq_nil_of_le (by omega)]at h2;have eW:s'=s3:=h2;subst eW;have o1:=h4.cell 1 rfl;have mV:Hid (Lp w wr S c (.pointer (some ⟨Q,0,none⟩)) hv kv (.slice (some ⟨wB,0,none⟩) K.length wC) KV WV K [] KV' K' s' (.slice ta Lt.length tc) Lt 0 [Y]/\((Lt.drop 0).map (·.f)).foldl (λs g=>dG c fuel n nd.ot g s) s'=oot.foldl (λs g=>dG c fuel n nd.ot g s) s'/\Bk wr Y 186 nd.cells):=ab ⟨h1.turn h5 (uh cK).2.2 (uh cK).1 (uh cK).2.1,by rw[drop_zero,(uh HM).2],h3⟩;clear h1 h2 h3 h4 h5 hI;go_wp2_with fail
     go_loopg [90] Lt.length (λgn iv wx=>∃(j:Nat) (rU:List Value) (K2:List (List En)) (s2:Sr),j+gn=Lt.length/\iv=.int .i64 j/\Hid (Lp w wx S c (.pointer (some ⟨Q,0,none⟩)) hv kv (.slice (some ⟨wB,0,none⟩) K.length wC) KV WV K [] rU K2 s2 (.slice ta Lt.length tc) Lt j [Y]/\((Lt.drop j).map (·.f)).foldl (λs g=>dG c fuel n nd.ot g s) s2=oot.foldl (λs g=>dG c fuel n nd.ot g s) s'/\Bk wx Y 186 nd.cells))
     case atStart=>exact⟨0,KV',K',s',by omega,rfl,mV⟩
     case round =>
      clear mV o1;obtain⟨i,rU,K2,sb,aq3,rfl,hI⟩:=hrel;obtain⟨G2,BF⟩:∃G2,G2=gk:=⟨_,rfl⟩;by_cases bI:i<Lt.length
      .have Wo:decide ((i:Int)<(Lt.length:Int))=true:=(by simp;omega);obtain⟨h1,h2,h3⟩:=uh hI;obtain⟨g2,cap2,cZ,aw⟩:=h1.pn.pe.cell bI;simp only[Value.slice.injEq,true_and]at cZ;obtain⟨rfl,rfl⟩:=cZ;obtain⟨n1,-,-,-,n5⟩:=h1.pn.pe.next bI;have Oy:=h1.pn.td _ (getElem_mem bI);have yS:∀k∈Lt[i].bs,k ∉ cI S hv kv (.slice (some ⟨wB,0,none⟩) K.length wC) rU WV/\k ∉ dK K2:=λk hk=>h1.pn.fd k (n5 k hk);have jm:Lt.drop i=Lt[i]::Lt.drop (i+1):=drop_eq_getElem_cons bI;rw[jm,map_cons,foldl_cons]at h2;have pB:(dG c fuel n nd.ot Lt[i].f sb).ok=true:=gE _ (by rw[h2];exact uh kW);have aJ:oot≠[]:=λe=>by
        have h9:=congrArg List.length (uh HM).2;rw[e,length_map,length_nil]at h9;omega
       have hnn:=(uh oM).2 aJ;have jf:=h1.kl;have y5:=h3.cell 5 rfl;have YR:∀w' ,gf wr S c (.pointer (some ⟨Q,0,none⟩)) hv kv (.slice (some ⟨wB,0,none⟩) K.length wC) rU WV K2 Lt[i].bs (dG c fuel n nd.ot Lt[i].f sb) w'->∃XS K3,Lp w w' S c (.pointer (some ⟨Q,0,none⟩)) hv kv (.slice (some ⟨wB,0,none⟩) K.length wC) KV WV K [] XS K3 (dG c fuel n nd.ot Lt[i].f sb) (.slice (some ⟨g2,0,none⟩) Lt.length tc) Lt (i+1) [Y]/\Bk w' Y 186 nd.cells:=λw' hP=>by
        obtain⟨XS,K3,q1,q2⟩:=h1.next bI hP;exact⟨XS,K3,q1,h3.of_eq (q2 Y (by simp))⟩
       obtain⟨y,hy⟩:∃y,y=Lt[i]:=⟨_,rfl⟩;rw[<-hy]at aw n1 Oy yS h2 pB YR;have GW:y.p=.pointer (some ⟨y.A,0,none⟩):=rfl;rw[GW]at aw;have Rl:=ab (qx h1.sh n1 Oy yS (a:=n) (n:=nd.ot) (by omega) (by omega) (by omega) pB);have tC:=ab (zq2 YR h2);have k1:(0:Int)<=(i:Int):=(by omega);have k2:(i:Int)<(Lt.length:Int):=(by omega);clear h1 h2 h3 n1 n5 Oy yS jm pB aJ hnn jf YR hy GW hI;go_wp2_with fail
       refine(uh Rl).mono ?_;rintro e w6 ⟨rfl,hP⟩;obtain⟨XS,K3,q1,q2⟩:=(uh tC).1 w6 hP;have HN:=ab (zq2 q1 (zq2 (uh tC).2 q2));clear hP q1 q2 Rl tC y5 aw;go_wp2_with fail
       go_roundg (G2-1)
       case rel=>exact⟨i+1,XS,K3,_,by omega,by go_num,HN⟩
       case measure=>omega
      .have Wo:decide ((i:Int)<(Lt.length:Int))=false:=(by simp;omega);have hP:dQ wr:=by
        obtain⟨h1,h2,h3⟩:=uh hI;rw[drop_eq_nil_of_le (by omega)]at h2;rw[uh fD,<-h2];exact h1.end'
       have HP:=ab hP;clear hP hI;go_wp2_with fail
       go_end0
       exact⟨rfl,uh HP⟩
end
theorem Fw(b:Bool)(n k:Nat)(s:Sr):(wrI b n k s).ok=s.ok:=by unfold wrI;split <;> rfl
theorem Qb{c:Cd}{fuel n:Nat}{f:CF}{s:Sr}(h:(nH c fuel n f s).ok=true):s.ok=true:=by
 unfold nH at h;simp only at h;have h1:=gE _ (gE _ h);have h2:(wrI (b8 (c.nds.getD n aS) f).da n 4 (wrI (b8 (c.nds.getD n aS) f).nu n 3 (wrI (decide ((c.nds.getD n aS).op=0)&&!decide (eY f=[])) n 2 s))).ok=true:=h1;rw[Fw,Fw,Fw]at h2;exact h2
theorem qc{c:Cd}{fuel n:Nat}:∀(l:List CF) {s:Sr},(lL c fuel n l s).ok=true->s.ok=true
 |[],_,h=>h
 |f::l,s,h=>by
  unfold lL at h;split at h
  .exact h
  .exact Qb (qc l h)
def En.dn(e:En):En:={ e with d:=true }
theorem En.dn_of{e:En}(h:e.d=true):e.dn=e:=by cases e;simp only at h;subst h;rfl
def eP(l:List En)(k:Nat):List En:=(l.take k).map En.dn++l.drop k
theorem cF(l:List En)(k:Nat):(eP l k).length=l.length:=by unfold eP;simp;omega
theorem Mz(l:List En):eP l 0=l:=rfl
theorem Sz{l:List En}{k:Nat}(h:l.length<=k):eP l k=l.map En.dn:=by unfold eP;rw[take_of_length_le h,drop_eq_nil_of_le h,append_nil]
theorem yA{l:List En}{k:Nat}(h:k<l.length):(eP l k)[k]?=some l[k]:=by
 unfold eP;rw[getElem?_append_right (by simp;omega),getElem?_drop];simp[Nat.min_eq_left (Nat.le_of_lt h),h]
theorem ph{l:List En}{k:Nat}(h:k<l.length):eP l (k+1)=(eP l k).set k l[k].dn:=by
 unfold eP;have e:((l.take k).map En.dn).length=k:=by simp;omega
 rw[set_append_right _ _ (by omega),e,Nat.sub_self,take_succ_eq_append_getElem h,map_append,drop_eq_getElem_cons h,set_cons_zero];simp
theorem My{l:List En}{k:Nat}(h:k<l.length)(hd:l[k].d=true):eP l (k+1)=eP l k:=by
 rw[ph h,En.dn_of hd];apply ext_getElem?;intro i;rw[getElem?_set];split
 .rename_i e;subst e;rw[if_pos (by rw[cF];exact h),yA h]
 .rfl
theorem Gi{l:List En}{k:Nat}{e:En}(h:e∈eP l k):∃e0∈l,e.bs=e0.bs/\(∀w,e0.ok w->e.ok w):=by
 unfold eP at h;rcases mem_append.1 h with h|h
 .obtain⟨e0,h0,rfl⟩:=mem_map.1 h;exact⟨e0,mem_of_mem_take h0,rfl,λw h=>h⟩
 .exact⟨e,mem_of_mem_drop h,rfl,λw h=>h⟩
theorem mo{α:Type}{l:List α}{d:α}{n:Nat}(h:n<l.length):l.set n (l.getD n d)=l:=by
 apply ext_getElem?;intro i;rw[getElem?_set];split
 .rename_i e;subst e;simp[h]
 .rfl
section
variable {w W:World} {S:Nat} {c:Cd} {c0 hv kv wv:Value} {KV WV:List Value} {K:List (List En)} {s:Sr} {n:Nat} {l:List En}
theorem Sh.done{k g cap:Nat}(h:Sh w S c c0 hv kv wv KV WV (K.set n (eP l k)) { s with kn:=s.kn.set n ((eP l k).map En.m) })(hn:n<K.length)(hk:k<l.length)(hg:KV.getD n aF=.slice (some ⟨g,0,none⟩) l.length cap):
  Sh (w.setCell ⟨g,k*2+1,none⟩ (.bool true)) S c c0 hv kv wv KV WV (K.set n (eP l (k+1))) { s with kn:=s.kn.set n ((eP l (k+1)).map En.m) }/\g∈cI S hv kv wv KV WV:=by
 have xt:(K.set n (eP l k)).length=K.length:=length_set;have hKV:=h.kvl;rw[xt]at hKV;have AE:(nF S hv kv wv KV WV)[4+n]?=some (some g):=by rw[ww (by omega),hg];rfl
 have vB:g∈cI S hv kv wv KV WV:=bL AE;have aR:=h.ke n (by rw[xt];exact hn);have e2:(K.set n (eP l k)).getD n []=eP l k:=by simp[hn]
 rw[e2,hg,cF]at aR;have aE:=(aR.stored (k*2+1) (.bool true)).1;have aw:(qm (eP l k)).set (k*2+1) (.bool true)=qm (eP l (k+1)):=by
  have h1:=Gj (L:=eP l k) (i:=k) (by rw[cF];exact hk) l[k].dn;rw[<-ph hk]at h1;rw[<-h1];congr 1;symm;apply ext_getElem?;intro i;rw[getElem?_set];split
  .rename_i e;subst e;have h3:=(pi (L:=eP l k) (i:=k) (by rw[cF];exact hk)).1;have h4:=yA hk;rw[getElem?_eq_getElem (by rw[cF];exact hk)]at h4;injection h4 with h4;rw[h4]at h3;rw[if_pos (by rw[SC,cF];omega),h3];rfl
  .rfl
 rw[aw]at aE;have qS:=h.put (n:=n) (by rw[xt];exact hn) (w':=w.setCell ⟨g,k*2+1,none⟩ (.bool true)) (v':=.slice (some ⟨g,0,none⟩) l.length cap) (l':=eP l (k+1)) (λi j _ h4 hi=>heap_setCell _ _ _ _ (λe=>h4 (by
   rw[show j=g from e]at hi;exact h.nd i _ g hi AE))) (by
   rw[xt,<-hg,mo (by omega)];refine ci (xt ▸ h.kr) (p:=⟨g,k*2+1,none⟩) (λe=>?_) _;have:=h.nd 2 (4+n) g (congrArg some e) AE;omega) (by rw[cF];exact aE) (λj hj=>zq0 (by rw[hg];exact hj)) (λj hj=>heap_setCell _ _ _ _ (λe=>h.da j hj (by rw[show j=g from e];exact vB))) (λe he=>by
   have cf:KV.set n (.slice (some ⟨g,0,none⟩) l.length cap)=KV:=(by rw[<-hg,mo (by omega)]);obtain⟨e0,h0,ua,ho0⟩:=Gi he;obtain⟨i,hi,NX⟩:=mem_iff_getElem.1 h0;have oj:∃e1∈eP l k,e1.bs=e0.bs/\(∀w',e1.ok w'->e0.ok w'):=by
    by_cases hik:i<k
    .refine⟨e0.dn,mem_append_left _ (mem_map_of_mem (mem_iff_getElem?.2 ⟨i,?_⟩)),rfl,λw' h=>h⟩;rw[getElem?_take,if_pos hik,getElem?_eq_getElem hi,NX]
    .refine⟨e0,mem_append_right _ (mem_iff_getElem?.2 ⟨i-k,?_⟩),rfl,λw' h=>h⟩;rw[getElem?_drop,show k+(i-k)=i by omega,getElem?_eq_getElem hi,NX]
   obtain⟨e1,h1,a7,ho1⟩:=oj;have hl:eP l k∈K.set n (eP l k):=mem_iff_getElem?.2 ⟨n,by rw[getElem?_set_self hn]⟩;have KS:∀j∈e.bs,j∈dK (K.set n (eP l k)):=λj hj=>bu.2 ⟨_,hl,e1,h1,by rw[a7,<-ua];exact hj⟩;refine⟨(ho0 w (ho1 w (h.dr _ hl e1 h1))).of_eq (λj hj=>heap_setCell _ _ _ _ (λe'=>h.da j (KS j hj) (by rw[show j=g from e'];exact vB))),λj hj hm=>?_⟩;rw[cf]at hm;exact h.da j (KS j hj) hm)
 have cf:KV.set n (.slice (some ⟨g,0,none⟩) l.length cap)=KV:=by rw[<-hg,mo (by omega)]
 rw[cf,set_set]at qS;refine⟨qS.as (s':={ s with kn:=s.kn.set n ((eP l (k+1)).map En.m) }) ?_ rfl rfl rfl rfl,vB⟩;show s.kn.set n _=(s.kn.set n _).set n _;rw[set_set]
theorem Bh(hl:l=K.getD n [])(hn:n<K.length)(k:Nat):∀j,j∈dK (K.set n (eP l k))↔j∈dK K:=by
 have hlK:l∈K:=by rw[hl,bD hn];exact getElem_mem hn
 intro j;constructor
 .intro hj;obtain⟨l2,h2,e,he,hj⟩:=bu.1 hj;rcases mem_or_eq_of_mem_set h2 with p|p
  .exact bu.2 ⟨l2,p,e,he,hj⟩
  .subst p;obtain⟨e0,h0,ua,-⟩:=Gi he;exact bu.2 ⟨l,hlK,e0,h0,by rw[<-ua];exact hj⟩
 .intro hj;obtain⟨l2,h2,e,he,hj⟩:=bu.1 hj;obtain⟨i,hi,NX⟩:=mem_iff_getElem.1 h2;by_cases oj:i=n
  .subst oj;have sP:l2=l:=(by rw[hl,bD hn];exact NX.symm);subst sP;obtain⟨q,hq,hqe⟩:=mem_iff_getElem.1 he;have hm:eP l2 k∈K.set i (eP l2 k):=mem_iff_getElem?.2 ⟨i,by rw[getElem?_set_self hi]⟩;by_cases hqk:q<k
   .refine bu.2 ⟨_,hm,e.dn,mem_append_left _ (mem_map_of_mem (mem_iff_getElem?.2 ⟨q,?_⟩)),hj⟩;rw[getElem?_take,if_pos hqk,getElem?_eq_getElem hq,hqe]
   .refine bu.2 ⟨_,hm,e,mem_append_right _ (mem_iff_getElem?.2 ⟨q-k,?_⟩),hj⟩;rw[getElem?_drop,show k+(q-k)=q by omega,getElem?_eq_getElem hq,hqe]
  .exact bu.2 ⟨l2,mem_iff_getElem?.2 ⟨i,by rw[getElem?_set_ne (λe=>oj e.symm),getElem?_eq_getElem hi,NX]⟩,e,he,hj⟩
end
