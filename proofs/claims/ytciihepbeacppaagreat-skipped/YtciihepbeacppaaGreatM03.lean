import Derived.Test.YtciihepbeacppaaGreatM02
set_option maxRecDepth 100000
set_option maxHeartbeats 0
namespace Go.Proofs.YtciihepbeacppaaGreat
open Tryz Go.RowKit List World Below
set_option linter.unusedVariables false
theorem aa5(l:List Nd):(bh l).length=l.length*6:=by
 induction l with
 |nil=>rfl
 |cons a r ih=>simp only[bh,flatMap_cons,length_append,length_cons]at *;rw[ih];simp[Nd.cells];omega
theorem wF(k n:Nat)(l:List Nd):bh (eg k n l)=(bh l).set (k*6+5) (.int .i64 n):=by
 induction l generalizing k with
 |nil=>simp[bh,eg]
 |cons a r ih =>
  cases k with
  |zero=>simp[bh,eg,Nd.cells]
  |succ k =>
   have:=ih k;simp only[bh,eg,modify_succ_cons,flatMap_cons]at *;rw[this,show(k+1)*6+5=(k*6+5)+a.cells.length by simp[Nd.cells];omega,set_append_right _ _ (by omega)];simp
theorem DK(k n:Nat)(l:List Nd):bh (gR k n l)=(bh l).set (k*6+4) (.int .i64 n):=by
 induction l generalizing k with
 |nil=>simp[bh,gR]
 |cons a r ih =>
  cases k with
  |zero=>simp[bh,gR,Nd.cells]
  |succ k =>
   have:=ih k;simp only[bh,gR,modify_succ_cons,flatMap_cons]at *;rw[this,show(k+1)*6+4=(k*6+4)+a.cells.length by simp[Nd.cells];omega,set_append_right _ _ (by omega)];simp
theorem VA{w:World}{B:Nat}{e:TypeId}{sz n g cap j:Nat}{xs:List Value}(h:w.ownsRow B e sz (.slice (some ⟨g,0,none⟩) n cap) n xs)(u:Value):
  (w.setCell ⟨g,j,none⟩ u).ownsRow B e sz (.slice (some ⟨g,0,none⟩) n cap) n (xs.set j u):=by
 refine⟨by simpa using h.1,?_⟩;rcases h.2 with⟨h0,_⟩|⟨g',cap',cur,hv,hB,hg,hn,hm,hs,ht⟩
 .cases h0
 .simp only[Value.slice.injEq,Option.some.injEq,Addr.mk.injEq]at hv;obtain⟨⟨rfl,_⟩,_,rfl⟩:=hv;refine .inr ⟨g,cap,cur.setIfInBounds j u,rfl,hB,yz hg u,hn,hm,by simpa using hs,?_⟩;rw[Array.toList_setIfInBounds,take_set,ht]
section
variable {B:Nat} {WV:Value} {w:World} {P:Nat} {ws:List ByteArray} {s:PS} {F:List Nat} {wv vv hv:Value} {g cap:Nat}
theorem dH.setNode(h:dH B WV w P ws s F wv vv hv (.slice (some ⟨g,0,none⟩) s.nodes.length cap))(j:Nat)(u:Value)(l:List Nd)(hl:bh l=(bh s.nodes).set j u)(yo:l.length=s.nodes.length):
  dH B WV (w.setCell ⟨g,j,none⟩ u) P ws { s with nodes:=l } F wv vv hv (.slice (some ⟨g,0,none⟩) s.nodes.length cap):=by
 have eJ:=h.apart;obtain⟨hP,hB,h1,h2,h3,h4,hF,hN⟩:=h;have hg:(Value.slice (some ⟨g,0,none⟩) s.nodes.length cap).ownBlock=some g:=rfl;have aH:∀k,k≠g->(w.setCell ⟨g,j,none⟩ u).heap[k]?=w.heap[k]?:=λk hk=>heap_setCell _ _ _ _ hk;have ho:=eJ.2.2.2 g hg;refine⟨by rw[aH P (λe=>eJ.1 g (by simp[hg]) e.symm)];exact hP,hB,ae h1 (λk hk=>aH k (λe=>ho.1 (by rw[<-e];exact hk))),ae h2 (λk hk=>aH k (λe=>ho.2.1 (by rw[<-e];exact hk))),
  ae h3 (λk hk=>aH k (λe=>ho.2.2 (by rw[<-e];exact hk))),?_,hF,hN⟩
 exact iP (w:=w.setCell ⟨g,j,none⟩ u) (by have:=VA h4 (j:=j) u;exact this) yo hl
theorem dH.nodeCell(h:dH B WV w P ws s F wv vv hv (.slice (some ⟨g,0,none⟩) s.nodes.length cap))(j:Nat)(hj:j<s.nodes.length*6):(∃v,w.cell? ⟨g,j,none⟩=some v/\v∈bh s.nodes)/\w.frozen? ⟨g,j,none⟩=false:=by
 obtain⟨hP,hB,h1,h2,h3,h4,hF,hN⟩:=h;have hl:j<(bh s.nodes).length:=by rw[aa5];exact hj
 constructor
 .have:=h4.cells (g:=g) rfl j _ (getElem?_eq_getElem hl);rw[show(⟨g,0,none⟩:Addr).add j=⟨g,j,none⟩ by unfold Addr.add;split <;> simp_all]at this;exact⟨_,this,getElem_mem _⟩
 .rcases h4.2 with⟨h0,_⟩|⟨g',cap',cur,hv,hB,hg,hn,hm,hs,ht⟩
  .cases h0
  .simp only[Value.slice.injEq,Option.some.injEq,Addr.mk.injEq]at hv;obtain⟨⟨rfl,_⟩,_,rfl⟩:=hv;simp[World.frozen?,hg]
theorem jU{l:List Nd}{v:Value}(h:v∈bh l):∃n:Int,v=.int .i64 n:=by
 simp only[bh,mem_flatMap,Nd.cells]at h;obtain⟨a,_,h⟩:=h;simp at h;rcases h with h|h|h|h|h|h <;> exact⟨_,h⟩
end
def GX(B:Nat)(WV:Value)(P:Nat)(ws:List ByteArray)(blk:PS->PS)(f:Nat):Prop :=
 ∀(w:World) (s:PS) (F:List Nat),fh B WV w P ws s F->(s.failed=false->ws.length<f+s.pos)->s.nodes.length+2*ws.length<=60000+2*s.pos ->
  Calls prog 122 #[.pointer (some ⟨P,0,none⟩)] w λe w'=>e=.returned (.tuple #[])/\∃F',fh B WV w' P ws (blk s) F'/\ar F w F' w'
section
variable {B:Nat} {WV:Value} {w:World} {P:Nat} {ws:List ByteArray} {s:PS} {F:List Nat} {wv vv hv:Value} {g cap:Nat}
theorem Hf(h:fh B WV w P ws s F)(hn:s.nodes.length<=100000):
  Calls prog 123 #[.pointer (some ⟨P,0,none⟩),.agg #[.int .i64 10,.int .i64 0,.int .i64 0,.int .i64 0,.int .i64 0,.int .i64 0]] w λe w'=>e=.returned (.int .i64 s.nodes.length)/\∃F',fh B WV w' P ws (cg iL s) F'/\ar F w F' w' :=
 tX iL h hn
theorem dH.inF{w0:World}{F0:List Nat}{n:Nat}{j:Nat}(h:dH B WV w P ws s F wv vv hv (.slice (some ⟨g,0,none⟩) n cap))(hS:ar F0 w0 F w):(⟨g,j,none⟩:Addr).block∈F0\/w0.heap.size<=(⟨g,j,none⟩:Addr).block :=
 hS.foot g (by rw[h.2.2.2.2.2.2.1];simp[Value.ownBlock])
theorem fh.nodesAt(h:fh B WV w P ws s F)(hn:0<s.nodes.length):∃wv vv hv g cap,dH B WV w P ws s F wv vv hv (.slice (some ⟨g,0,none⟩) s.nodes.length cap):=by
 obtain⟨wv,vv,hv,nv,ew⟩:=h.m.named;rcases ew.2.2.2.2.2.1.2 with⟨_,h0⟩|⟨g,cap,cur,rfl,_⟩
 .omega
 .exact⟨wv,vv,hv,g,cap,ew⟩
theorem Qb{blk:PS->PS}{f:Nat}(cB:GX B WV P ws blk f)(gd:ME blk)(hb:bK ws bO s=true)(dX:ws.length<f+1+s.pos)(tM:s.nodes.length+2*ws.length<=60000+2*s.pos)(h:fh B WV w P ws s F):
  Calls prog 187 #[.pointer (some ⟨P,0,none⟩)] w λe w'=>e=.returned (.tuple #[])/\∃F',fh B WV w' P ws (xV blk ws s) F'/\ar F w F' w':=by
 have HQ:=ab h;have hp0:=h.f.2.1;clear h;have HE:Hid (aF ws bO s=s.adv):=ab (if_pos hb);have UI:s.adv.pos=s.pos+1:=rfl;have hna:s.adv.nodes.length=s.nodes.length:=rfl;have hts:=uN (ws:=ws) (s:=s.adv);have XJ:=oJ (ws:=ws) (s:=s.adv);have h1:=gd.pos (gz ws s.adv);have h2:=gd.nodes (gz ws s.adv);have h3:=gd.phi (gz ws s.adv);have h4:=yX (blk (gz ws s.adv));have B4:Hid (ny blk ws s=blk (gz ws s.adv)):=ab (by unfold ny;rw[uh HE]);have MG:=ab cB;clear cB hb;go_enter func187,ntmps187;go_wp2_with fail
 refine(aZ bO (by decide) (uh HQ)).mono ?_;rintro e w1 ⟨rfl,dV,bT⟩;rw[uh HE]at dV;have fG:=ab dV;have cH:=ab bT;clear dV bT;go_wp2_with fail
 refine(xx (s:=s.adv) (by omega) (uh fG)).mono ?_;rintro e w2 ⟨rfl,F2,cd,bY⟩;have eo:=ab cd;have dg:=ab ((uh cH).trans bY);clear cd bY;go_wp2_with fail
 refine(uh MG _ _ _ (uh eo) (λ_=>by omega) (by omega)).mono ?_;rintro e w3 ⟨rfl,F3,fS,cR⟩;have iY:=ab fS;have iT:=ab ((uh dg).trans cR);clear fS cR;have hp3:=(uh iY).f.2.1;go_wp2_with fail
 refine(Hf (uh iY) (by omega)).mono ?_;rintro e w4 ⟨rfl,F4,mw,fD⟩;have oM:=ab mw;have mE:=ab ((uh iT).trans fD);clear mw fD;obtain⟨z,hz⟩:∃z,z=blk (gz ws s.adv):=⟨_,rfl⟩;rw[<-hz]at oM h1 h2 h3 h4 B4 ⊢;clear hz;have hzn:(cg iL z).nodes.length=z.nodes.length+1:=by simp[cg]
 obtain⟨wv,vv,hv,g,cap,ew⟩:=(uh oM).nodesAt (by omega);obtain⟨_,_,_,_,c5,_⟩:=ew.readsV;obtain⟨⟨v4,IJ,EG⟩,f4⟩:=ew.nodeCell (z.nodes.length*6+4) (by omega);obtain⟨x4,rfl⟩:=jU EG;rw[hzn]at c5;have x8:=ab ew;clear ew EG;go_wp2_with fail
 have FX:=(uh x8).setNode (z.nodes.length*6+4) (.int .i64 (s.nodes.length:Int)) (gR z.nodes.length s.nodes.length (cg iL z).nodes) (DK _ _ _) (du _ _ _);have AI:=(uh mE).setCell (p:=⟨g,z.nodes.length*6+4,none⟩) (w:=w4) ((uh x8).inF (uh mE)) (.int .i64 (s.nodes.length:Int));generalize w4.setCell ⟨g,z.nodes.length*6+4,none⟩ (.int .i64 (s.nodes.length:Int))=w5 at FX AI ⊢;clear c5 IJ f4;obtain⟨y,hy⟩:∃y:PS,y={ cg iL z with nodes:=gR z.nodes.length s.nodes.length (cg iL z).nodes }:=⟨_,rfl⟩;have hyn:y.nodes.length=z.nodes.length+1:=by rw[hy];simp[du,cg]
 rw[<-hy]at FX;have HY:=ab hy;clear hy;rw[show(cg iL z).nodes.length=y.nodes.length by rw[hyn,hzn]]at FX;obtain⟨_,_,_,_,c5,_⟩:=FX.readsV;obtain⟨⟨v5,hv5,hm5⟩,f5⟩:=FX.nodeCell (s.nodes.length*6+5) (by omega);obtain⟨x5,rfl⟩:=jU hm5;have aea:=ab FX;have aeh:=ab AI;clear FX AI hm5;rw[hyn]at c5;go_region
 go_end0
 have K8:=(uh aea).setNode (s.nodes.length*6+5) (.int .i64 ((z.nodes.length:Int)+1)) (eg s.nodes.length (z.nodes.length+1) y.nodes) (wF _ _ _) (bR _ _ _);have vT:xV blk ws s={ y with nodes:=eg s.nodes.length (z.nodes.length+1) y.nodes }:=by unfold xV;rw[uh B4,uh HY,hzn]
 have FL:Ei ws (xV blk ws s):=by rw[vT,uh HY];exact(uh oM).f
 exact⟨rfl,F4,⟨by rw[vT];exact K8.is.drew,FL⟩,((uh aeh).setCell (p:=⟨g,s.nodes.length*6+5,none⟩) ((uh aea).inF (uh aeh)) _).drew⟩
end
section
variable {B:Nat} {WV:Value} {w:World} {P:Nat} {ws:List ByteArray} {s:PS} {F:List Nat} {wv vv hv:Value} {g cap:Nat}
theorem Fb{blk:PS->PS}{f:Nat}(cB:GX B WV P ws blk f)(gd:ME blk)(hb:bK ws mc s=true)(dX:ws.length<f+1+s.pos)(tM:s.nodes.length+2*ws.length<=60000+2*s.pos)(h:fh B WV w P ws s F):
  Calls prog 186 #[.pointer (some ⟨P,0,none⟩)] w λe w'=>e=.returned (.tuple #[])/\∃F',fh B WV w' P ws (pN blk ws s) F'/\ar F w F' w':=by
 have HQ:=ab h;have hp0:=h.f.2.1;clear h;have HE:Hid (aF ws mc s=s.adv):=ab (if_pos hb);have UI:s.adv.pos=s.pos+1:=rfl;have hna:s.adv.nodes.length=s.nodes.length:=rfl;have hts:=uN (ws:=ws) (s:=s.adv);have XJ:=oJ (ws:=ws) (s:=s.adv);have h1:=gd.pos (gz ws s.adv);have h2:=gd.nodes (gz ws s.adv);have h3:=gd.phi (gz ws s.adv);have B4:Hid (cI blk ws s=blk (gz ws s.adv)):=ab (by unfold cI;rw[uh HE]);have MG:=ab cB;have HGD:=ab gd;clear cB hb gd;obtain⟨z,hz⟩:∃z,z=blk (gz ws s.adv):=⟨_,rfl⟩;rw[<-hz]at h1 h2 h3 B4;have HZ:=ab hz;clear hz;cases he:bK ws iN z with
 |false =>
  have yD:Hid (lV ws iN z=z):=ab (if_neg (by simp[he]));have HS:Hid (pN blk ws s={ z with nodes:=eg s.nodes.length z.nodes.length z.nodes }):=ab (by unfold pN;rw[uh B4,he];rfl);have eO:=ab he;clear he;go_enter func186,ntmps186;go_wp2_with fail
  refine(aZ mc (by decide) (uh HQ)).mono ?_;rintro e w1 ⟨rfl,dV,bT⟩;rw[uh HE]at dV;have fG:=ab dV;have cH:=ab bT;clear dV bT;go_wp2_with fail
  refine(xx (s:=s.adv) (by omega) (uh fG)).mono ?_;rintro e w2 ⟨rfl,F2,cd,bY⟩;have eo:=ab cd;have dg:=ab ((uh cH).trans bY);clear cd bY;go_wp2_with fail
  refine(uh MG _ _ _ (uh eo) (λ_=>by omega) (by omega)).mono ?_;rintro e w3 ⟨rfl,F3,fS,cR⟩;have iY:=ab fS;have iT:=ab ((uh dg).trans cR);clear fS cR;rw[<-uh HZ]at iY;have hp3:=(uh iY).f.2.1;have xX:=aA iN (by decide) (uh iY);rw[uh eO,uh yD]at xX;replace xX:=ab xX
  go_wp2_with fail
  refine(uh xX).mono ?_;rintro e w4 ⟨rfl,mw,fD⟩;have oM:=ab mw;have mE:=ab ((uh iT).trans fD);clear mw fD;obtain⟨wv,vv,hv,g,cap,ew⟩:=(uh oM).nodesAt (by omega);obtain⟨_,_,_,_,c5,_⟩:=ew.readsV;obtain⟨⟨v4,IJ,EG⟩,f4⟩:=ew.nodeCell (s.nodes.length*6+5) (by omega);obtain⟨x4,rfl⟩:=jU EG;have x8:=ab ew;clear ew EG;have hfb:=yX z;go_wp2_with fail
  go_region
  go_wp2_with fail
  refine bodyPost_ret (results_none rfl _ _ _) rfl ?_;have K8:=(uh x8).setNode (s.nodes.length*6+5) (.int .i64 (z.nodes.length:Int)) (eg s.nodes.length z.nodes.length z.nodes) (wF _ _ _) (bR _ _ _);exact⟨rfl,F3,⟨by rw[uh HS];exact K8.is.drew,by rw[uh HS];exact(uh oM).f⟩,((uh mE).setCell (p:=⟨g,s.nodes.length*6+5,none⟩) ((uh x8).inF (uh mE)) _).drew⟩
 |true =>
  have yD:Hid (lV ws iN z=z.adv):=ab (if_pos he);have HS:Hid (pN blk ws s=Nn z.nodes.length (blk (lP s.nodes.length z))):=ab (by unfold pN;rw[uh B4,he];rfl);have hfz:fb z=0:=yY (zA (ws:=ws) (s:=z) (by rw[jh he];decide)).1;have eO:=ab he;clear he;have hza:z.adv.pos=z.pos+1:=rfl;have hzl:z.adv.nodes.length=z.nodes.length:=rfl;have hbp:(lP s.nodes.length z).pos=z.pos+1:=rfl;have cK:(lP s.nodes.length z).nodes.length=z.nodes.length+1:=by simp[lP,bR,cg,PS.adv]
  have k2:=(uh HGD).nodes (lP s.nodes.length z);have k3:=(uh HGD).phi (lP s.nodes.length z);have k4:=yX (blk (lP s.nodes.length z));go_enter func186,ntmps186;go_wp2_with fail
  refine(aZ mc (by decide) (uh HQ)).mono ?_;rintro e w1 ⟨rfl,dV,bT⟩;rw[uh HE]at dV;have fG:=ab dV;have cH:=ab bT;clear dV bT;go_wp2_with fail
  refine(xx (s:=s.adv) (by omega) (uh fG)).mono ?_;rintro e w2 ⟨rfl,F2,cd,bY⟩;have eo:=ab cd;have dg:=ab ((uh cH).trans bY);clear cd bY;go_wp2_with fail
  refine(uh MG _ _ _ (uh eo) (λ_=>by omega) (by omega)).mono ?_;rintro e w3 ⟨rfl,F3,fS,cR⟩;have iY:=ab fS;have iT:=ab ((uh dg).trans cR);clear fS cR;rw[<-uh HZ]at iY;have hp3:=(uh iY).f.2.1;have xX:=aA iN (by decide) (uh iY);rw[uh eO,uh yD]at xX;replace xX:=ab xX
  go_wp2_with fail
  refine(uh xX).mono ?_;rintro e w4 ⟨rfl,mw,fD⟩;have oM:=ab mw;have mE:=ab ((uh iT).trans fD);clear mw fD;go_wp2_with fail
  refine(Hf (uh oM) (by omega)).mono ?_;rintro e w5 ⟨rfl,F5,sd,gg⟩;have G9:=ab sd;have tB:=ab ((uh mE).trans gg);clear sd gg;have hyn:(cg iL z.adv).nodes.length=z.nodes.length+1:=by simp[cg,PS.adv]
  obtain⟨wv,vv,hv,g,cap,ew⟩:=(uh G9).nodesAt (by omega);obtain⟨_,_,_,_,c5,_⟩:=ew.readsV;obtain⟨⟨v4,IJ,EG⟩,f4⟩:=ew.nodeCell (s.nodes.length*6+5) (by omega);obtain⟨x4,rfl⟩:=jU EG;rw[hyn]at c5;have x8:=ab ew;clear ew EG;go_wp2_with fail
  go_region
  go_wp2_with fail
  have K8:=(uh x8).setNode (s.nodes.length*6+5) (.int .i64 ((z.nodes.length:Int)+1)) (eg s.nodes.length (cg iL z.adv).nodes.length (cg iL z.adv).nodes) (by rw[wF,hyn];rfl) (bR _ _ _);have HQ6:Hid (fh B WV ((w5.setCell ⟨g,s.nodes.length*6+5,none⟩ (.int .i64 ((z.nodes.length:Int)+1))).drew) P ws (lP s.nodes.length z) F5):=ab ⟨K8.is.drew,(uh G9).f⟩;have HS6:Hid (ar F w F5 ((w5.setCell ⟨g,s.nodes.length*6+5,none⟩ (.int .i64 ((z.nodes.length:Int)+1))).drew)):=ab ((uh tB).setCell (p:=⟨g,s.nodes.length*6+5,none⟩) ((uh x8).inF (uh tB)) _).drew;clear K8 c5 IJ f4;generalize (w5.setCell ⟨g,s.nodes.length*6+5,none⟩ (.int .i64 ((z.nodes.length:Int)+1))).drew=w6 at HQ6 HS6 ⊢;refine(uh MG _ _ _ (uh HQ6) (λ_=>by omega) (by omega)).mono ?_;rintro e w7 ⟨rfl,F7,hI7,Ew⟩;have HI7:=ab hI7;have WK:=ab ((uh HS6).trans Ew);have hp7:=hI7.f.2.1;clear hI7 Ew;obtain⟨y,hy⟩:∃y,y=blk (lP s.nodes.length z):=⟨_,rfl⟩;rw[<-hy]at HI7 k2 k3 k4 hp7 HS;clear hy;obtain⟨wv,vv,hv,g2,cap2,ew⟩:=(uh HI7).nodesAt (by omega);obtain⟨_,_,_,_,c5,_⟩:=ew.readsV;obtain⟨⟨v4,IJ,EG⟩,f4⟩:=ew.nodeCell (z.nodes.length*6+4) (by omega);obtain⟨x4,rfl⟩:=jU EG;have aeb:=ab ew;clear ew EG;go_wp2_with fail
  go_region
  go_end0
  have alV:=(uh aeb).setNode (z.nodes.length*6+4) (.int .i64 (y.nodes.length:Int)) (gR z.nodes.length y.nodes.length y.nodes) (DK _ _ _) (du _ _ _);exact⟨rfl,F7,⟨by rw[uh HS];exact alV.is.drew,by rw[uh HS];exact(uh HI7).f⟩,((uh WK).setCell (p:=⟨g2,z.nodes.length*6+4,none⟩) ((uh aeb).inF (uh WK)) _).drew⟩
theorem CN{blk:PS->PS}{f:Nat}(cB:GX B WV P ws blk f)(gd:ME blk)(dX:ws.length<f+1+s.pos)(tM:s.nodes.length+2*ws.length<=60000+2*s.pos)(h:fh B WV w P ws s F):
  Calls prog 161 #[.pointer (some ⟨P,0,none⟩)] w λe w'=>e=.returned (.tuple #[])/\∃F',fh B WV w' P ws (kw blk ws s) F'/\ar F w F' w':=by
 have HQ:=ab h;have hp0:=h.f.2.1;have HK:=ab (lC h);clear h;cases hb:bK ws mc s with
 |true =>
  have HS:Hid (kw blk ws s=pN blk ws s):=ab (if_pos hb);have xN:((pk ws s).toList==mc.toList)=true:=hb;have yC:=λn=>ab (Fb (w:=w.drewN n) cB gd hb dX tM ⟨(uh HQ).m.drewN n,(uh HQ).f⟩);rw[show mc.toList=[105,102] from (ByteArray.toList_eq _)]at xN;clear hb cB gd;go_enter func161,ntmps161;go_wp2_with (first|(go_at_call 160;refine(uh HK).mono ?_;rintro e w' ⟨rfl,n,rfl⟩)|(go_at_call 186;refine(uh (yC n)).mono ?_;rintro e w2 ⟨rfl,F2,cd,bY⟩))
  go_end0
  exact⟨rfl,F2,by rw[uh HS];exact cd,((ar.refl F w).drewN n).trans bY⟩
 |false =>
  have xN:((pk ws s).toList==mc.toList)=false:=hb;rw[show mc.toList=[105,102] from (ByteArray.toList_eq _)]at xN;cases aW:bK ws bO s with
  |true =>
   have HS:Hid (kw blk ws s=xV blk ws s):=ab (by unfold kw;rw[hb,aW];rfl);have Z0:((pk ws s).toList==bO.toList)=true:=aW;have yC:=λn=>ab (Qb (w:=w.drewN n) cB gd aW dX tM ⟨(uh HQ).m.drewN n,(uh HQ).f⟩);rw[show bO.toList=[119,104,105,108,101] from (ByteArray.toList_eq _)]at Z0;clear hb aW cB gd;go_enter func161,ntmps161;go_wp2_with (first|(go_at_call 160;refine(uh HK).mono ?_;rintro e w' ⟨rfl,n,rfl⟩)|(go_at_call 187;refine(uh (yC n)).mono ?_;rintro e w2 ⟨rfl,F2,cd,bY⟩))
   go_end0
   exact⟨rfl,F2,by rw[uh HS];exact cd,((ar.refl F w).drewN n).trans bY⟩
  |false =>
   have HS:Hid (kw blk ws s=rJ ws s):=ab (by unfold kw;rw[hb,aW];rfl);have Z0:((pk ws s).toList==bO.toList)=false:=aW;rw[show bO.toList=[119,104,105,108,101] from (ByteArray.toList_eq _)]at Z0;clear hb aW cB gd;go_enter func161,ntmps161;go_wp2_with (go_at_call 160;refine(uh HK).mono ?_;rintro e w' ⟨rfl,n,rfl⟩)
   refine(GJ (w:=w.drewN n) ⟨(uh HQ).m.drewN n,(uh HQ).f⟩).mono ?_;rintro e w1 ⟨rfl,F1,dV,bT⟩;have fG:=ab dV;have cH:=ab (((ar.refl F w).drewN n).trans bT);clear dV bT;obtain⟨A0,Ch⟩:∃A0,A0=kM ws s:=⟨_,rfl⟩;have HA0:=ab Ch;rw[<-Ch];clear Ch;obtain⟨n0,n1,n2,n3,n4,n5⟩:=A0;simp only[Nd.cells];go_wp2_with fail
   refine(aZ jb (by decide) ((uh fG).alloc _)).mono ?_;rintro e w2 ⟨rfl,cd,bY⟩;obtain⟨aW,xS,ym⟩:=bG (uh fG).m bY;obtain⟨⟨q0,q1,q2,q3,q4,q5⟩,_⟩:=gF aW;have FH:=tX ⟨n0,n1,n2,n3,n4,n5⟩ cd (by rw[bn,zL];omega);simp only[Nd.cells]at FH;have Ya:=ab FH;have dg:=ab ((uh cH).trans (((ar.refl F1 w1).alloc _).trans bY));clear FH cd bY aW;go_wp2_with fail
   refine(uh Ya).mono ?_;rintro e w3 ⟨rfl,F3,fS,cR⟩;have iY:=ab fS;have iT:=ab ((uh dg).trans cR);clear fS cR;go_wp2_with fail
   go_end0
   refine⟨rfl,F3,?_,uh iT⟩;rw[uh HS];unfold rJ;rw[<-uh HA0];exact uh iY
end
theorem vB{ws:List ByteArray}{c:PS->PS}(n:Nat){s:PS}(h:(s.failed||bK ws k6 s)=true):jg c ws n s=s:=by
 cases n with
 |zero=>rfl
 |succ n=>simp only[jg];rw[if_pos h]
theorem Y5{ws:List ByteArray}{c:PS->PS}(n:Nat){s:PS}(h:(s.failed||bK ws k6 s)=false):jg c ws (n+1) s=jg c ws n (c s):=by
 simp only[jg];rw[if_neg (by simp[h])]
theorem vF{ws:List ByteArray}{k:ByteArray}{s:PS}(hk:k.size≠0)(h:s.failed=true):aF ws k s=s:=by
 unfold aF;rw[vn k hk h];obtain⟨a,b,c,d,e⟩:=s;simp only at h;subst h;rfl
section
variable {B:Nat} {WV:Value} {w:World} {P:Nat} {ws:List ByteArray} {s:PS} {F:List Nat} {wv vv hv:Value} {g cap:Nat}
theorem vu {c:PS->PS} {n:Nat}
  (afI:∀(w:World) (st:PS) (F:List Nat),fh B WV w P ws st F->st.failed=false->ws.length<n+st.pos->st.nodes.length+2*ws.length<=60000+2*st.pos ->
   Calls prog 161 #[.pointer (some ⟨P,0,none⟩)] w λe w'=>e=.returned (.tuple #[])/\∃F',fh B WV w' P ws (c st) F'/\ar F w F' w')
  (hc:∀s,s.pos<=(c s).pos/\((c s).failed=false->s.pos<(c s).pos)/\(c s).nodes.length+2*s.pos<=s.nodes.length+2*(c s).pos+fb (c s))
  (dX:s.failed=false->ws.length<n+s.pos) (tM:s.nodes.length+2*ws.length<=60000+2*s.pos) (h:fh B WV w P ws s F) :
  Calls prog 122 #[.pointer (some ⟨P,0,none⟩)] w λe w'=>e=.returned (.tuple #[])/\∃F',fh B WV w' P ws (aF ws k6 (jg c ws (ws.length+2) (aF ws mB s))) F'/\ar F w F' w':=by
 have HQ:=ab h;clear h;have ajs:=ab afI;have HC:=ab hc;have HFU:=ab dX;clear afI hc dX;have e1:=cn (ws:=ws) (s:=s) mB;have e2:(aF ws mB s).nodes.length=s.nodes.length:=by rw[bn]
 have HE3:Hid ((aF ws mB s).failed=false->ws.length<n+(aF ws mB s).pos):=ab (λh=>by have:=uh HFU (jH _ h).2.1;omega);go_enter func122,ntmps122;go_wp2_with fail
 refine(aZ mB (by decide) (uh HQ)).mono ?_;rintro e w1 ⟨rfl,dV,bT⟩;have fG:=ab dV;have cH:=ab bT;clear dV bT;go_wp2_with fail
 go_loopg [4] (ws.length+2) (λm _ wr=>∃(st:PS) (F2:List Nat),fh B WV wr P ws st F2/\ar F w F2 wr/\(aF ws mB s).pos<=st.pos /\
  Hid (jg c ws (ws.length+2) (aF ws mB s)=jg c ws m st)/\Hid (st.failed=false->ws.length<n+st.pos/\ws.length<m+st.pos/\st.nodes.length+2*ws.length<=60000+2*st.pos))
 case atStart =>
  exact⟨aF ws mB s,F,uh fG,uh cH,zq4 _,rfl,λh=>⟨uh HE3 h,by omega,by omega⟩⟩
 case round =>
  obtain⟨st,F2,hI,hS,aat,Xu,bm⟩:=hrel;have HI:=ab hI;have HS:=ab hS;obtain⟨c1,c2,_,_⟩:=hI.m.reads;have HK:=ab (lC hI);clear hI hS c1;cases hf:st.failed with
  |true =>
   rw[hf]at c2;have HEQ:Hid (jg c ws (ws.length+2) (aF ws mB s)=st):=ab (by rw[uh Xu];exact vB _ (by simp[hf]));clear hf Xu bm;go_wp2_with fail
   refine(aZ k6 (by decide) (uh HI)).mono ?_;rintro e w2 ⟨rfl,cd,bY⟩;have eo:=ab cd;have dg:=ab ((uh HS).trans bY);clear cd bY;go_wp2_with fail
   go_end0
   exact⟨rfl,F2,by rw[uh HEQ];exact uh eo,uh dg⟩
  |false =>
   rw[hf]at c2;cases hb:bK ws k6 st with
   |true =>
    have xN:((pk ws st).toList==k6.toList)=true:=hb;rw[show k6.toList=[125] from (ByteArray.toList_eq _)]at xN;have HEQ:Hid (jg c ws (ws.length+2) (aF ws mB s)=st):=ab (by rw[uh Xu];exact vB _ (by simp[hb]));clear hf hb Xu bm;go_wp2_with (go_at_call 160;refine(uh HK).mono ?_;rintro e w' ⟨rfl,nn,rfl⟩)
    refine(aZ k6 (by decide) (w:=wr.drewN nn) ⟨(uh HI).m.drewN nn,(uh HI).f⟩).mono ?_;rintro e w2 ⟨rfl,cd,bY⟩;have eo:=ab cd;have dg:=ab (((uh HS).drewN nn).trans bY);clear cd bY;go_wp2_with fail
    go_end0
    exact⟨rfl,F2,by rw[uh HEQ];exact uh eo,uh dg⟩
   |false =>
    have xN:((pk ws st).toList==k6.toList)=false:=hb;rw[show k6.toList=[125] from (ByteArray.toList_eq _)]at xN;obtain⟨o1,o2,o3⟩:=uh bm hf;have hps:=(uh HI).f.2.1;obtain⟨m,rfl⟩:∃m,gk=m+1:=⟨gk-1,by omega⟩;have HEQ:Hid (jg c ws (ws.length+2) (aF ws mB s)=jg c ws m (c st)):=ab (by rw[uh Xu];exact Y5 _ (by simp[hb,hf]));have HF:=ab hf;clear hf hb Xu bm;go_wp2_with (go_at_call 160;refine(uh HK).mono ?_;rintro e w' ⟨rfl,nn,rfl⟩)
    refine(uh ajs (wr.drewN nn) st F2 ⟨(uh HI).m.drewN nn,(uh HI).f⟩ (uh HF) o1 o3).mono ?_;rintro e w2 ⟨rfl,F3,cd,bY⟩;have eo:=ab cd;have dg:=ab (((uh HS).drewN nn).trans bY);clear cd bY;go_wp2_with fail
    obtain⟨d1,d2,d3⟩:=uh HC st;go_roundg m
    case measure=>omega
    case rel =>
     refine⟨c st,F3,uh eo,uh dg,by omega,uh HEQ,λhcf=>?_⟩;have:=d2 hcf;rw[yY hcf]at d3;exact⟨by omega,by omega,by omega⟩
theorem Nm(f:Nat):GX B WV P ws (cL ws f) f:=by
 induction f with
 |zero =>
  intro w s F h dX tM;have hps:=h.f.2.1;have hf:s.failed=true:=by
   cases hf:s.failed with
   |true=>rfl
   |false=>have:=dX hf;omega
  have hw:=vu (c:=PS.adv) (n:=0) (B:=B) (P:=P) (ws:=ws) (s:=s) (F:=F) (w:=w) (λ_ st _ hi _ au _=>by have:=hi.f.2.1;omega) (λs=>⟨di,λ_=>Nat.lt_succ_self _,by show s.nodes.length+2*s.pos<=s.nodes.length+2*(s.pos+1)+_;omega⟩) dX tM h;rw[vF (by decide) hf,vB _ (by simp[hf]),vF (by decide) hf]at hw;exact hw
 |succ f ih =>
  intro w s F h dX tM;exact vu (n:=f+1) (λw st F hi _ au hph=>CN ih (jC f) au hph hi) (λs=>⟨(jE (jC f)).1,λh=>((jE (jC f)).2.2.1 h).2,(jE (jC f)).2.2.2⟩) dX tM h
end
def fO:ByteArray:=⟨#[112,114,101]⟩
def jT:Nd:=⟨0,0,0,0,0,0⟩
def Zm(ws:List ByteArray)(s:PS):PS:=if s.pos=ws.length then s else s.fail
def EO(ws:List ByteArray)(s:PS):PS:=cg jT (cL ws (ws.length+1) (rG ws (aF ws fO s)))
def fy(ws:List ByteArray)(s:PS):PS:=if (EO ws s).pos=ws.length then EO ws s else (EO ws s).fail
def mC(ws:List ByteArray)(s:PS):List ci:=foA ws (aF ws fO s)
section
variable {B:Nat} {WV:Value} {w:World} {P:Nat} {ws:List ByteArray} {s:PS} {F:List Nat} {wv vv hv nv:Value} {g cap:Nat}
theorem Lj:(Be ws s).nodes=s.nodes:=by unfold Be pY qZ;rw[bn,oI,bn,oI,bn]
theorem GD:(fA ws s).nodes=s.nodes:=by unfold fA;split;rfl;split;rfl;exact bn _
theorem yO:(eI ws s).nodes=s.nodes:=by
 unfold eI;split;rfl;split
 .rw[Lj];rfl
 .rw[oI,GD,oI]
theorem Kq(n:Nat):∀s,(jj ws n s).2.nodes=s.nodes:=by
 induction n with
 |zero=>intro s;rfl
 |succ n ih =>
  intro s;simp only[jj];split
  .show(jj ws n (eI ws s.adv)).2.nodes=s.nodes;rw[ih,yO];rfl
  .rfl
theorem zb:(rG ws s).nodes=s.nodes:=by unfold rG;rw[Kq,yO]
theorem Tq(h:fh B WV w P ws s F)(hn:s.nodes.length<=100000):
  Calls prog 123 #[.pointer (some ⟨P,0,none⟩),.agg #[.int .i64 0,.int .i64 0,.int .i64 0,.int .i64 0,.int .i64 0,.int .i64 0]] w λe w'=>e=.returned (.int .i64 s.nodes.length)/\∃F',fh B WV w' P ws (cg jT s) F'/\ar F w F' w' :=
 tX jT h hn
theorem dH.read0(h:dH B WV w P ws s F wv vv hv nv):w.cell? ⟨P,0,none⟩=some wv/\∃ao cap,wv=.slice ao ws.length cap :=
 ⟨(jD h.1).1.1,bC h.2.2.1⟩
theorem rq{w:World}{B B':Nat}{e:TypeId}{sz n:Nat}{v:Value}{xs:List Value}(h:w.ownsRow B e sz v n xs)(hB:B'<=B):w.ownsRow B' e sz v n xs:=by
 refine⟨h.1,?_⟩;rcases h.2 with hn|⟨g,cap,cur,rfl,hb,rest⟩
 .exact .inl hn
 .exact .inr ⟨g,cap,cur,rfl,by omega,rest⟩
theorem Fr(h:fh B WV w P ws s F):
  Calls prog 124 #[.pointer (some ⟨P,0,none⟩)] w λe w'=>e=.returned (.tuple #[])/\fh B WV w' P ws (Zm ws s) F/\ar F w F w':=by
 have HI:=ab h;have hp:=h.f.2.1;have hl:=h.f.1;obtain⟨wv,vv,hv,nv,ew⟩:=h.m.named;obtain⟨c0,ao,cap,rfl⟩:=ew.read0;obtain⟨c1,_,_,_,_,fz⟩:=ew.readsV;have f2:=fz 2;have c2:=h.m.reads.2.1;clear ew fz h;by_cases th:s.pos=ws.length
 .have HS:Hid (Zm ws s=s):=ab (if_pos th);have hd:((s.pos:Int) != (ws.length:Int))=false:=by simp[th]
  clear th;go_enter func124,ntmps124;go_wp2_with fail
  go_quiet (fail)
  go_wp2_with fail
  go_end0
  exact⟨rfl,by rw[uh HS];exact⟨(uh HI).m.drewN _,(uh HI).f⟩,(ar.refl F w).drewN _⟩
 .have HS:Hid (Zm ws s=s.fail):=ab (if_neg th);have hd:((s.pos:Int) != (ws.length:Int))=true:=by rw[bne_iff_ne];omega
  clear th;go_enter func124,ntmps124;go_wp2_with fail
  go_quiet (fail)
  go_wp2_with fail
  go_end0
  exact⟨rfl,by rw[uh HS];exact⟨((uh HI).m.drewN _).setFailed true,(uh HI).f⟩,((ar.refl F w).drewN _).setCell (zq0 (uh HI).m.memP) _⟩
theorem DY(h:fh B WV w P ws s F)(si:s.nodes=[]):
  Calls prog 69 #[.pointer (some ⟨P,0,none⟩)] w λe w'=>∃v F',e=.returned v/\fh B WV w' P ws (fy ws s) F'/\ar F w F' w' /\
   w'.ownsRow w.heap.size 239 5 v (mC ws s).length (bN (mC ws s))/\(∀k,v.ownBlock=some k->k ∉ F'):=by
 have HQ:=ab h;have hl:=h.f.1;clear h;have jO:(rG ws (aF ws fO s)).nodes.length=0:=by rw[zb,bn,si];rfl
 have k2:=(jC (ws:=ws) (ws.length+1)).nodes (rG ws (aF ws fO s));have k3:=(jC (ws:=ws) (ws.length+1)).phi (rG ws (aF ws fO s));have k4:=yX (cL ws (ws.length+1) (rG ws (aF ws fO s)));clear si;go_enter func69,ntmps69;go_wp2_with fail
 refine(aZ fO (by decide) (uh HQ)).mono ?_;rintro e w1 ⟨rfl,dV,bT⟩;have fG:=ab dV;have cH:=ab bT;clear dV bT;go_wp2_with fail
 refine(CW (uh fG)).mono ?_;rintro e w2 ⟨v,F2,rfl,cd,bY,br,IG⟩;have eo:=ab cd;have dg:=ab ((uh cH).trans bY);have HW2:=ab br;have HU2:=ab IG;have gy:=(uh cH).size;clear cd bY br IG;go_wp2_with fail
 refine(Nm (ws.length+1) w2 _ F2 (uh eo) (λ_=>by omega) (by omega)).mono ?_;rintro e w3 ⟨rfl,F3,fS,cR⟩;have hp3:=fS.f.2.1;have HW3:=ab (uJ (uh HW2) cR (uh HU2));have HU3:Hid (∀k,v.ownBlock=some k->k ∉ F3):=ab (λk hk hm=>by
  rcases cR.foot k hm with h|h
  .exact uh HU2 k hk h
  .have:=((uh HW2).lt k hk).2;omega)
 have iY:=ab fS;have iT:=ab ((uh dg).trans cR);clear fS cR;go_wp2_with fail
 refine(Tq (uh iY) (by omega)).mono ?_;rintro e w4 ⟨rfl,F4,mw,fD⟩;have HW4:=ab (uJ (uh HW3) fD (uh HU3));have HU4:Hid (∀k,v.ownBlock=some k->k ∉ F4):=ab (λk hk hm=>by
  rcases fD.foot k hm with h|h
  .exact uh HU3 k hk h
  .have:=((uh HW3).lt k hk).2;omega)
 have oM:Hid (fh B WV w4 P ws (EO ws s) F4):=ab mw;have mE:=ab ((uh iT).trans fD);clear mw fD;go_wp2_with fail
 refine(Fr (uh oM)).mono ?_;rintro e w5 ⟨rfl,sd,gg⟩;have HW5:=ab (uJ (uh HW4) gg (uh HU4));have G9:Hid (fh B WV w5 P ws (fy ws s) F4):=ab sd;have tB:=ab ((uh mE).trans gg);clear sd gg;go_wp2_with fail
 go_ret;exact⟨v,F4,rfl,uh G9,uh tB,rq (uh HW5) gy,uh HU4⟩
end
