import Derived.Test.YtciihepbeacppaaGreatM02
set_option maxRecDepth 100000
set_option maxHeartbeats 0
namespace Go.Proofs.YtciihepbeacppaaGreat
open Tryz Go.RowKit List World Below
set_option linter.unusedVariables false
theorem abb(l:List Nd):(bq l).length=l.length*6:=by
 induction l with
 |nil=>rfl
 |cons a r ih=>simp only[bq,flatMap_cons,length_append,length_cons]at *;rw[ih];simp[Nd.cells];omega
theorem vX(k n:Nat)(l:List Nd):bq (dW k n l)=(bq l).set (k*6+5) (.int .i64 n):=by
 induction l generalizing k with
 |nil=>simp[bq,dW]
 |cons a r ih =>
  cases k with
  |zero=>simp[bq,dW,Nd.cells]
  |succ k =>
   have:=ih k;simp only[bq,dW,modify_succ_cons,flatMap_cons]at *;rw[this,show(k+1)*6+5=(k*6+5)+a.cells.length by simp[Nd.cells];omega,set_append_right _ _ (by omega)];simp
theorem Dn(k n:Nat)(l:List Nd):bq (gO k n l)=(bq l).set (k*6+4) (.int .i64 n):=by
 induction l generalizing k with
 |nil=>simp[bq,gO]
 |cons a r ih =>
  cases k with
  |zero=>simp[bq,gO,Nd.cells]
  |succ k =>
   have:=ih k;simp only[bq,gO,modify_succ_cons,flatMap_cons]at *;rw[this,show(k+1)*6+4=(k*6+4)+a.cells.length by simp[Nd.cells];omega,set_append_right _ _ (by omega)];simp
theorem Ve{w:World}{B:Nat}{e:TypeId}{sz n g cap j:Nat}{xs:List Value}(h:w.ownsRow B e sz (.slice (some ⟨g,0,none⟩) n cap) n xs)(u:Value):
  (w.setCell ⟨g,j,none⟩ u).ownsRow B e sz (.slice (some ⟨g,0,none⟩) n cap) n (xs.set j u):=by
 refine⟨by simpa using h.1,?_⟩;rcases h.2 with⟨h0,_⟩|⟨g',cap',cur,hv,hB,hg,hn,hm,hs,ht⟩
 .cases h0
 .simp only[Value.slice.injEq,Option.some.injEq,Addr.mk.injEq]at hv;obtain⟨⟨rfl,_⟩,_,rfl⟩:=hv;refine .inr ⟨g,cap,cur.setIfInBounds j u,rfl,hB,ye hg u,hn,hm,by simpa using hs,?_⟩;rw[Array.toList_setIfInBounds,take_set,ht]
section
variable {B:Nat} {WV:Value} {w:World} {P:Nat} {ws:List ByteArray} {s:PS} {F:List Nat} {wv vv hv:Value} {g cap:Nat}
theorem dB.setNode(h:dB B WV w P ws s F wv vv hv (.slice (some ⟨g,0,none⟩) s.nodes.length cap))(j:Nat)(u:Value)(l:List Nd)(hl:bq l=(bq s.nodes).set j u)(tX:l.length=s.nodes.length):
  dB B WV (w.setCell ⟨g,j,none⟩ u) P ws { s with nodes:=l } F wv vv hv (.slice (some ⟨g,0,none⟩) s.nodes.length cap):=by
 have eU:=h.apart;obtain⟨hP,hB,h1,h2,h3,h4,hF,hN⟩:=h;have hg:(Value.slice (some ⟨g,0,none⟩) s.nodes.length cap).ownBlock=some g:=rfl;have aL:∀k,k≠g->(w.setCell ⟨g,j,none⟩ u).heap[k]?=w.heap[k]?:=λk hk=>heap_setCell _ _ _ _ hk;have ho:=eU.2.2.2 g hg;refine⟨by rw[aL P (λe=>eU.1 g (by simp[hg]) e.symm)];exact hP,hB,ae h1 (λk hk=>aL k (λe=>ho.1 (by rw[<-e];exact hk))),ae h2 (λk hk=>aL k (λe=>ho.2.1 (by rw[<-e];exact hk))),
  ae h3 (λk hk=>aL k (λe=>ho.2.2 (by rw[<-e];exact hk))),?_,hF,hN⟩
 exact iO (w:=w.setCell ⟨g,j,none⟩ u) (by have:=Ve h4 (j:=j) u;exact this) tX hl
theorem dB.nodeCell(h:dB B WV w P ws s F wv vv hv (.slice (some ⟨g,0,none⟩) s.nodes.length cap))(j:Nat)(hj:j<s.nodes.length*6):(∃v,w.cell? ⟨g,j,none⟩=some v/\v∈bq s.nodes)/\w.frozen? ⟨g,j,none⟩=false:=by
 obtain⟨hP,hB,h1,h2,h3,h4,hF,hN⟩:=h;have hl:j<(bq s.nodes).length:=by rw[abb];exact hj
 constructor
 .have:=h4.cells (g:=g) rfl j _ (getElem?_eq_getElem hl);rw[show(⟨g,0,none⟩:Addr).add j=⟨g,j,none⟩ by unfold Addr.add;split <;> simp_all]at this;exact⟨_,this,getElem_mem _⟩
 .rcases h4.2 with⟨h0,_⟩|⟨g',cap',cur,hv,hB,hg,hn,hm,hs,ht⟩
  .cases h0
  .simp only[Value.slice.injEq,Option.some.injEq,Addr.mk.injEq]at hv;obtain⟨⟨rfl,_⟩,_,rfl⟩:=hv;simp[World.frozen?,hg]
theorem jM{l:List Nd}{v:Value}(h:v∈bq l):∃n:Int,v=.int .i64 n:=by
 simp only[bq,mem_flatMap,Nd.cells]at h;obtain⟨a,_,h⟩:=h;simp at h;rcases h with h|h|h|h|h|h <;> exact⟨_,h⟩
end
def GH(B:Nat)(WV:Value)(P:Nat)(ws:List ByteArray)(blk:PS->PS)(f:Nat):Prop :=
 ∀(w:World) (s:PS) (F:List Nat),eO B WV w P ws s F->(s.failed=false->ws.length<f+s.pos)->s.nodes.length+2*ws.length<=60000+2*s.pos ->
  Calls prog 122 #[.pointer (some ⟨P,0,none⟩)] w λe w'=>e=.returned (.tuple #[])/\∃F',eO B WV w' P ws (blk s) F'/\au F w F' w'
section
variable {B:Nat} {WV:Value} {w:World} {P:Nat} {ws:List ByteArray} {s:PS} {F:List Nat} {wv vv hv:Value} {g cap:Nat}
theorem GU(h:eO B WV w P ws s F)(hn:s.nodes.length<=100000):
  Calls prog 123 #[.pointer (some ⟨P,0,none⟩),.agg #[.int .i64 10,.int .i64 0,.int .i64 0,.int .i64 0,.int .i64 0,.int .i64 0]] w λe w'=>e=.returned (.int .i64 s.nodes.length)/\∃F',eO B WV w' P ws (ch iI s) F'/\au F w F' w' :=
 tL iI h hn
theorem dB.inF{w0:World}{F0:List Nat}{n:Nat}{j:Nat}(h:dB B WV w P ws s F wv vv hv (.slice (some ⟨g,0,none⟩) n cap))(hS:au F0 w0 F w):(⟨g,j,none⟩:Addr).block∈F0\/w0.heap.size<=(⟨g,j,none⟩:Addr).block :=
 hS.foot g (by rw[h.2.2.2.2.2.2.1];simp[Value.ownBlock])
theorem eO.nodesAt(h:eO B WV w P ws s F)(hn:0<s.nodes.length):∃wv vv hv g cap,dB B WV w P ws s F wv vv hv (.slice (some ⟨g,0,none⟩) s.nodes.length cap):=by
 obtain⟨wv,vv,hv,nv,ei⟩:=h.m.named;rcases ei.2.2.2.2.2.1.2 with⟨_,h0⟩|⟨g,cap,cur,rfl,_⟩
 .omega
 .exact⟨wv,vv,hv,g,cap,ei⟩
theorem PP{blk:PS->PS}{f:Nat}(cj:GH B WV P ws blk f)(gd:Mm blk)(hb:bR ws bY s=true)(dK:ws.length<f+1+s.pos)(tC:s.nodes.length+2*ws.length<=60000+2*s.pos)(h:eO B WV w P ws s F):
  Calls prog 187 #[.pointer (some ⟨P,0,none⟩)] w λe w'=>e=.returned (.tuple #[])/\∃F',eO B WV w' P ws (xE blk ws s) F'/\au F w F' w':=by
 have HQ:=ab h;have hp0:=h.f.2.1;clear h;have HE:Hid (aG ws bY s=s.adv):=ab (if_pos hb);have hpa:s.adv.pos=s.pos+1:=rfl;have hna:s.adv.nodes.length=s.nodes.length:=rfl;have hts:=us (ws:=ws) (s:=s.adv);have Xx:=oG (ws:=ws) (s:=s.adv);have h1:=gd.pos (gl ws s.adv);have h2:=gd.nodes (gl ws s.adv);have h3:=gd.phi (gl ws s.adv);have h4:=yB (blk (gl ws s.adv));have Bv:Hid (ny blk ws s=blk (gl ws s.adv)):=ab (by unfold ny;rw[uh HE]);have Mp:=ab cj;clear cj hb;go_enter func187,ntmps187;go_wp2_with fail
 refine(aY bY (by decide) (uh HQ)).mono ?_;rintro e w1 ⟨rfl,dN,bX⟩;rw[uh HE]at dN;have fs:=ab dN;have cD:=ab bX;clear dN bX;go_wp2_with fail
 refine(wP (s:=s.adv) (by omega) (uh fs)).mono ?_;rintro e w2 ⟨rfl,F2,cg,bS⟩;have d7:=ab cg;have cS:=ab ((uh cD).trans bS);clear cg bS;go_wp2_with fail
 refine(uh Mp _ _ _ (uh d7) (λ_=>by omega) (by omega)).mono ?_;rintro e w3 ⟨rfl,F3,fI,cB⟩;have jb:=ab fI;have gu:=ab ((uh cS).trans cB);clear fI cB;have hp3:=(uh jb).f.2.1;go_wp2_with fail
 refine(GU (uh jb) (by omega)).mono ?_;rintro e w4 ⟨rfl,F4,mp,fh⟩;have oJ:=ab mp;have mA:=ab ((uh gu).trans fh);clear mp fh;obtain⟨z,hz⟩:∃z,z=blk (gl ws s.adv):=⟨_,rfl⟩;rw[<-hz]at oJ h1 h2 h3 h4 Bv ⊢;clear hz;have hzn:(ch iI z).nodes.length=z.nodes.length+1:=by simp[ch]
 obtain⟨wv,vv,hv,g,cap,ei⟩:=(uh oJ).nodesAt (by omega);obtain⟨_,_,_,_,c5,_⟩:=ei.readsV;obtain⟨⟨v4,Ip,El⟩,f4⟩:=ei.nodeCell (z.nodes.length*6+4) (by omega);obtain⟨x4,rfl⟩:=jM El;rw[hzn]at c5;have xJ:=ab ei;clear ei El;go_wp2_with fail
 have FH:=(uh xJ).setNode (z.nodes.length*6+4) (.int .i64 (s.nodes.length:Int)) (gO z.nodes.length s.nodes.length (ch iI z).nodes) (Dn _ _ _) (dg _ _ _);have Af:=(uh mA).setCell (p:=⟨g,z.nodes.length*6+4,none⟩) (w:=w4) ((uh xJ).inF (uh mA)) (.int .i64 (s.nodes.length:Int));generalize w4.setCell ⟨g,z.nodes.length*6+4,none⟩ (.int .i64 (s.nodes.length:Int))=w5 at FH Af ⊢;clear c5 Ip f4;obtain⟨y,hy⟩:∃y:PS,y={ ch iI z with nodes:=gO z.nodes.length s.nodes.length (ch iI z).nodes }:=⟨_,rfl⟩;have Us:y.nodes.length=z.nodes.length+1:=by rw[hy];simp[dg,ch]
 rw[<-hy]at FH;have HY:=ab hy;clear hy;rw[show(ch iI z).nodes.length=y.nodes.length by rw[Us,hzn]]at FH;obtain⟨_,_,_,_,c5,_⟩:=FH.readsV;obtain⟨⟨v5,hv5,hm5⟩,f5⟩:=FH.nodeCell (s.nodes.length*6+5) (by omega);obtain⟨x5,rfl⟩:=jM hm5;have aec:=ab FH;have aej:=ab Af;clear FH Af hm5;rw[Us]at c5;go_region
 go_end0
 have KP:=(uh aec).setNode (s.nodes.length*6+5) (.int .i64 ((z.nodes.length:Int)+1)) (dW s.nodes.length (z.nodes.length+1) y.nodes) (vX _ _ _) (bV _ _ _);have rW:xE blk ws s={ y with nodes:=dW s.nodes.length (z.nodes.length+1) y.nodes }:=by unfold xE;rw[uh Bv,uh HY,hzn]
 have Fw:DW ws (xE blk ws s):=by rw[rW,uh HY];exact(uh oJ).f
 exact⟨rfl,F4,⟨by rw[rW];exact KP.is.drew,Fw⟩,((uh aej).setCell (p:=⟨g,s.nodes.length*6+5,none⟩) ((uh aec).inF (uh aej)) _).drew⟩
end
section
variable {B:Nat} {WV:Value} {w:World} {P:Nat} {ws:List ByteArray} {s:PS} {F:List Nat} {wv vv hv:Value} {g cap:Nat}
theorem ES{blk:PS->PS}{f:Nat}(cj:GH B WV P ws blk f)(gd:Mm blk)(hb:bR ws mu s=true)(dK:ws.length<f+1+s.pos)(tC:s.nodes.length+2*ws.length<=60000+2*s.pos)(h:eO B WV w P ws s F):
  Calls prog 186 #[.pointer (some ⟨P,0,none⟩)] w λe w'=>e=.returned (.tuple #[])/\∃F',eO B WV w' P ws (pE blk ws s) F'/\au F w F' w':=by
 have HQ:=ab h;have hp0:=h.f.2.1;clear h;have HE:Hid (aG ws mu s=s.adv):=ab (if_pos hb);have hpa:s.adv.pos=s.pos+1:=rfl;have hna:s.adv.nodes.length=s.nodes.length:=rfl;have hts:=us (ws:=ws) (s:=s.adv);have Xx:=oG (ws:=ws) (s:=s.adv);have h1:=gd.pos (gl ws s.adv);have h2:=gd.nodes (gl ws s.adv);have h3:=gd.phi (gl ws s.adv);have Bv:Hid (cE blk ws s=blk (gl ws s.adv)):=ab (by unfold cE;rw[uh HE]);have Mp:=ab cj;have HGD:=ab gd;clear cj hb gd;obtain⟨z,hz⟩:∃z,z=blk (gl ws s.adv):=⟨_,rfl⟩;rw[<-hz]at h1 h2 h3 Bv;have HZ:=ab hz;clear hz;cases he:bR ws iK z with
 |false =>
  have yh:Hid (lO ws iK z=z):=ab (if_neg (by simp[he]));have HS:Hid (pE blk ws s={ z with nodes:=dW s.nodes.length z.nodes.length z.nodes }):=ab (by unfold pE;rw[uh Bv,he];rfl);have eu:=ab he;clear he;go_enter func186,ntmps186;go_wp2_with fail
  refine(aY mu (by decide) (uh HQ)).mono ?_;rintro e w1 ⟨rfl,dN,bX⟩;rw[uh HE]at dN;have fs:=ab dN;have cD:=ab bX;clear dN bX;go_wp2_with fail
  refine(wP (s:=s.adv) (by omega) (uh fs)).mono ?_;rintro e w2 ⟨rfl,F2,cg,bS⟩;have d7:=ab cg;have cS:=ab ((uh cD).trans bS);clear cg bS;go_wp2_with fail
  refine(uh Mp _ _ _ (uh d7) (λ_=>by omega) (by omega)).mono ?_;rintro e w3 ⟨rfl,F3,fI,cB⟩;have jb:=ab fI;have gu:=ab ((uh cS).trans cB);clear fI cB;rw[<-uh HZ]at jb;have hp3:=(uh jb).f.2.1;have xG:=aC iK (by decide) (uh jb);rw[uh eu,uh yh]at xG;replace xG:=ab xG
  go_wp2_with fail
  refine(uh xG).mono ?_;rintro e w4 ⟨rfl,mp,fh⟩;have oJ:=ab mp;have mA:=ab ((uh gu).trans fh);clear mp fh;obtain⟨wv,vv,hv,g,cap,ei⟩:=(uh oJ).nodesAt (by omega);obtain⟨_,_,_,_,c5,_⟩:=ei.readsV;obtain⟨⟨v4,Ip,El⟩,f4⟩:=ei.nodeCell (s.nodes.length*6+5) (by omega);obtain⟨x4,rfl⟩:=jM El;have xJ:=ab ei;clear ei El;have hfb:=yB z;go_wp2_with fail
  go_region
  go_wp2_with fail
  refine bodyPost_ret (results_none rfl _ _ _) rfl ?_;have KP:=(uh xJ).setNode (s.nodes.length*6+5) (.int .i64 (z.nodes.length:Int)) (dW s.nodes.length z.nodes.length z.nodes) (vX _ _ _) (bV _ _ _);exact⟨rfl,F3,⟨by rw[uh HS];exact KP.is.drew,by rw[uh HS];exact(uh oJ).f⟩,((uh mA).setCell (p:=⟨g,s.nodes.length*6+5,none⟩) ((uh xJ).inF (uh mA)) _).drew⟩
 |true =>
  have yh:Hid (lO ws iK z=z.adv):=ab (if_pos he);have HS:Hid (pE blk ws s=M6 z.nodes.length (blk (lI s.nodes.length z))):=ab (by unfold pE;rw[uh Bv,he];rfl);have hfz:fb z=0:=yC (yZ (ws:=ws) (s:=z) (by rw[jj he];decide)).1;have eu:=ab he;clear he;have hza:z.adv.pos=z.pos+1:=rfl;have hzl:z.adv.nodes.length=z.nodes.length:=rfl;have hbp:(lI s.nodes.length z).pos=z.pos+1:=rfl;have cH:(lI s.nodes.length z).nodes.length=z.nodes.length+1:=by simp[lI,bV,ch,PS.adv]
  have k2:=(uh HGD).nodes (lI s.nodes.length z);have k3:=(uh HGD).phi (lI s.nodes.length z);have k4:=yB (blk (lI s.nodes.length z));go_enter func186,ntmps186;go_wp2_with fail
  refine(aY mu (by decide) (uh HQ)).mono ?_;rintro e w1 ⟨rfl,dN,bX⟩;rw[uh HE]at dN;have fs:=ab dN;have cD:=ab bX;clear dN bX;go_wp2_with fail
  refine(wP (s:=s.adv) (by omega) (uh fs)).mono ?_;rintro e w2 ⟨rfl,F2,cg,bS⟩;have d7:=ab cg;have cS:=ab ((uh cD).trans bS);clear cg bS;go_wp2_with fail
  refine(uh Mp _ _ _ (uh d7) (λ_=>by omega) (by omega)).mono ?_;rintro e w3 ⟨rfl,F3,fI,cB⟩;have jb:=ab fI;have gu:=ab ((uh cS).trans cB);clear fI cB;rw[<-uh HZ]at jb;have hp3:=(uh jb).f.2.1;have xG:=aC iK (by decide) (uh jb);rw[uh eu,uh yh]at xG;replace xG:=ab xG
  go_wp2_with fail
  refine(uh xG).mono ?_;rintro e w4 ⟨rfl,mp,fh⟩;have oJ:=ab mp;have mA:=ab ((uh gu).trans fh);clear mp fh;go_wp2_with fail
  refine(GU (uh oJ) (by omega)).mono ?_;rintro e w5 ⟨rfl,F5,rV,fX⟩;have GN:=ab rV;have s9:=ab ((uh mA).trans fX);clear rV fX;have Us:(ch iI z.adv).nodes.length=z.nodes.length+1:=by simp[ch,PS.adv]
  obtain⟨wv,vv,hv,g,cap,ei⟩:=(uh GN).nodesAt (by omega);obtain⟨_,_,_,_,c5,_⟩:=ei.readsV;obtain⟨⟨v4,Ip,El⟩,f4⟩:=ei.nodeCell (s.nodes.length*6+5) (by omega);obtain⟨x4,rfl⟩:=jM El;rw[Us]at c5;have xJ:=ab ei;clear ei El;go_wp2_with fail
  go_region
  go_wp2_with fail
  have KP:=(uh xJ).setNode (s.nodes.length*6+5) (.int .i64 ((z.nodes.length:Int)+1)) (dW s.nodes.length (ch iI z.adv).nodes.length (ch iI z.adv).nodes) (by rw[vX,Us];rfl) (bV _ _ _);have HQ6:Hid (eO B WV ((w5.setCell ⟨g,s.nodes.length*6+5,none⟩ (.int .i64 ((z.nodes.length:Int)+1))).drew) P ws (lI s.nodes.length z) F5):=ab ⟨KP.is.drew,(uh GN).f⟩;have HS6:Hid (au F w F5 ((w5.setCell ⟨g,s.nodes.length*6+5,none⟩ (.int .i64 ((z.nodes.length:Int)+1))).drew)):=ab ((uh s9).setCell (p:=⟨g,s.nodes.length*6+5,none⟩) ((uh xJ).inF (uh s9)) _).drew;clear KP c5 Ip f4;generalize (w5.setCell ⟨g,s.nodes.length*6+5,none⟩ (.int .i64 ((z.nodes.length:Int)+1))).drew=w6 at HQ6 HS6 ⊢;refine(uh Mp _ _ _ (uh HQ6) (λ_=>by omega) (by omega)).mono ?_;rintro e w7 ⟨rfl,F7,hI7,Ee⟩;have HI7:=ab hI7;have Wn:=ab ((uh HS6).trans Ee);have hp7:=hI7.f.2.1;clear hI7 Ee;obtain⟨y,hy⟩:∃y,y=blk (lI s.nodes.length z):=⟨_,rfl⟩;rw[<-hy]at HI7 k2 k3 k4 hp7 HS;clear hy;obtain⟨wv,vv,hv,g2,cap2,ei⟩:=(uh HI7).nodesAt (by omega);obtain⟨_,_,_,_,c5,_⟩:=ei.readsV;obtain⟨⟨v4,Ip,El⟩,f4⟩:=ei.nodeCell (z.nodes.length*6+4) (by omega);obtain⟨x4,rfl⟩:=jM El;have aed:=ab ei;clear ei El;go_wp2_with fail
  go_region
  go_end0
  have alY:=(uh aed).setNode (z.nodes.length*6+4) (.int .i64 (y.nodes.length:Int)) (gO z.nodes.length y.nodes.length y.nodes) (Dn _ _ _) (dg _ _ _);exact⟨rfl,F7,⟨by rw[uh HS];exact alY.is.drew,by rw[uh HS];exact(uh HI7).f⟩,((uh Wn).setCell (p:=⟨g2,z.nodes.length*6+4,none⟩) ((uh aed).inF (uh Wn)) _).drew⟩
theorem Cl{blk:PS->PS}{f:Nat}(cj:GH B WV P ws blk f)(gd:Mm blk)(dK:ws.length<f+1+s.pos)(tC:s.nodes.length+2*ws.length<=60000+2*s.pos)(h:eO B WV w P ws s F):
  Calls prog 161 #[.pointer (some ⟨P,0,none⟩)] w λe w'=>e=.returned (.tuple #[])/\∃F',eO B WV w' P ws (kQ blk ws s) F'/\au F w F' w':=by
 have HQ:=ab h;have hp0:=h.f.2.1;have HK:=ab (lx h);clear h;cases hb:bR ws mu s with
 |true =>
  have HS:Hid (kQ blk ws s=pE blk ws s):=ab (if_pos hb);have xp:((pk ws s).toList==mu.toList)=true:=hb;have zr:=λn=>ab (ES (w:=w.drewN n) cj gd hb dK tC ⟨(uh HQ).m.drewN n,(uh HQ).f⟩);rw[show mu.toList=[105,102] from (ByteArray.toList_eq _)]at xp;clear hb cj gd;go_enter func161,ntmps161;go_wp2_with (first|(go_at_call 160;refine(uh HK).mono ?_;rintro e w' ⟨rfl,n,rfl⟩)|(go_at_call 186;refine(uh (zr n)).mono ?_;rintro e w2 ⟨rfl,F2,cg,bS⟩))
  go_end0
  exact⟨rfl,F2,by rw[uh HS];exact cg,((au.refl F w).drewN n).trans bS⟩
 |false =>
  have xp:((pk ws s).toList==mu.toList)=false:=hb;rw[show mu.toList=[105,102] from (ByteArray.toList_eq _)]at xp;cases aU:bR ws bY s with
  |true =>
   have HS:Hid (kQ blk ws s=xE blk ws s):=ab (by unfold kQ;rw[hb,aU];rfl);have ZQ:((pk ws s).toList==bY.toList)=true:=aU;have zr:=λn=>ab (PP (w:=w.drewN n) cj gd aU dK tC ⟨(uh HQ).m.drewN n,(uh HQ).f⟩);rw[show bY.toList=[119,104,105,108,101] from (ByteArray.toList_eq _)]at ZQ;clear hb aU cj gd;go_enter func161,ntmps161;go_wp2_with (first|(go_at_call 160;refine(uh HK).mono ?_;rintro e w' ⟨rfl,n,rfl⟩)|(go_at_call 187;refine(uh (zr n)).mono ?_;rintro e w2 ⟨rfl,F2,cg,bS⟩))
   go_end0
   exact⟨rfl,F2,by rw[uh HS];exact cg,((au.refl F w).drewN n).trans bS⟩
  |false =>
   have HS:Hid (kQ blk ws s=sW ws s):=ab (by unfold kQ;rw[hb,aU];rfl);have ZQ:((pk ws s).toList==bY.toList)=false:=aU;rw[show bY.toList=[119,104,105,108,101] from (ByteArray.toList_eq _)]at ZQ;clear hb aU cj gd;go_enter func161,ntmps161;go_wp2_with (go_at_call 160;refine(uh HK).mono ?_;rintro e w' ⟨rfl,n,rfl⟩)
   refine(Gw (w:=w.drewN n) ⟨(uh HQ).m.drewN n,(uh HQ).f⟩).mono ?_;rintro e w1 ⟨rfl,F1,dN,bX⟩;have fs:=ab dN;have cD:=ab (((au.refl F w).drewN n).trans bX);clear dN bX;obtain⟨A0,BH⟩:∃A0,A0=kx ws s:=⟨_,rfl⟩;have HA0:=ab BH;rw[<-BH];clear BH;obtain⟨n0,n1,n2,n3,n4,n5⟩:=A0;simp only[Nd.cells];go_wp2_with fail
   refine(aY je (by decide) ((uh fs).alloc _)).mono ?_;rintro e w2 ⟨rfl,cg,bS⟩;obtain⟨aU,tY,vt⟩:=bN (uh fs).m bS;obtain⟨⟨q0,q1,q2,q3,q4,q5⟩,_⟩:=gB aU;have Fr:=tL ⟨n0,n1,n2,n3,n4,n5⟩ cg (by rw[bz,zl];omega);simp only[Nd.cells]at Fr;have XZ:=ab Fr;have cS:=ab ((uh cD).trans (((au.refl F1 w1).alloc _).trans bS));clear Fr cg bS aU;go_wp2_with fail
   refine(uh XZ).mono ?_;rintro e w3 ⟨rfl,F3,fI,cB⟩;have jb:=ab fI;have gu:=ab ((uh cS).trans cB);clear fI cB;go_wp2_with fail
   go_end0
   refine⟨rfl,F3,?_,uh gu⟩;rw[uh HS];unfold sW;rw[<-uh HA0];exact uh jb
end
theorem uV{ws:List ByteArray}{c:PS->PS}(n:Nat){s:PS}(h:(s.failed||bR ws kU s)=true):ji c ws n s=s:=by
 cases n with
 |zero=>rfl
 |succ n=>simp only[ji];rw[if_pos h]
theorem YU{ws:List ByteArray}{c:PS->PS}(n:Nat){s:PS}(h:(s.failed||bR ws kU s)=false):ji c ws (n+1) s=ji c ws n (c s):=by
 simp only[ji];rw[if_neg (by simp[h])]
theorem uY{ws:List ByteArray}{k:ByteArray}{s:PS}(hk:k.size≠0)(h:s.failed=true):aG ws k s=s:=by
 unfold aG;rw[uM k hk h];obtain⟨a,b,c,d,e⟩:=s;simp only at h;subst h;rfl
section
variable {B:Nat} {WV:Value} {w:World} {P:Nat} {ws:List ByteArray} {s:PS} {F:List Nat} {wv vv hv:Value} {g cap:Nat}
theorem uS {c:PS->PS} {n:Nat}
  (afG:∀(w:World) (st:PS) (F:List Nat),eO B WV w P ws st F->st.failed=false->ws.length<n+st.pos->st.nodes.length+2*ws.length<=60000+2*st.pos ->
   Calls prog 161 #[.pointer (some ⟨P,0,none⟩)] w λe w'=>e=.returned (.tuple #[])/\∃F',eO B WV w' P ws (c st) F'/\au F w F' w')
  (hc:∀s,s.pos<=(c s).pos/\((c s).failed=false->s.pos<(c s).pos)/\(c s).nodes.length+2*s.pos<=s.nodes.length+2*(c s).pos+fb (c s))
  (dK:s.failed=false->ws.length<n+s.pos) (tC:s.nodes.length+2*ws.length<=60000+2*s.pos) (h:eO B WV w P ws s F) :
  Calls prog 122 #[.pointer (some ⟨P,0,none⟩)] w λe w'=>e=.returned (.tuple #[])/\∃F',eO B WV w' P ws (aG ws kU (ji c ws (ws.length+2) (aG ws mw s))) F'/\au F w F' w':=by
 have HQ:=ab h;clear h;have ajk:=ab afG;have HC:=ab hc;have HFU:=ab dK;clear afG hc dK;have e1:=ci (ws:=ws) (s:=s) mw;have e2:(aG ws mw s).nodes.length=s.nodes.length:=by rw[bz]
 have HE3:Hid ((aG ws mw s).failed=false->ws.length<n+(aG ws mw s).pos):=ab (λh=>by have:=uh HFU (jB _ h).2.1;omega);go_enter func122,ntmps122;go_wp2_with fail
 refine(aY mw (by decide) (uh HQ)).mono ?_;rintro e w1 ⟨rfl,dN,bX⟩;have fs:=ab dN;have cD:=ab bX;clear dN bX;go_wp2_with fail
 go_loopg [4] (ws.length+2) (λm _ wr=>∃(st:PS) (F2:List Nat),eO B WV wr P ws st F2/\au F w F2 wr/\(aG ws mw s).pos<=st.pos /\
  Hid (ji c ws (ws.length+2) (aG ws mw s)=ji c ws m st)/\Hid (st.failed=false->ws.length<n+st.pos/\ws.length<m+st.pos/\st.nodes.length+2*ws.length<=60000+2*st.pos))
 case atStart =>
  exact⟨aG ws mw s,F,uh fs,uh cD,zq4 _,rfl,λh=>⟨uh HE3 h,by omega,by omega⟩⟩
 case round =>
  obtain⟨st,F2,hI,hS,aav,RP,bD⟩:=hrel;have HI:=ab hI;have HS:=ab hS;obtain⟨c1,c2,_,_⟩:=hI.m.reads;have HK:=ab (lx hI);clear hI hS c1;cases hf:st.failed with
  |true =>
   rw[hf]at c2;have HEQ:Hid (ji c ws (ws.length+2) (aG ws mw s)=st):=ab (by rw[uh RP];exact uV _ (by simp[hf]));clear hf RP bD;go_wp2_with fail
   refine(aY kU (by decide) (uh HI)).mono ?_;rintro e w2 ⟨rfl,cg,bS⟩;have d7:=ab cg;have cS:=ab ((uh HS).trans bS);clear cg bS;go_wp2_with fail
   go_end0
   exact⟨rfl,F2,by rw[uh HEQ];exact uh d7,uh cS⟩
  |false =>
   rw[hf]at c2;cases hb:bR ws kU st with
   |true =>
    have xp:((pk ws st).toList==kU.toList)=true:=hb;rw[show kU.toList=[125] from (ByteArray.toList_eq _)]at xp;have HEQ:Hid (ji c ws (ws.length+2) (aG ws mw s)=st):=ab (by rw[uh RP];exact uV _ (by simp[hb]));clear hf hb RP bD;go_wp2_with (go_at_call 160;refine(uh HK).mono ?_;rintro e w' ⟨rfl,nn,rfl⟩)
    refine(aY kU (by decide) (w:=wr.drewN nn) ⟨(uh HI).m.drewN nn,(uh HI).f⟩).mono ?_;rintro e w2 ⟨rfl,cg,bS⟩;have d7:=ab cg;have cS:=ab (((uh HS).drewN nn).trans bS);clear cg bS;go_wp2_with fail
    go_end0
    exact⟨rfl,F2,by rw[uh HEQ];exact uh d7,uh cS⟩
   |false =>
    have xp:((pk ws st).toList==kU.toList)=false:=hb;rw[show kU.toList=[125] from (ByteArray.toList_eq _)]at xp;obtain⟨o1,o2,o3⟩:=uh bD hf;have hps:=(uh HI).f.2.1;obtain⟨m,rfl⟩:∃m,gk=m+1:=⟨gk-1,by omega⟩;have HEQ:Hid (ji c ws (ws.length+2) (aG ws mw s)=ji c ws m (c st)):=ab (by rw[uh RP];exact YU _ (by simp[hb,hf]));have HF:=ab hf;clear hf hb RP bD;go_wp2_with (go_at_call 160;refine(uh HK).mono ?_;rintro e w' ⟨rfl,nn,rfl⟩)
    refine(uh ajk (wr.drewN nn) st F2 ⟨(uh HI).m.drewN nn,(uh HI).f⟩ (uh HF) o1 o3).mono ?_;rintro e w2 ⟨rfl,F3,cg,bS⟩;have d7:=ab cg;have cS:=ab (((uh HS).drewN nn).trans bS);clear cg bS;go_wp2_with fail
    obtain⟨d1,d2,d3⟩:=uh HC st;go_roundg m
    case measure=>omega
    case rel =>
     refine⟨c st,F3,uh d7,uh cS,by omega,uh HEQ,λhcf=>?_⟩;have:=d2 hcf;rw[yC hcf]at d3;exact⟨by omega,by omega,by omega⟩
theorem M5(f:Nat):GH B WV P ws (cJ ws f) f:=by
 induction f with
 |zero =>
  intro w s F h dK tC;have hps:=h.f.2.1;have hf:s.failed=true:=by
   cases hf:s.failed with
   |true=>rfl
   |false=>have:=dK hf;omega
  have hw:=uS (c:=PS.adv) (n:=0) (B:=B) (P:=P) (ws:=ws) (s:=s) (F:=F) (w:=w) (λ_ st _ hi _ ar _=>by have:=hi.f.2.1;omega) (λs=>⟨dc,λ_=>Nat.lt_succ_self _,by show s.nodes.length+2*s.pos<=s.nodes.length+2*(s.pos+1)+_;omega⟩) dK tC h;rw[uY (by decide) hf,uV _ (by simp[hf]),uY (by decide) hf]at hw;exact hw
 |succ f ih =>
  intro w s F h dK tC;exact uS (n:=f+1) (λw st F hi _ ar hph=>Cl ih (jx f) ar hph hi) (λs=>⟨(jA (jx f)).1,λh=>((jA (jx f)).2.2.1 h).2,(jA (jx f)).2.2.2⟩) dK tC h
end
def eH:ByteArray:=⟨#[112,114,101]⟩
def iN:Nd:=⟨0,0,0,0,0,0⟩
def Zd(ws:List ByteArray)(s:PS):PS:=if s.pos=ws.length then s else s.fail
def Eu(ws:List ByteArray)(s:PS):PS:=ch iN (cJ ws (ws.length+1) (pF ws (aG ws eH s)))
def fn(ws:List ByteArray)(s:PS):PS:=if (Eu ws s).pos=ws.length then Eu ws s else (Eu ws s).fail
def eW(ws:List ByteArray)(s:PS):List cn:=foA ws (aG ws eH s)
section
variable {B:Nat} {WV:Value} {w:World} {P:Nat} {ws:List ByteArray} {s:PS} {F:List Nat} {wv vv hv nv:Value} {g cap:Nat}
theorem K4:(AA ws s).nodes=s.nodes:=by unfold AA pO qP;rw[bz,oF,bz,oF,bz]
theorem Gp:(eY ws s).nodes=s.nodes:=by unfold eY;split;rfl;split;rfl;exact bz _
theorem yu:(ep ws s).nodes=s.nodes:=by
 unfold ep;split;rfl;split
 .rw[K4];rfl
 .rw[oF,Gp,oF]
theorem J9(n:Nat):∀s,(jm ws n s).2.nodes=s.nodes:=by
 induction n with
 |zero=>intro s;rfl
 |succ n ih =>
  intro s;simp only[jm];split
  .show(jm ws n (ep ws s.adv)).2.nodes=s.nodes;rw[ih,yu];rfl
  .rfl
theorem yG:(pF ws s).nodes=s.nodes:=by unfold pF;rw[J9,yu]
theorem SH(h:eO B WV w P ws s F)(hn:s.nodes.length<=100000):
  Calls prog 123 #[.pointer (some ⟨P,0,none⟩),.agg #[.int .i64 0,.int .i64 0,.int .i64 0,.int .i64 0,.int .i64 0,.int .i64 0]] w λe w'=>e=.returned (.int .i64 s.nodes.length)/\∃F',eO B WV w' P ws (ch iN s) F'/\au F w F' w' :=
 tL iN h hn
theorem dB.read0(h:dB B WV w P ws s F wv vv hv nv):w.cell? ⟨P,0,none⟩=some wv/\∃ao cap,wv=.slice ao ws.length cap :=
 ⟨(jy h.1).1.1,bJ h.2.2.1⟩
theorem rb{w:World}{B B':Nat}{e:TypeId}{sz n:Nat}{v:Value}{xs:List Value}(h:w.ownsRow B e sz v n xs)(hB:B'<=B):w.ownsRow B' e sz v n xs:=by
 refine⟨h.1,?_⟩;rcases h.2 with hn|⟨g,cap,cur,rfl,hb,rest⟩
 .exact .inl hn
 .exact .inr ⟨g,cap,cur,rfl,by omega,rest⟩
theorem E7(h:eO B WV w P ws s F):
  Calls prog 124 #[.pointer (some ⟨P,0,none⟩)] w λe w'=>e=.returned (.tuple #[])/\eO B WV w' P ws (Zd ws s) F/\au F w F w':=by
 have HI:=ab h;have hp:=h.f.2.1;have hl:=h.f.1;obtain⟨wv,vv,hv,nv,ei⟩:=h.m.named;obtain⟨c0,ao,cap,rfl⟩:=ei.read0;obtain⟨c1,_,_,_,_,fz⟩:=ei.readsV;have f2:=fz 2;have c2:=h.m.reads.2.1;clear ei fz h;by_cases pL:s.pos=ws.length
 .have HS:Hid (Zd ws s=s):=ab (if_pos pL);have hd:((s.pos:Int) != (ws.length:Int))=false:=by simp[pL]
  clear pL;go_enter func124,ntmps124;go_wp2_with fail
  go_quiet (fail)
  go_wp2_with fail
  go_end0
  exact⟨rfl,by rw[uh HS];exact⟨(uh HI).m.drewN _,(uh HI).f⟩,(au.refl F w).drewN _⟩
 .have HS:Hid (Zd ws s=s.fail):=ab (if_neg pL);have hd:((s.pos:Int) != (ws.length:Int))=true:=by rw[bne_iff_ne];omega
  clear pL;go_enter func124,ntmps124;go_wp2_with fail
  go_quiet (fail)
  go_wp2_with fail
  go_end0
  exact⟨rfl,by rw[uh HS];exact⟨((uh HI).m.drewN _).setFailed true,(uh HI).f⟩,((au.refl F w).drewN _).setCell (zq0 (uh HI).m.memP) _⟩
theorem DA(h:eO B WV w P ws s F)(oS:s.nodes=[]):
  Calls prog 69 #[.pointer (some ⟨P,0,none⟩)] w λe w'=>∃v F',e=.returned v/\eO B WV w' P ws (fn ws s) F'/\au F w F' w' /\
   w'.ownsRow w.heap.size 239 5 v (eW ws s).length (bT (eW ws s))/\(∀k,v.ownBlock=some k->k ∉ F'):=by
 have HQ:=ab h;have hl:=h.f.1;clear h;have jX:(pF ws (aG ws eH s)).nodes.length=0:=by rw[yG,bz,oS];rfl
 have k2:=(jx (ws:=ws) (ws.length+1)).nodes (pF ws (aG ws eH s));have k3:=(jx (ws:=ws) (ws.length+1)).phi (pF ws (aG ws eH s));have k4:=yB (cJ ws (ws.length+1) (pF ws (aG ws eH s)));clear oS;go_enter func69,ntmps69;go_wp2_with fail
 refine(aY eH (by decide) (uh HQ)).mono ?_;rintro e w1 ⟨rfl,dN,bX⟩;have fs:=ab dN;have cD:=ab bX;clear dN bX;go_wp2_with fail
 refine(Cz (uh fs)).mono ?_;rintro e w2 ⟨v,F2,rfl,cg,bS,bC,Im⟩;have d7:=ab cg;have cS:=ab ((uh cD).trans bS);have HW2:=ab bC;have HU2:=ab Im;have fK:=(uh cD).size;clear cg bS bC Im;go_wp2_with fail
 refine(M5 (ws.length+1) w2 _ F2 (uh d7) (λ_=>by omega) (by omega)).mono ?_;rintro e w3 ⟨rfl,F3,fI,cB⟩;have hp3:=fI.f.2.1;have HW3:=ab (ul (uh HW2) cB (uh HU2));have HU3:Hid (∀k,v.ownBlock=some k->k ∉ F3):=ab (λk hk hm=>by
  rcases cB.foot k hm with h|h
  .exact uh HU2 k hk h
  .have:=((uh HW2).lt k hk).2;omega)
 have jb:=ab fI;have gu:=ab ((uh cS).trans cB);clear fI cB;go_wp2_with fail
 refine(SH (uh jb) (by omega)).mono ?_;rintro e w4 ⟨rfl,F4,mp,fh⟩;have HW4:=ab (ul (uh HW3) fh (uh HU3));have HU4:Hid (∀k,v.ownBlock=some k->k ∉ F4):=ab (λk hk hm=>by
  rcases fh.foot k hm with h|h
  .exact uh HU3 k hk h
  .have:=((uh HW3).lt k hk).2;omega)
 have oJ:Hid (eO B WV w4 P ws (Eu ws s) F4):=ab mp;have mA:=ab ((uh gu).trans fh);clear mp fh;go_wp2_with fail
 refine(E7 (uh oJ)).mono ?_;rintro e w5 ⟨rfl,rV,fX⟩;have HW5:=ab (ul (uh HW4) fX (uh HU4));have GN:Hid (eO B WV w5 P ws (fn ws s) F4):=ab rV;have s9:=ab ((uh mA).trans fX);clear rV fX;go_wp2_with fail
 go_ret;exact⟨v,F4,rfl,uh GN,uh s9,rb (uh HW5) fK,uh HU4⟩
end
