import Derived.Test.YtciihepbeacppaaGreatM02
set_option maxRecDepth 100000
set_option maxHeartbeats 0
namespace Go.Proofs.YtciihepbeacppaaGreat
open Tryz Go.RowKit List World Below
set_option linter.unusedVariables false
theorem aa7(l:List Nd):(bi l).length=l.length*6:=by
 induction l with
 |nil=>rfl
 |cons a r ih=>simp only[bi,flatMap_cons,length_append,length_cons]at *;rw[ih];simp[Nd.cells];omega
theorem wI(k n:Nat)(l:List Nd):bi (ei k n l)=(bi l).set (k*6+5) (.int .i64 n):=by
 induction l generalizing k with
 |nil=>simp[bi,ei]
 |cons a r ih =>
  cases k with
  |zero=>simp[bi,ei,Nd.cells]
  |succ k =>
   have:=ih k;simp only[bi,ei,modify_succ_cons,flatMap_cons]at *;rw[this,show(k+1)*6+5=(k*6+5)+a.cells.length by simp[Nd.cells];omega,set_append_right _ _ (by omega)];simp
theorem DM(k n:Nat)(l:List Nd):bi (gS k n l)=(bi l).set (k*6+4) (.int .i64 n):=by
 induction l generalizing k with
 |nil=>simp[bi,gS]
 |cons a r ih =>
  cases k with
  |zero=>simp[bi,gS,Nd.cells]
  |succ k =>
   have:=ih k;simp only[bi,gS,modify_succ_cons,flatMap_cons]at *;rw[this,show(k+1)*6+4=(k*6+4)+a.cells.length by simp[Nd.cells];omega,set_append_right _ _ (by omega)];simp
theorem VC{w:World}{B:Nat}{e:TypeId}{sz n g cap j:Nat}{xs:List Value}(h:w.ownsRow B e sz (.slice (some ⟨g,0,none⟩) n cap) n xs)(u:Value):
  (w.setCell ⟨g,j,none⟩ u).ownsRow B e sz (.slice (some ⟨g,0,none⟩) n cap) n (xs.set j u):=by
 refine⟨by simpa using h.1,?_⟩;rcases h.2 with⟨h0,_⟩|⟨g',cap',cur,hv,hB,hg,hn,hm,hs,ht⟩
 .cases h0
 .simp only[Value.slice.injEq,Option.some.injEq,Addr.mk.injEq]at hv;obtain⟨⟨rfl,_⟩,_,rfl⟩:=hv;refine .inr ⟨g,cap,cur.setIfInBounds j u,rfl,hB,yC hg u,hn,hm,by simpa using hs,?_⟩;rw[Array.toList_setIfInBounds,take_set,ht]
section
variable {B:Nat} {WV:Value} {w:World} {P:Nat} {ws:List ByteArray} {s:PS} {F:List Nat} {wv vv hv:Value} {g cap:Nat}
theorem dI.setNode(h:dI B WV w P ws s F wv vv hv (.slice (some ⟨g,0,none⟩) s.nodes.length cap))(j:Nat)(u:Value)(l:List Nd)(hl:bi l=(bi s.nodes).set j u)(yr:l.length=s.nodes.length):
  dI B WV (w.setCell ⟨g,j,none⟩ u) P ws { s with nodes:=l } F wv vv hv (.slice (some ⟨g,0,none⟩) s.nodes.length cap):=by
 have eK:=h.apart;obtain⟨hP,hB,h1,h2,h3,h4,hF,hN⟩:=h;have hg:(Value.slice (some ⟨g,0,none⟩) s.nodes.length cap).ownBlock=some g:=rfl;have aH:∀k,k≠g->(w.setCell ⟨g,j,none⟩ u).heap[k]?=w.heap[k]?:=λk hk=>heap_setCell _ _ _ _ hk;have ho:=eK.2.2.2 g hg;refine⟨by rw[aH P (λe=>eK.1 g (by simp[hg]) e.symm)];exact hP,hB,ae h1 (λk hk=>aH k (λe=>ho.1 (by rw[<-e];exact hk))),ae h2 (λk hk=>aH k (λe=>ho.2.1 (by rw[<-e];exact hk))),
  ae h3 (λk hk=>aH k (λe=>ho.2.2 (by rw[<-e];exact hk))),?_,hF,hN⟩
 exact iR (w:=w.setCell ⟨g,j,none⟩ u) (by have:=VC h4 (j:=j) u;exact this) yr hl
theorem dI.nodeCell(h:dI B WV w P ws s F wv vv hv (.slice (some ⟨g,0,none⟩) s.nodes.length cap))(j:Nat)(hj:j<s.nodes.length*6):(∃v,w.cell? ⟨g,j,none⟩=some v/\v∈bi s.nodes)/\w.frozen? ⟨g,j,none⟩=false:=by
 obtain⟨hP,hB,h1,h2,h3,h4,hF,hN⟩:=h;have hl:j<(bi s.nodes).length:=by rw[aa7];exact hj
 constructor
 .have:=h4.cells (g:=g) rfl j _ (getElem?_eq_getElem hl);rw[show(⟨g,0,none⟩:Addr).add j=⟨g,j,none⟩ by unfold Addr.add;split <;> simp_all]at this;exact⟨_,this,getElem_mem _⟩
 .rcases h4.2 with⟨h0,_⟩|⟨g',cap',cur,hv,hB,hg,hn,hm,hs,ht⟩
  .cases h0
  .simp only[Value.slice.injEq,Option.some.injEq,Addr.mk.injEq]at hv;obtain⟨⟨rfl,_⟩,_,rfl⟩:=hv;simp[World.frozen?,hg]
theorem jW{l:List Nd}{v:Value}(h:v∈bi l):∃n:Int,v=.int .i64 n:=by
 simp only[bi,mem_flatMap,Nd.cells]at h;obtain⟨a,_,h⟩:=h;simp at h;rcases h with h|h|h|h|h|h <;> exact⟨_,h⟩
end
def GZ(B:Nat)(WV:Value)(P:Nat)(ws:List ByteArray)(blk:PS->PS)(f:Nat):Prop :=
 ∀(w:World) (s:PS) (F:List Nat),fj B WV w P ws s F->(s.failed=false->ws.length<f+s.pos)->s.nodes.length+2*ws.length<=60000+2*s.pos ->
  Calls prog 122 #[.pointer (some ⟨P,0,none⟩)] w λe w'=>e=.returned (.tuple #[])/\∃F',fj B WV w' P ws (blk s) F'/\ar F w F' w'
section
variable {B:Nat} {WV:Value} {w:World} {P:Nat} {ws:List ByteArray} {s:PS} {F:List Nat} {wv vv hv:Value} {g cap:Nat}
theorem Hh(h:fj B WV w P ws s F)(hn:s.nodes.length<=100000):
  Calls prog 123 #[.pointer (some ⟨P,0,none⟩),.agg #[.int .i64 10,.int .i64 0,.int .i64 0,.int .i64 0,.int .i64 0,.int .i64 0]] w λe w'=>e=.returned (.int .i64 s.nodes.length)/\∃F',fj B WV w' P ws (ci iN s) F'/\ar F w F' w' :=
 t0 iN h hn
theorem dI.inF{w0:World}{F0:List Nat}{n:Nat}{j:Nat}(h:dI B WV w P ws s F wv vv hv (.slice (some ⟨g,0,none⟩) n cap))(hS:ar F0 w0 F w):(⟨g,j,none⟩:Addr).block∈F0\/w0.heap.size<=(⟨g,j,none⟩:Addr).block :=
 hS.foot g (by rw[h.2.2.2.2.2.2.1];simp[Value.ownBlock])
theorem fj.nodesAt(h:fj B WV w P ws s F)(hn:0<s.nodes.length):∃wv vv hv g cap,dI B WV w P ws s F wv vv hv (.slice (some ⟨g,0,none⟩) s.nodes.length cap):=by
 obtain⟨wv,vv,hv,nv,ez⟩:=h.m.named;rcases ez.2.2.2.2.2.1.2 with⟨_,h0⟩|⟨g,cap,cur,rfl,_⟩
 .omega
 .exact⟨wv,vv,hv,g,cap,ez⟩
theorem Qd{blk:PS->PS}{f:Nat}(cC:GZ B WV P ws blk f)(gd:MG blk)(hb:bL ws bP s=true)(dY:ws.length<f+1+s.pos)(tP:s.nodes.length+2*ws.length<=60000+2*s.pos)(h:fj B WV w P ws s F):
  Calls prog 187 #[.pointer (some ⟨P,0,none⟩)] w λe w'=>e=.returned (.tuple #[])/\∃F',fj B WV w' P ws (xY blk ws s) F'/\ar F w F' w':=by
 have HQ:=ab h;have hp0:=h.f.2.1;clear h;have HE:Hid (aF ws bP s=s.adv):=ab (if_pos hb);have UK:s.adv.pos=s.pos+1:=rfl;have hna:s.adv.nodes.length=s.nodes.length:=rfl;have hts:=uR (ws:=ws) (s:=s.adv);have XL:=oK (ws:=ws) (s:=s.adv);have h1:=gd.pos (gB ws s.adv);have h2:=gd.nodes (gB ws s.adv);have h3:=gd.phi (gB ws s.adv);have h4:=y7 (blk (gB ws s.adv));have B7:Hid (nz blk ws s=blk (gB ws s.adv)):=ab (by unfold nz;rw[uh HE]);have MI:=ab cC;clear cC hb;go_enter func187,ntmps187;go_wp2_with fail
 refine(aZ bP (by decide) (uh HQ)).mono ?_;rintro e w1 ⟨rfl,dW,bU⟩;rw[uh HE]at dW;have fH:=ab dW;have cI:=ab bU;clear dW bU;go_wp2_with fail
 refine(xC (s:=s.adv) (by omega) (uh fH)).mono ?_;rintro e w2 ⟨rfl,F2,ce,bZ⟩;have ep:=ab ce;have dh:=ab ((uh cI).trans bZ);clear ce bZ;go_wp2_with fail
 refine(uh MI _ _ _ (uh ep) (λ_=>by omega) (by omega)).mono ?_;rintro e w3 ⟨rfl,F3,fT,cS⟩;have ja:=ab fT;have iV:=ab ((uh dh).trans cS);clear fT cS;have hp3:=(uh ja).f.2.1;go_wp2_with fail
 refine(Hh (uh ja) (by omega)).mono ?_;rintro e w4 ⟨rfl,F4,mx,fE⟩;have oO:=ab mx;have mF:=ab ((uh iV).trans fE);clear mx fE;obtain⟨z,hz⟩:∃z,z=blk (gB ws s.adv):=⟨_,rfl⟩;rw[<-hz]at oO h1 h2 h3 h4 B7 ⊢;clear hz;have hzn:(ci iN z).nodes.length=z.nodes.length+1:=by simp[ci]
 obtain⟨wv,vv,hv,g,cap,ez⟩:=(uh oO).nodesAt (by omega);obtain⟨_,_,_,_,c5,_⟩:=ez.readsV;obtain⟨⟨v4,IL,EI⟩,f4⟩:=ez.nodeCell (z.nodes.length*6+4) (by omega);obtain⟨x4,rfl⟩:=jW EI;rw[hzn]at c5;have yc:=ab ez;clear ez EI;go_wp2_with fail
 have FZ:=(uh yc).setNode (z.nodes.length*6+4) (.int .i64 (s.nodes.length:Int)) (gS z.nodes.length s.nodes.length (ci iN z).nodes) (DM _ _ _) (dx _ _ _);have AM:=(uh mF).setCell (p:=⟨g,z.nodes.length*6+4,none⟩) (w:=w4) ((uh yc).inF (uh mF)) (.int .i64 (s.nodes.length:Int));generalize w4.setCell ⟨g,z.nodes.length*6+4,none⟩ (.int .i64 (s.nodes.length:Int))=w5 at FZ AM ⊢;clear c5 IL f4;obtain⟨y,hy⟩:∃y:PS,y={ ci iN z with nodes:=gS z.nodes.length s.nodes.length (ci iN z).nodes }:=⟨_,rfl⟩;have hyn:y.nodes.length=z.nodes.length+1:=by rw[hy];simp[dx,ci]
 rw[<-hy]at FZ;have HY:=ab hy;clear hy;rw[show(ci iN z).nodes.length=y.nodes.length by rw[hyn,hzn]]at FZ;obtain⟨_,_,_,_,c5,_⟩:=FZ.readsV;obtain⟨⟨v5,hv5,hm5⟩,f5⟩:=FZ.nodeCell (s.nodes.length*6+5) (by omega);obtain⟨x5,rfl⟩:=jW hm5;have aec:=ab FZ;have aej:=ab AM;clear FZ AM hm5;rw[hyn]at c5;go_region
 go_end0
 have Lb:=(uh aec).setNode (s.nodes.length*6+5) (.int .i64 ((z.nodes.length:Int)+1)) (ei s.nodes.length (z.nodes.length+1) y.nodes) (wI _ _ _) (bS _ _ _);have vW:xY blk ws s={ y with nodes:=ei s.nodes.length (z.nodes.length+1) y.nodes }:=by unfold xY;rw[uh B7,uh HY,hzn]
 have FN:Ek ws (xY blk ws s):=by rw[vW,uh HY];exact(uh oO).f
 exact⟨rfl,F4,⟨by rw[vW];exact Lb.is.drew,FN⟩,((uh aej).setCell (p:=⟨g,s.nodes.length*6+5,none⟩) ((uh aec).inF (uh aej)) _).drew⟩
end
section
variable {B:Nat} {WV:Value} {w:World} {P:Nat} {ws:List ByteArray} {s:PS} {F:List Nat} {wv vv hv:Value} {g cap:Nat}
theorem Fe{blk:PS->PS}{f:Nat}(cC:GZ B WV P ws blk f)(gd:MG blk)(hb:bL ws md s=true)(dY:ws.length<f+1+s.pos)(tP:s.nodes.length+2*ws.length<=60000+2*s.pos)(h:fj B WV w P ws s F):
  Calls prog 186 #[.pointer (some ⟨P,0,none⟩)] w λe w'=>e=.returned (.tuple #[])/\∃F',fj B WV w' P ws (pO blk ws s) F'/\ar F w F' w':=by
 have HQ:=ab h;have hp0:=h.f.2.1;clear h;have HE:Hid (aF ws md s=s.adv):=ab (if_pos hb);have UK:s.adv.pos=s.pos+1:=rfl;have hna:s.adv.nodes.length=s.nodes.length:=rfl;have hts:=uR (ws:=ws) (s:=s.adv);have XL:=oK (ws:=ws) (s:=s.adv);have h1:=gd.pos (gB ws s.adv);have h2:=gd.nodes (gB ws s.adv);have h3:=gd.phi (gB ws s.adv);have B7:Hid (cJ blk ws s=blk (gB ws s.adv)):=ab (by unfold cJ;rw[uh HE]);have MI:=ab cC;have HGD:=ab gd;clear cC hb gd;obtain⟨z,hz⟩:∃z,z=blk (gB ws s.adv):=⟨_,rfl⟩;rw[<-hz]at h1 h2 h3 B7;have HZ:=ab hz;clear hz;cases he:bL ws iP z with
 |false =>
  have yG:Hid (lW ws iP z=z):=ab (if_neg (by simp[he]));have HS:Hid (pO blk ws s={ z with nodes:=ei s.nodes.length z.nodes.length z.nodes }):=ab (by unfold pO;rw[uh B7,he];rfl);have eP:=ab he;clear he;go_enter func186,ntmps186;go_wp2_with fail
  refine(aZ md (by decide) (uh HQ)).mono ?_;rintro e w1 ⟨rfl,dW,bU⟩;rw[uh HE]at dW;have fH:=ab dW;have cI:=ab bU;clear dW bU;go_wp2_with fail
  refine(xC (s:=s.adv) (by omega) (uh fH)).mono ?_;rintro e w2 ⟨rfl,F2,ce,bZ⟩;have ep:=ab ce;have dh:=ab ((uh cI).trans bZ);clear ce bZ;go_wp2_with fail
  refine(uh MI _ _ _ (uh ep) (λ_=>by omega) (by omega)).mono ?_;rintro e w3 ⟨rfl,F3,fT,cS⟩;have ja:=ab fT;have iV:=ab ((uh dh).trans cS);clear fT cS;rw[<-uh HZ]at ja;have hp3:=(uh ja).f.2.1;have x8:=aA iP (by decide) (uh ja);rw[uh eP,uh yG]at x8;replace x8:=ab x8
  go_wp2_with fail
  refine(uh x8).mono ?_;rintro e w4 ⟨rfl,mx,fE⟩;have oO:=ab mx;have mF:=ab ((uh iV).trans fE);clear mx fE;obtain⟨wv,vv,hv,g,cap,ez⟩:=(uh oO).nodesAt (by omega);obtain⟨_,_,_,_,c5,_⟩:=ez.readsV;obtain⟨⟨v4,IL,EI⟩,f4⟩:=ez.nodeCell (s.nodes.length*6+5) (by omega);obtain⟨x4,rfl⟩:=jW EI;have yc:=ab ez;clear ez EI;have hfb:=y7 z;go_wp2_with fail
  go_region
  go_wp2_with fail
  refine bodyPost_ret (results_none rfl _ _ _) rfl ?_;have Lb:=(uh yc).setNode (s.nodes.length*6+5) (.int .i64 (z.nodes.length:Int)) (ei s.nodes.length z.nodes.length z.nodes) (wI _ _ _) (bS _ _ _);exact⟨rfl,F3,⟨by rw[uh HS];exact Lb.is.drew,by rw[uh HS];exact(uh oO).f⟩,((uh mF).setCell (p:=⟨g,s.nodes.length*6+5,none⟩) ((uh yc).inF (uh mF)) _).drew⟩
 |true =>
  have yG:Hid (lW ws iP z=z.adv):=ab (if_pos he);have HS:Hid (pO blk ws s=Np z.nodes.length (blk (lQ s.nodes.length z))):=ab (by unfold pO;rw[uh B7,he];rfl);have hfz:fb z=0:=y9 (zD (ws:=ws) (s:=z) (by rw[jj he];decide)).1;have eP:=ab he;clear he;have hza:z.adv.pos=z.pos+1:=rfl;have hzl:z.adv.nodes.length=z.nodes.length:=rfl;have hbp:(lQ s.nodes.length z).pos=z.pos+1:=rfl;have cL:(lQ s.nodes.length z).nodes.length=z.nodes.length+1:=by simp[lQ,bS,ci,PS.adv]
  have k2:=(uh HGD).nodes (lQ s.nodes.length z);have k3:=(uh HGD).phi (lQ s.nodes.length z);have k4:=y7 (blk (lQ s.nodes.length z));go_enter func186,ntmps186;go_wp2_with fail
  refine(aZ md (by decide) (uh HQ)).mono ?_;rintro e w1 ⟨rfl,dW,bU⟩;rw[uh HE]at dW;have fH:=ab dW;have cI:=ab bU;clear dW bU;go_wp2_with fail
  refine(xC (s:=s.adv) (by omega) (uh fH)).mono ?_;rintro e w2 ⟨rfl,F2,ce,bZ⟩;have ep:=ab ce;have dh:=ab ((uh cI).trans bZ);clear ce bZ;go_wp2_with fail
  refine(uh MI _ _ _ (uh ep) (λ_=>by omega) (by omega)).mono ?_;rintro e w3 ⟨rfl,F3,fT,cS⟩;have ja:=ab fT;have iV:=ab ((uh dh).trans cS);clear fT cS;rw[<-uh HZ]at ja;have hp3:=(uh ja).f.2.1;have x8:=aA iP (by decide) (uh ja);rw[uh eP,uh yG]at x8;replace x8:=ab x8
  go_wp2_with fail
  refine(uh x8).mono ?_;rintro e w4 ⟨rfl,mx,fE⟩;have oO:=ab mx;have mF:=ab ((uh iV).trans fE);clear mx fE;go_wp2_with fail
  refine(Hh (uh oO) (by omega)).mono ?_;rintro e w5 ⟨rfl,F5,sg,gh⟩;have Hb:=ab sg;have tE:=ab ((uh mF).trans gh);clear sg gh;have hyn:(ci iN z.adv).nodes.length=z.nodes.length+1:=by simp[ci,PS.adv]
  obtain⟨wv,vv,hv,g,cap,ez⟩:=(uh Hb).nodesAt (by omega);obtain⟨_,_,_,_,c5,_⟩:=ez.readsV;obtain⟨⟨v4,IL,EI⟩,f4⟩:=ez.nodeCell (s.nodes.length*6+5) (by omega);obtain⟨x4,rfl⟩:=jW EI;rw[hyn]at c5;have yc:=ab ez;clear ez EI;go_wp2_with fail
  go_region
  go_wp2_with fail
  have Lb:=(uh yc).setNode (s.nodes.length*6+5) (.int .i64 ((z.nodes.length:Int)+1)) (ei s.nodes.length (ci iN z.adv).nodes.length (ci iN z.adv).nodes) (by rw[wI,hyn];rfl) (bS _ _ _);have HQ6:Hid (fj B WV ((w5.setCell ⟨g,s.nodes.length*6+5,none⟩ (.int .i64 ((z.nodes.length:Int)+1))).drew) P ws (lQ s.nodes.length z) F5):=ab ⟨Lb.is.drew,(uh Hb).f⟩;have HS6:Hid (ar F w F5 ((w5.setCell ⟨g,s.nodes.length*6+5,none⟩ (.int .i64 ((z.nodes.length:Int)+1))).drew)):=ab ((uh tE).setCell (p:=⟨g,s.nodes.length*6+5,none⟩) ((uh yc).inF (uh tE)) _).drew;clear Lb c5 IL f4;generalize (w5.setCell ⟨g,s.nodes.length*6+5,none⟩ (.int .i64 ((z.nodes.length:Int)+1))).drew=w6 at HQ6 HS6 ⊢;refine(uh MI _ _ _ (uh HQ6) (λ_=>by omega) (by omega)).mono ?_;rintro e w7 ⟨rfl,F7,hI7,Ez⟩;have HI7:=ab hI7;have WM:=ab ((uh HS6).trans Ez);have hp7:=hI7.f.2.1;clear hI7 Ez;obtain⟨y,hy⟩:∃y,y=blk (lQ s.nodes.length z):=⟨_,rfl⟩;rw[<-hy]at HI7 k2 k3 k4 hp7 HS;clear hy;obtain⟨wv,vv,hv,g2,cap2,ez⟩:=(uh HI7).nodesAt (by omega);obtain⟨_,_,_,_,c5,_⟩:=ez.readsV;obtain⟨⟨v4,IL,EI⟩,f4⟩:=ez.nodeCell (z.nodes.length*6+4) (by omega);obtain⟨x4,rfl⟩:=jW EI;have aed:=ab ez;clear ez EI;go_wp2_with fail
  go_region
  go_end0
  have alX:=(uh aed).setNode (z.nodes.length*6+4) (.int .i64 (y.nodes.length:Int)) (gS z.nodes.length y.nodes.length y.nodes) (DM _ _ _) (dx _ _ _);exact⟨rfl,F7,⟨by rw[uh HS];exact alX.is.drew,by rw[uh HS];exact(uh HI7).f⟩,((uh WM).setCell (p:=⟨g2,z.nodes.length*6+4,none⟩) ((uh aed).inF (uh WM)) _).drew⟩
theorem CP{blk:PS->PS}{f:Nat}(cC:GZ B WV P ws blk f)(gd:MG blk)(dY:ws.length<f+1+s.pos)(tP:s.nodes.length+2*ws.length<=60000+2*s.pos)(h:fj B WV w P ws s F):
  Calls prog 161 #[.pointer (some ⟨P,0,none⟩)] w λe w'=>e=.returned (.tuple #[])/\∃F',fj B WV w' P ws (kA blk ws s) F'/\ar F w F' w':=by
 have HQ:=ab h;have hp0:=h.f.2.1;have HK:=ab (lG h);clear h;cases hb:bL ws md s with
 |true =>
  have HS:Hid (kA blk ws s=pO blk ws s):=ab (if_pos hb);have xQ:((pk ws s).toList==md.toList)=true:=hb;have yF:=λn=>ab (Fe (w:=w.drewN n) cC gd hb dY tP ⟨(uh HQ).m.drewN n,(uh HQ).f⟩);rw[show md.toList=[105,102] from (ByteArray.toList_eq _)]at xQ;clear hb cC gd;go_enter func161,ntmps161;go_wp2_with (first|(go_at_call 160;refine(uh HK).mono ?_;rintro e w' ⟨rfl,n,rfl⟩)|(go_at_call 186;refine(uh (yF n)).mono ?_;rintro e w2 ⟨rfl,F2,ce,bZ⟩))
  go_end0
  exact⟨rfl,F2,by rw[uh HS];exact ce,((ar.refl F w).drewN n).trans bZ⟩
 |false =>
  have xQ:((pk ws s).toList==md.toList)=false:=hb;rw[show md.toList=[105,102] from (ByteArray.toList_eq _)]at xQ;cases aW:bL ws bP s with
  |true =>
   have HS:Hid (kA blk ws s=xY blk ws s):=ab (by unfold kA;rw[hb,aW];rfl);have Z2:((pk ws s).toList==bP.toList)=true:=aW;have yF:=λn=>ab (Qd (w:=w.drewN n) cC gd aW dY tP ⟨(uh HQ).m.drewN n,(uh HQ).f⟩);rw[show bP.toList=[119,104,105,108,101] from (ByteArray.toList_eq _)]at Z2;clear hb aW cC gd;go_enter func161,ntmps161;go_wp2_with (first|(go_at_call 160;refine(uh HK).mono ?_;rintro e w' ⟨rfl,n,rfl⟩)|(go_at_call 187;refine(uh (yF n)).mono ?_;rintro e w2 ⟨rfl,F2,ce,bZ⟩))
   go_end0
   exact⟨rfl,F2,by rw[uh HS];exact ce,((ar.refl F w).drewN n).trans bZ⟩
  |false =>
   have HS:Hid (kA blk ws s=rK ws s):=ab (by unfold kA;rw[hb,aW];rfl);have Z2:((pk ws s).toList==bP.toList)=false:=aW;rw[show bP.toList=[119,104,105,108,101] from (ByteArray.toList_eq _)]at Z2;clear hb aW cC gd;go_enter func161,ntmps161;go_wp2_with (go_at_call 160;refine(uh HK).mono ?_;rintro e w' ⟨rfl,n,rfl⟩)
   refine(GM (w:=w.drewN n) ⟨(uh HQ).m.drewN n,(uh HQ).f⟩).mono ?_;rintro e w1 ⟨rfl,F1,dW,bU⟩;have fH:=ab dW;have cI:=ab (((ar.refl F w).drewN n).trans bU);clear dW bU;obtain⟨A0,Ck⟩:∃A0,A0=kP ws s:=⟨_,rfl⟩;have HA0:=ab Ck;rw[<-Ck];clear Ck;obtain⟨n0,n1,n2,n3,n4,n5⟩:=A0;simp only[Nd.cells];go_wp2_with fail
   refine(aZ jd (by decide) ((uh fH).alloc _)).mono ?_;rintro e w2 ⟨rfl,ce,bZ⟩;obtain⟨aW,xV,yq⟩:=bH (uh fH).m bZ;obtain⟨⟨q0,q1,q2,q3,q4,q5⟩,_⟩:=gG aW;have FJ:=t0 ⟨n0,n1,n2,n3,n4,n5⟩ ce (by rw[bp,zO];omega);simp only[Nd.cells]at FJ;have Yc:=ab FJ;have dh:=ab ((uh cI).trans (((ar.refl F1 w1).alloc _).trans bZ));clear FJ ce bZ aW;go_wp2_with fail
   refine(uh Yc).mono ?_;rintro e w3 ⟨rfl,F3,fT,cS⟩;have ja:=ab fT;have iV:=ab ((uh dh).trans cS);clear fT cS;go_wp2_with fail
   go_end0
   refine⟨rfl,F3,?_,uh iV⟩;rw[uh HS];unfold rK;rw[<-uh HA0];exact uh ja
end
theorem vF{ws:List ByteArray}{c:PS->PS}(n:Nat){s:PS}(h:(s.failed||bL ws k8 s)=true):ji c ws n s=s:=by
 cases n with
 |zero=>rfl
 |succ n=>simp only[ji];rw[if_pos h]
theorem Y7{ws:List ByteArray}{c:PS->PS}(n:Nat){s:PS}(h:(s.failed||bL ws k8 s)=false):ji c ws (n+1) s=ji c ws n (c s):=by
 simp only[ji];rw[if_neg (by simp[h])]
theorem vI{ws:List ByteArray}{k:ByteArray}{s:PS}(hk:k.size≠0)(h:s.failed=true):aF ws k s=s:=by
 unfold aF;rw[vt k hk h];obtain⟨a,b,c,d,e⟩:=s;simp only at h;subst h;rfl
section
variable {B:Nat} {WV:Value} {w:World} {P:Nat} {ws:List ByteArray} {s:PS} {F:List Nat} {wv vv hv:Value} {g cap:Nat}
theorem vz {c:PS->PS} {n:Nat}
  (afK:∀(w:World) (st:PS) (F:List Nat),fj B WV w P ws st F->st.failed=false->ws.length<n+st.pos->st.nodes.length+2*ws.length<=60000+2*st.pos ->
   Calls prog 161 #[.pointer (some ⟨P,0,none⟩)] w λe w'=>e=.returned (.tuple #[])/\∃F',fj B WV w' P ws (c st) F'/\ar F w F' w')
  (hc:∀s,s.pos<=(c s).pos/\((c s).failed=false->s.pos<(c s).pos)/\(c s).nodes.length+2*s.pos<=s.nodes.length+2*(c s).pos+fb (c s))
  (dY:s.failed=false->ws.length<n+s.pos) (tP:s.nodes.length+2*ws.length<=60000+2*s.pos) (h:fj B WV w P ws s F) :
  Calls prog 122 #[.pointer (some ⟨P,0,none⟩)] w λe w'=>e=.returned (.tuple #[])/\∃F',fj B WV w' P ws (aF ws k8 (ji c ws (ws.length+2) (aF ws mC s))) F'/\ar F w F' w':=by
 have HQ:=ab h;clear h;have aju:=ab afK;have HC:=ab hc;have HFU:=ab dY;clear afK hc dY;have e1:=cy (ws:=ws) (s:=s) mC;have e2:(aF ws mC s).nodes.length=s.nodes.length:=by rw[bp]
 have HE3:Hid ((aF ws mC s).failed=false->ws.length<n+(aF ws mC s).pos):=ab (λh=>by have:=uh HFU (jJ _ h).2.1;omega);go_enter func122,ntmps122;go_wp2_with fail
 refine(aZ mC (by decide) (uh HQ)).mono ?_;rintro e w1 ⟨rfl,dW,bU⟩;have fH:=ab dW;have cI:=ab bU;clear dW bU;go_wp2_with fail
 go_loopg [4] (ws.length+2) (λm _ wr=>∃(st:PS) (F2:List Nat),fj B WV wr P ws st F2/\ar F w F2 wr/\(aF ws mC s).pos<=st.pos /\
  Hid (ji c ws (ws.length+2) (aF ws mC s)=ji c ws m st)/\Hid (st.failed=false->ws.length<n+st.pos/\ws.length<m+st.pos/\st.nodes.length+2*ws.length<=60000+2*st.pos))
 case atStart =>
  exact⟨aF ws mC s,F,uh fH,uh cI,zq4 _,rfl,λh=>⟨uh HE3 h,by omega,by omega⟩⟩
 case round =>
  obtain⟨st,F2,hI,hS,aav,Xw,bn⟩:=hrel;have HI:=ab hI;have HS:=ab hS;obtain⟨c1,c2,_,_⟩:=hI.m.reads;have HK:=ab (lG hI);clear hI hS c1;cases hf:st.failed with
  |true =>
   rw[hf]at c2;have HEQ:Hid (ji c ws (ws.length+2) (aF ws mC s)=st):=ab (by rw[uh Xw];exact vF _ (by simp[hf]));clear hf Xw bn;go_wp2_with fail
   refine(aZ k8 (by decide) (uh HI)).mono ?_;rintro e w2 ⟨rfl,ce,bZ⟩;have ep:=ab ce;have dh:=ab ((uh HS).trans bZ);clear ce bZ;go_wp2_with fail
   go_end0
   exact⟨rfl,F2,by rw[uh HEQ];exact uh ep,uh dh⟩
  |false =>
   rw[hf]at c2;cases hb:bL ws k8 st with
   |true =>
    have xQ:((pk ws st).toList==k8.toList)=true:=hb;rw[show k8.toList=[125] from (ByteArray.toList_eq _)]at xQ;have HEQ:Hid (ji c ws (ws.length+2) (aF ws mC s)=st):=ab (by rw[uh Xw];exact vF _ (by simp[hb]));clear hf hb Xw bn;go_wp2_with (go_at_call 160;refine(uh HK).mono ?_;rintro e w' ⟨rfl,nn,rfl⟩)
    refine(aZ k8 (by decide) (w:=wr.drewN nn) ⟨(uh HI).m.drewN nn,(uh HI).f⟩).mono ?_;rintro e w2 ⟨rfl,ce,bZ⟩;have ep:=ab ce;have dh:=ab (((uh HS).drewN nn).trans bZ);clear ce bZ;go_wp2_with fail
    go_end0
    exact⟨rfl,F2,by rw[uh HEQ];exact uh ep,uh dh⟩
   |false =>
    have xQ:((pk ws st).toList==k8.toList)=false:=hb;rw[show k8.toList=[125] from (ByteArray.toList_eq _)]at xQ;obtain⟨o1,o2,o3⟩:=uh bn hf;have hps:=(uh HI).f.2.1;obtain⟨m,rfl⟩:∃m,gk=m+1:=⟨gk-1,by omega⟩;have HEQ:Hid (ji c ws (ws.length+2) (aF ws mC s)=ji c ws m (c st)):=ab (by rw[uh Xw];exact Y7 _ (by simp[hb,hf]));have HF:=ab hf;clear hf hb Xw bn;go_wp2_with (go_at_call 160;refine(uh HK).mono ?_;rintro e w' ⟨rfl,nn,rfl⟩)
    refine(uh aju (wr.drewN nn) st F2 ⟨(uh HI).m.drewN nn,(uh HI).f⟩ (uh HF) o1 o3).mono ?_;rintro e w2 ⟨rfl,F3,ce,bZ⟩;have ep:=ab ce;have dh:=ab (((uh HS).drewN nn).trans bZ);clear ce bZ;go_wp2_with fail
    obtain⟨d1,d2,d3⟩:=uh HC st;go_roundg m
    case measure=>omega
    case rel =>
     refine⟨c st,F3,uh ep,uh dh,by omega,uh HEQ,λhcf=>?_⟩;have:=d2 hcf;rw[y9 hcf]at d3;exact⟨by omega,by omega,by omega⟩
theorem No(f:Nat):GZ B WV P ws (cM ws f) f:=by
 induction f with
 |zero =>
  intro w s F h dY tP;have hps:=h.f.2.1;have hf:s.failed=true:=by
   cases hf:s.failed with
   |true=>rfl
   |false=>have:=dY hf;omega
  have hw:=vz (c:=PS.adv) (n:=0) (B:=B) (P:=P) (ws:=ws) (s:=s) (F:=F) (w:=w) (λ_ st _ hi _ au _=>by have:=hi.f.2.1;omega) (λs=>⟨dl,λ_=>Nat.lt_succ_self _,by show s.nodes.length+2*s.pos<=s.nodes.length+2*(s.pos+1)+_;omega⟩) dY tP h;rw[vI (by decide) hf,vF _ (by simp[hf]),vI (by decide) hf]at hw;exact hw
 |succ f ih =>
  intro w s F h dY tP;exact vz (n:=f+1) (λw st F hi _ au hph=>CP ih (jE f) au hph hi) (λs=>⟨(jG (jE f)).1,λh=>((jG (jE f)).2.2.1 h).2,(jG (jE f)).2.2.2⟩) dY tP h
end
def fP:ByteArray:=⟨#[112,114,101]⟩
def jV:Nd:=⟨0,0,0,0,0,0⟩
def Zo(ws:List ByteArray)(s:PS):PS:=if s.pos=ws.length then s else s.fail
def EQ(ws:List ByteArray)(s:PS):PS:=ci jV (cM ws (ws.length+1) (rH ws (aF ws fP s)))
def fA(ws:List ByteArray)(s:PS):PS:=if (EQ ws s).pos=ws.length then EQ ws s else (EQ ws s).fail
def mD(ws:List ByteArray)(s:PS):List cj:=foA ws (aF ws fP s)
section
variable {B:Nat} {WV:Value} {w:World} {P:Nat} {ws:List ByteArray} {s:PS} {F:List Nat} {wv vv hv nv:Value} {g cap:Nat}
theorem Ll:(Bh ws s).nodes=s.nodes:=by unfold Bh pZ qZ;rw[bp,oJ,bp,oJ,bp]
theorem GF:(fB ws s).nodes=s.nodes:=by unfold fB;split;rfl;split;rfl;exact bp _
theorem yR:(eJ ws s).nodes=s.nodes:=by
 unfold eJ;split;rfl;split
 .rw[Ll];rfl
 .rw[oJ,GF,oJ]
theorem Ks(n:Nat):∀s,(jl ws n s).2.nodes=s.nodes:=by
 induction n with
 |zero=>intro s;rfl
 |succ n ih =>
  intro s;simp only[jl];split
  .show(jl ws n (eJ ws s.adv)).2.nodes=s.nodes;rw[ih,yR];rfl
  .rfl
theorem ze:(rH ws s).nodes=s.nodes:=by unfold rH;rw[Ks,yR]
theorem Tt(h:fj B WV w P ws s F)(hn:s.nodes.length<=100000):
  Calls prog 123 #[.pointer (some ⟨P,0,none⟩),.agg #[.int .i64 0,.int .i64 0,.int .i64 0,.int .i64 0,.int .i64 0,.int .i64 0]] w λe w'=>e=.returned (.int .i64 s.nodes.length)/\∃F',fj B WV w' P ws (ci jV s) F'/\ar F w F' w' :=
 t0 jV h hn
theorem dI.read0(h:dI B WV w P ws s F wv vv hv nv):w.cell? ⟨P,0,none⟩=some wv/\∃ao cap,wv=.slice ao ws.length cap :=
 ⟨(jF h.1).1.1,bD h.2.2.1⟩
theorem rq{w:World}{B B':Nat}{e:TypeId}{sz n:Nat}{v:Value}{xs:List Value}(h:w.ownsRow B e sz v n xs)(hB:B'<=B):w.ownsRow B' e sz v n xs:=by
 refine⟨h.1,?_⟩;rcases h.2 with hn|⟨g,cap,cur,rfl,hb,rest⟩
 .exact .inl hn
 .exact .inr ⟨g,cap,cur,rfl,by omega,rest⟩
theorem Fu(h:fj B WV w P ws s F):
  Calls prog 124 #[.pointer (some ⟨P,0,none⟩)] w λe w'=>e=.returned (.tuple #[])/\fj B WV w' P ws (Zo ws s) F/\ar F w F w':=by
 have HI:=ab h;have hp:=h.f.2.1;have hl:=h.f.1;obtain⟨wv,vv,hv,nv,ez⟩:=h.m.named;obtain⟨c0,ao,cap,rfl⟩:=ez.read0;obtain⟨c1,_,_,_,_,fz⟩:=ez.readsV;have f2:=fz 2;have c2:=h.m.reads.2.1;clear ez fz h;by_cases tj:s.pos=ws.length
 .have HS:Hid (Zo ws s=s):=ab (if_pos tj);have hd:((s.pos:Int) != (ws.length:Int))=false:=by simp[tj]
  clear tj;go_enter func124,ntmps124;go_wp2_with fail
  go_quiet (fail)
  go_wp2_with fail
  go_end0
  exact⟨rfl,by rw[uh HS];exact⟨(uh HI).m.drewN _,(uh HI).f⟩,(ar.refl F w).drewN _⟩
 .have HS:Hid (Zo ws s=s.fail):=ab (if_neg tj);have hd:((s.pos:Int) != (ws.length:Int))=true:=by rw[bne_iff_ne];omega
  clear tj;go_enter func124,ntmps124;go_wp2_with fail
  go_quiet (fail)
  go_wp2_with fail
  go_end0
  exact⟨rfl,by rw[uh HS];exact⟨((uh HI).m.drewN _).setFailed true,(uh HI).f⟩,((ar.refl F w).drewN _).setCell (zq0 (uh HI).m.memP) _⟩
theorem D0(h:fj B WV w P ws s F)(sl:s.nodes=[]):
  Calls prog 69 #[.pointer (some ⟨P,0,none⟩)] w λe w'=>∃v F',e=.returned v/\fj B WV w' P ws (fA ws s) F'/\ar F w F' w' /\
   w'.ownsRow w.heap.size 239 5 v (mD ws s).length (bO (mD ws s))/\(∀k,v.ownBlock=some k->k ∉ F'):=by
 have HQ:=ab h;have hl:=h.f.1;clear h;have jQ:(rH ws (aF ws fP s)).nodes.length=0:=by rw[ze,bp,sl];rfl
 have k2:=(jE (ws:=ws) (ws.length+1)).nodes (rH ws (aF ws fP s));have k3:=(jE (ws:=ws) (ws.length+1)).phi (rH ws (aF ws fP s));have k4:=y7 (cM ws (ws.length+1) (rH ws (aF ws fP s)));clear sl;go_enter func69,ntmps69;go_wp2_with fail
 refine(aZ fP (by decide) (uh HQ)).mono ?_;rintro e w1 ⟨rfl,dW,bU⟩;have fH:=ab dW;have cI:=ab bU;clear dW bU;go_wp2_with fail
 refine(CY (uh fH)).mono ?_;rintro e w2 ⟨v,F2,rfl,ce,bZ,bt,II⟩;have ep:=ab ce;have dh:=ab ((uh cI).trans bZ);have HW2:=ab bt;have HU2:=ab II;have gz:=(uh cI).size;clear ce bZ bt II;go_wp2_with fail
 refine(No (ws.length+1) w2 _ F2 (uh ep) (λ_=>by omega) (by omega)).mono ?_;rintro e w3 ⟨rfl,F3,fT,cS⟩;have hp3:=fT.f.2.1;have HW3:=ab (uM (uh HW2) cS (uh HU2));have HU3:Hid (∀k,v.ownBlock=some k->k ∉ F3):=ab (λk hk hm=>by
  rcases cS.foot k hm with h|h
  .exact uh HU2 k hk h
  .have:=((uh HW2).lt k hk).2;omega)
 have ja:=ab fT;have iV:=ab ((uh dh).trans cS);clear fT cS;go_wp2_with fail
 refine(Tt (uh ja) (by omega)).mono ?_;rintro e w4 ⟨rfl,F4,mx,fE⟩;have HW4:=ab (uM (uh HW3) fE (uh HU3));have HU4:Hid (∀k,v.ownBlock=some k->k ∉ F4):=ab (λk hk hm=>by
  rcases fE.foot k hm with h|h
  .exact uh HU3 k hk h
  .have:=((uh HW3).lt k hk).2;omega)
 have oO:Hid (fj B WV w4 P ws (EQ ws s) F4):=ab mx;have mF:=ab ((uh iV).trans fE);clear mx fE;go_wp2_with fail
 refine(Fu (uh oO)).mono ?_;rintro e w5 ⟨rfl,sg,gh⟩;have HW5:=ab (uM (uh HW4) gh (uh HU4));have Hb:Hid (fj B WV w5 P ws (fA ws s) F4):=ab sg;have tE:=ab ((uh mF).trans gh);clear sg gh;go_wp2_with fail
 go_ret;exact⟨v,F4,rfl,uh Hb,uh tE,rq (uh HW5) gz,uh HU4⟩
end
