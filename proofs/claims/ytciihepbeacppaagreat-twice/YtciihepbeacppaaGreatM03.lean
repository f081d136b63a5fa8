import Derived.Test.YtciihepbeacppaaGreatM02
set_option maxRecDepth 100000
set_option maxHeartbeats 0
namespace Go.Proofs.YtciihepbeacppaaGreat
open Tryz Go.RowKit List World Below
set_option linter.unusedVariables false
theorem Xz(l:List Nd):(bi l).length=l.length*6:=by
 induction l with
 |nil=>rfl
 |cons a r ih=>simp only[bi,flatMap_cons,length_append,length_cons]at *;rw[ih];simp[Nd.cells];omega
theorem tN(k n:Nat)(l:List Nd):bi (dG k n l)=(bi l).set (k*6+5) (.int .i64 n):=by
 induction l generalizing k with
 |nil=>simp[bi,dG]
 |cons a r ih =>
  cases k with
  |zero=>simp[bi,dG,Nd.cells]
  |succ k =>
   have:=ih k;simp only[bi,dG,modify_succ_cons,flatMap_cons]at *;rw[this,show(k+1)*6+5=(k*6+5)+a.cells.length by simp[Nd.cells];omega,set_append_right _ _ (by omega)];simp
theorem Bi(k n:Nat)(l:List Nd):bi (fP k n l)=(bi l).set (k*6+4) (.int .i64 n):=by
 induction l generalizing k with
 |nil=>simp[bi,fP]
 |cons a r ih =>
  cases k with
  |zero=>simp[bi,fP,Nd.cells]
  |succ k =>
   have:=ih k;simp only[bi,fP,modify_succ_cons,flatMap_cons]at *;rw[this,show(k+1)*6+4=(k*6+4)+a.cells.length by simp[Nd.cells];omega,set_append_right _ _ (by omega)];simp
theorem RK{w:World}{B:Nat}{e:TypeId}{sz n g cap j:Nat}{xs:List Value}(h:w.ownsRow B e sz (.slice (some ⟨g,0,none⟩) n cap) n xs)(u:Value):
  (w.setCell ⟨g,j,none⟩ u).ownsRow B e sz (.slice (some ⟨g,0,none⟩) n cap) n (xs.set j u):=by
 refine⟨by simpa using h.1,?_⟩;rcases h.2 with⟨h0,_⟩|⟨g',cap',cur,hv,hB,hg,hn,hm,hs,ht⟩
 .cases h0
 .simp only[Value.slice.injEq,Option.some.injEq,Addr.mk.injEq]at hv;obtain⟨⟨rfl,_⟩,_,rfl⟩:=hv;refine .inr ⟨g,cap,cur.setIfInBounds j u,rfl,hB,vH hg u,hn,hm,by simpa using hs,?_⟩;rw[Array.toList_setIfInBounds,take_set,ht]
section
variable {B:Nat} {WV:Value} {w:World} {P:Nat} {ws:List ByteArray} {s:PS} {F:List Nat} {wv vv hv:Value} {g cap:Nat}
theorem de.setNode(h:de B WV w P ws s F wv vv hv (.slice (some ⟨g,0,none⟩) s.nodes.length cap))(j:Nat)(u:Value)(l:List Nd)(hl:bi l=(bi s.nodes).set j u)(uO:l.length=s.nodes.length):
  de B WV (w.setCell ⟨g,j,none⟩ u) P ws { s with nodes:=l } F wv vv hv (.slice (some ⟨g,0,none⟩) s.nodes.length cap):=by
 have gX:=h.apart;obtain⟨hP,hB,h1,h2,h3,h4,hF,hN⟩:=h;have hg:(Value.slice (some ⟨g,0,none⟩) s.nodes.length cap).ownBlock=some g:=rfl;have aY:∀k,k≠g->(w.setCell ⟨g,j,none⟩ u).heap[k]?=w.heap[k]?:=λk hk=>heap_setCell _ _ _ _ hk;have ho:=gX.2.2.2 g hg;refine⟨by rw[aY P (λe=>gX.1 g (by simp[hg]) e.symm)];exact hP,hB,ae h1 (λk hk=>aY k (λe=>ho.1 (by rw[<-e];exact hk))),ae h2 (λk hk=>aY k (λe=>ho.2.1 (by rw[<-e];exact hk))),
  ae h3 (λk hk=>aY k (λe=>ho.2.2 (by rw[<-e];exact hk))),?_,hF,hN⟩
 exact gQ (w:=w.setCell ⟨g,j,none⟩ u) (by have:=RK h4 (j:=j) u;exact this) uO hl
theorem de.nodeCell(h:de B WV w P ws s F wv vv hv (.slice (some ⟨g,0,none⟩) s.nodes.length cap))(j:Nat)(hj:j<s.nodes.length*6):(∃v,w.cell? ⟨g,j,none⟩=some v/\v∈bi s.nodes)/\w.frozen? ⟨g,j,none⟩=false:=by
 obtain⟨hP,hB,h1,h2,h3,h4,hF,hN⟩:=h;have hl:j<(bi s.nodes).length:=by rw[Xz];exact hj
 constructor
 .have:=h4.cells (g:=g) rfl j _ (getElem?_eq_getElem hl);rw[show(⟨g,0,none⟩:Addr).add j=⟨g,j,none⟩ by unfold Addr.add;split <;> simp_all]at this;exact⟨_,this,getElem_mem _⟩
 .rcases h4.2 with⟨h0,_⟩|⟨g',cap',cur,hv,hB,hg,hn,hm,hs,ht⟩
  .cases h0
  .simp only[Value.slice.injEq,Option.some.injEq,Addr.mk.injEq]at hv;obtain⟨⟨rfl,_⟩,_,rfl⟩:=hv;simp[World.frozen?,hg]
theorem iR{l:List Nd}{v:Value}(h:v∈bi l):∃n:Int,v=.int .i64 n:=by
 simp only[bi,mem_flatMap,Nd.cells]at h;obtain⟨a,_,h⟩:=h;simp at h;rcases h with h|h|h|h|h|h <;> exact⟨_,h⟩
end
def D6(B:Nat)(WV:Value)(P:Nat)(ws:List ByteArray)(blk:PS->PS)(f:Nat):Prop :=
 ∀(w:World) (s:PS) (F:List Nat),d9 B WV w P ws s F->(s.failed=false->ws.length<f+s.pos)->s.nodes.length+2*ws.length<=60000+2*s.pos ->
  Calls prog 122 #[.pointer (some ⟨P,0,none⟩)] w λe w'=>e=.returned (.tuple #[])/\∃F',d9 B WV w' P ws (blk s) F'/\aq F w F' w'
section
variable {B:Nat} {WV:Value} {w:World} {P:Nat} {ws:List ByteArray} {s:PS} {F:List Nat} {wv vv hv:Value} {g cap:Nat}
theorem Ej(h:d9 B WV w P ws s F)(hn:s.nodes.length<=100000):
  Calls prog 123 #[.pointer (some ⟨P,0,none⟩),.agg #[.int .i64 10,.int .i64 0,.int .i64 0,.int .i64 0,.int .i64 0,.int .i64 0]] w λe w'=>e=.returned (.int .i64 s.nodes.length)/\∃F',d9 B WV w' P ws (bY gK s) F'/\aq F w F' w' :=
 rE gK h hn
theorem de.inF{w0:World}{F0:List Nat}{n:Nat}{j:Nat}(h:de B WV w P ws s F wv vv hv (.slice (some ⟨g,0,none⟩) n cap))(hS:aq F0 w0 F w):(⟨g,j,none⟩:Addr).block∈F0\/w0.heap.size<=(⟨g,j,none⟩:Addr).block :=
 hS.foot g (by rw[h.2.2.2.2.2.2.1];simp[Value.ownBlock])
theorem d9.nodesAt(h:d9 B WV w P ws s F)(hn:0<s.nodes.length):∃wv vv hv g cap,de B WV w P ws s F wv vv hv (.slice (some ⟨g,0,none⟩) s.nodes.length cap):=by
 obtain⟨wv,vv,hv,nv,dN⟩:=h.m.named;rcases dN.2.2.2.2.2.1.2 with⟨_,h0⟩|⟨g,cap,cur,rfl,_⟩
 .omega
 .exact⟨wv,vv,hv,g,cap,dN⟩
theorem MP{blk:PS->PS}{f:Nat}(b7:D6 B WV P ws blk f)(gd:Jt blk)(hb:bH ws bQ s=true)(eJ:ws.length<f+1+s.pos)(rp:s.nodes.length+2*ws.length<=60000+2*s.pos)(h:d9 B WV w P ws s F):
  Calls prog 187 #[.pointer (some ⟨P,0,none⟩)] w λe w'=>e=.returned (.tuple #[])/\∃F',d9 B WV w' P ws (uV blk ws s) F'/\aq F w F' w':=by
 have HQ:=ab h;have hp0:=h.f.2.1;clear h;have HE:Hid (aF ws bQ s=s.adv):=ab (if_pos hb);have WM:s.adv.pos=s.pos+1:=rfl;have ZA:s.adv.nodes.length=s.nodes.length:=rfl;have ZI:=sg (ws:=ws) (s:=s.adv);have TX:=mN (ws:=ws) (s:=s.adv);have h1:=gd.pos (fB ws s.adv);have h2:=gd.nodes (fB ws s.adv);have h3:=gd.phi (fB ws s.adv);have h4:=wb (blk (fB ws s.adv));have zq:Hid (lV blk ws s=blk (fB ws s.adv)):=ab (by unfold lV;rw[uh HE]);have Jv:=ab b7;clear b7 hb;go_enter func187,ntmps187;go_wp2_with fail
 refine(aX bQ (by decide) (uh HQ)).mono ?_;rintro e w1 ⟨rfl,dy,bN⟩;rw[uh HE]at dy;have ep:=ab dy;have cg:=ab bN;clear dy bN;go_wp2_with fail
 refine(ut (s:=s.adv) (by omega) (uh ep)).mono ?_;rintro e w2 ⟨rfl,F2,bX,bO⟩;have dJ:=ab bX;have cj:=ab ((uh cg).trans bO);clear bX bO;go_wp2_with fail
 refine(uh Jv _ _ _ (uh dJ) (λ_=>by omega) (by omega)).mono ?_;rintro e w3 ⟨rfl,F3,eI,cF⟩;have hU:=ab eI;have gW:=ab ((uh cj).trans cF);clear eI cF;have hp3:=(uh hU).f.2.1;go_wp2_with fail
 refine(Ej (uh hU) (by omega)).mono ?_;rintro e w4 ⟨rfl,F4,kU,el⟩;have mP:=ab kU;have k6:=ab ((uh gW).trans el);clear kU el;obtain⟨z,hz⟩:∃z,z=blk (fB ws s.adv):=⟨_,rfl⟩;rw[<-hz]at mP h1 h2 h3 h4 zq ⊢;clear hz;have hzn:(bY gK z).nodes.length=z.nodes.length+1:=by simp[bY]
 obtain⟨wv,vv,hv,g,cap,dN⟩:=(uh mP).nodesAt (by omega);obtain⟨_,_,_,_,c5,_⟩:=dN.readsV;obtain⟨⟨v4,Fa,Ca⟩,f4⟩:=dN.nodeCell (z.nodes.length*6+4) (by omega);obtain⟨x4,rfl⟩:=iR Ca;rw[hzn]at c5;have vb:=ab dN;clear dN Ca;go_wp2_with fail
 have Dj:=(uh vb).setNode (z.nodes.length*6+4) (.int .i64 (s.nodes.length:Int)) (fP z.nodes.length s.nodes.length (bY gK z).nodes) (Bi _ _ _) (cS _ _ _);have yl:=(uh k6).setCell (p:=⟨g,z.nodes.length*6+4,none⟩) (w:=w4) ((uh vb).inF (uh k6)) (.int .i64 (s.nodes.length:Int));generalize w4.setCell ⟨g,z.nodes.length*6+4,none⟩ (.int .i64 (s.nodes.length:Int))=w5 at Dj yl ⊢;clear c5 Fa f4;obtain⟨y,hy⟩:∃y:PS,y={ bY gK z with nodes:=fP z.nodes.length s.nodes.length (bY gK z).nodes }:=⟨_,rfl⟩;have hyn:y.nodes.length=z.nodes.length+1:=by rw[hy];simp[cS,bY]
 rw[<-hy]at Dj;have HY:=ab hy;clear hy;rw[show(bY gK z).nodes.length=y.nodes.length by rw[hyn,hzn]]at Dj;obtain⟨_,_,_,_,c5,_⟩:=Dj.readsV;obtain⟨⟨v5,hv5,hm5⟩,f5⟩:=Dj.nodeCell (s.nodes.length*6+5) (by omega);obtain⟨x5,rfl⟩:=iR hm5;have aav:=ab Dj;have aaC:=ab yl;clear Dj yl hm5;rw[hyn]at c5;go_region
 go_end0
 have Ii:=(uh aav).setNode (s.nodes.length*6+5) (.int .i64 ((z.nodes.length:Int)+1)) (dG s.nodes.length (z.nodes.length+1) y.nodes) (tN _ _ _) (bK _ _ _);have tj:uV blk ws s={ y with nodes:=dG s.nodes.length (z.nodes.length+1) y.nodes }:=by unfold uV;rw[uh zq,uh HY,hzn]
 have C9:BM ws (uV blk ws s):=by rw[tj,uh HY];exact(uh mP).f
 exact⟨rfl,F4,⟨by rw[tj];exact Ii.is.drew,C9⟩,((uh aaC).setCell (p:=⟨g,s.nodes.length*6+5,none⟩) ((uh aav).inF (uh aaC)) _).drew⟩
end
section
variable {B:Nat} {WV:Value} {w:World} {P:Nat} {ws:List ByteArray} {s:PS} {F:List Nat} {wv vv hv:Value} {g cap:Nat}
theorem CH{blk:PS->PS}{f:Nat}(b7:D6 B WV P ws blk f)(gd:Jt blk)(hb:bH ws kX s=true)(eJ:ws.length<f+1+s.pos)(rp:s.nodes.length+2*ws.length<=60000+2*s.pos)(h:d9 B WV w P ws s F):
  Calls prog 186 #[.pointer (some ⟨P,0,none⟩)] w λe w'=>e=.returned (.tuple #[])/\∃F',d9 B WV w' P ws (nH blk ws s) F'/\aq F w F' w':=by
 have HQ:=ab h;have hp0:=h.f.2.1;clear h;have HE:Hid (aF ws kX s=s.adv):=ab (if_pos hb);have WM:s.adv.pos=s.pos+1:=rfl;have ZA:s.adv.nodes.length=s.nodes.length:=rfl;have ZI:=sg (ws:=ws) (s:=s.adv);have TX:=mN (ws:=ws) (s:=s.adv);have h1:=gd.pos (fB ws s.adv);have h2:=gd.nodes (fB ws s.adv);have h3:=gd.phi (fB ws s.adv);have zq:Hid (ch blk ws s=blk (fB ws s.adv)):=ab (by unfold ch;rw[uh HE]);have Jv:=ab b7;have HGD:=ab gd;clear b7 hb gd;obtain⟨z,hz⟩:∃z,z=blk (fB ws s.adv):=⟨_,rfl⟩;rw[<-hz]at h1 h2 h3 zq;have HZ:=ab hz;clear hz;cases he:bH ws gM z with
 |false =>
  have vJ:Hid (kq ws gM z=z):=ab (if_neg (by simp[he]));have HS:Hid (nH blk ws s={ z with nodes:=dG s.nodes.length z.nodes.length z.nodes }):=ab (by unfold nH;rw[uh zq,he];rfl);have dS:=ab he;clear he;go_enter func186,ntmps186;go_wp2_with fail
  refine(aX kX (by decide) (uh HQ)).mono ?_;rintro e w1 ⟨rfl,dy,bN⟩;rw[uh HE]at dy;have ep:=ab dy;have cg:=ab bN;clear dy bN;go_wp2_with fail
  refine(ut (s:=s.adv) (by omega) (uh ep)).mono ?_;rintro e w2 ⟨rfl,F2,bX,bO⟩;have dJ:=ab bX;have cj:=ab ((uh cg).trans bO);clear bX bO;go_wp2_with fail
  refine(uh Jv _ _ _ (uh dJ) (λ_=>by omega) (by omega)).mono ?_;rintro e w3 ⟨rfl,F3,eI,cF⟩;have hU:=ab eI;have gW:=ab ((uh cj).trans cF);clear eI cF;rw[<-uh HZ]at hU;have hp3:=(uh hU).f.2.1;have uX:=az gM (by decide) (uh hU);rw[uh dS,uh vJ]at uX;replace uX:=ab uX
  go_wp2_with fail
  refine(uh uX).mono ?_;rintro e w4 ⟨rfl,kU,el⟩;have mP:=ab kU;have k6:=ab ((uh gW).trans el);clear kU el;obtain⟨wv,vv,hv,g,cap,dN⟩:=(uh mP).nodesAt (by omega);obtain⟨_,_,_,_,c5,_⟩:=dN.readsV;obtain⟨⟨v4,Fa,Ca⟩,f4⟩:=dN.nodeCell (s.nodes.length*6+5) (by omega);obtain⟨x4,rfl⟩:=iR Ca;have vb:=ab dN;clear dN Ca;have hfb:=wb z;go_wp2_with fail
  go_region
  go_wp2_with fail
  refine bodyPost_ret (results_none rfl _ _ _) rfl ?_;have Ii:=(uh vb).setNode (s.nodes.length*6+5) (.int .i64 (z.nodes.length:Int)) (dG s.nodes.length z.nodes.length z.nodes) (tN _ _ _) (bK _ _ _);exact⟨rfl,F3,⟨by rw[uh HS];exact Ii.is.drew,by rw[uh HS];exact(uh mP).f⟩,((uh k6).setCell (p:=⟨g,s.nodes.length*6+5,none⟩) ((uh vb).inF (uh k6)) _).drew⟩
 |true =>
  have vJ:Hid (kq ws gM z=z.adv):=ab (if_pos he);have HS:Hid (nH blk ws s=J4 z.nodes.length (blk (kf s.nodes.length z))):=ab (by unfold nH;rw[uh zq,he];rfl);have Zu:fb z=0:=wd (wS (ws:=ws) (s:=z) (by rw[ip he];decide)).1;have dS:=ab he;clear he;have hza:z.adv.pos=z.pos+1:=rfl;have hzl:z.adv.nodes.length=z.nodes.length:=rfl;have hbp:(kf s.nodes.length z).pos=z.pos+1:=rfl;have cn:(kf s.nodes.length z).nodes.length=z.nodes.length+1:=by simp[kf,bK,bY,PS.adv]
  have k2:=(uh HGD).nodes (kf s.nodes.length z);have k3:=(uh HGD).phi (kf s.nodes.length z);have k4:=wb (blk (kf s.nodes.length z));go_enter func186,ntmps186;go_wp2_with fail
  refine(aX kX (by decide) (uh HQ)).mono ?_;rintro e w1 ⟨rfl,dy,bN⟩;rw[uh HE]at dy;have ep:=ab dy;have cg:=ab bN;clear dy bN;go_wp2_with fail
  refine(ut (s:=s.adv) (by omega) (uh ep)).mono ?_;rintro e w2 ⟨rfl,F2,bX,bO⟩;have dJ:=ab bX;have cj:=ab ((uh cg).trans bO);clear bX bO;go_wp2_with fail
  refine(uh Jv _ _ _ (uh dJ) (λ_=>by omega) (by omega)).mono ?_;rintro e w3 ⟨rfl,F3,eI,cF⟩;have hU:=ab eI;have gW:=ab ((uh cj).trans cF);clear eI cF;rw[<-uh HZ]at hU;have hp3:=(uh hU).f.2.1;have uX:=az gM (by decide) (uh hU);rw[uh dS,uh vJ]at uX;replace uX:=ab uX
  go_wp2_with fail
  refine(uh uX).mono ?_;rintro e w4 ⟨rfl,kU,el⟩;have mP:=ab kU;have k6:=ab ((uh gW).trans el);clear kU el;go_wp2_with fail
  refine(Ej (uh mP) (by omega)).mono ?_;rintro e w5 ⟨rfl,F5,qg,eY⟩;have Ec:=ab qg;have qZ:=ab ((uh k6).trans eY);clear qg eY;have hyn:(bY gK z.adv).nodes.length=z.nodes.length+1:=by simp[bY,PS.adv]
  obtain⟨wv,vv,hv,g,cap,dN⟩:=(uh Ec).nodesAt (by omega);obtain⟨_,_,_,_,c5,_⟩:=dN.readsV;obtain⟨⟨v4,Fa,Ca⟩,f4⟩:=dN.nodeCell (s.nodes.length*6+5) (by omega);obtain⟨x4,rfl⟩:=iR Ca;rw[hyn]at c5;have vb:=ab dN;clear dN Ca;go_wp2_with fail
  go_region
  go_wp2_with fail
  have Ii:=(uh vb).setNode (s.nodes.length*6+5) (.int .i64 ((z.nodes.length:Int)+1)) (dG s.nodes.length (bY gK z.adv).nodes.length (bY gK z.adv).nodes) (by rw[tN,hyn];rfl) (bK _ _ _);have HQ6:Hid (d9 B WV ((w5.setCell ⟨g,s.nodes.length*6+5,none⟩ (.int .i64 ((z.nodes.length:Int)+1))).drew) P ws (kf s.nodes.length z) F5):=ab ⟨Ii.is.drew,(uh Ec).f⟩;have Y2:Hid (aq F w F5 ((w5.setCell ⟨g,s.nodes.length*6+5,none⟩ (.int .i64 ((z.nodes.length:Int)+1))).drew)):=ab ((uh qZ).setCell (p:=⟨g,s.nodes.length*6+5,none⟩) ((uh vb).inF (uh qZ)) _).drew;clear Ii c5 Fa f4;generalize (w5.setCell ⟨g,s.nodes.length*6+5,none⟩ (.int .i64 ((z.nodes.length:Int)+1))).drew=w6 at HQ6 Y2 ⊢;refine(uh Jv _ _ _ (uh HQ6) (λ_=>by omega) (by omega)).mono ?_;rintro e w7 ⟨rfl,F7,Zh,B4⟩;have HI7:=ab Zh;have S1:=ab ((uh Y2).trans B4);have hp7:=Zh.f.2.1;clear Zh B4;obtain⟨y,hy⟩:∃y,y=blk (kf s.nodes.length z):=⟨_,rfl⟩;rw[<-hy]at HI7 k2 k3 k4 hp7 HS;clear hy;obtain⟨wv,vv,hv,g2,cap2,dN⟩:=(uh HI7).nodesAt (by omega);obtain⟨_,_,_,_,c5,_⟩:=dN.readsV;obtain⟨⟨v4,Fa,Ca⟩,f4⟩:=dN.nodeCell (z.nodes.length*6+4) (by omega);obtain⟨x4,rfl⟩:=iR Ca;have aaw:=ab dN;clear dN Ca;go_wp2_with fail
  go_region
  go_end0
  have ah1:=(uh aaw).setNode (z.nodes.length*6+4) (.int .i64 (y.nodes.length:Int)) (fP z.nodes.length y.nodes.length y.nodes) (Bi _ _ _) (cS _ _ _);exact⟨rfl,F7,⟨by rw[uh HS];exact ah1.is.drew,by rw[uh HS];exact(uh HI7).f⟩,((uh S1).setCell (p:=⟨g2,z.nodes.length*6+4,none⟩) ((uh aaw).inF (uh S1)) _).drew⟩
theorem Ab{blk:PS->PS}{f:Nat}(b7:D6 B WV P ws blk f)(gd:Jt blk)(eJ:ws.length<f+1+s.pos)(rp:s.nodes.length+2*ws.length<=60000+2*s.pos)(h:d9 B WV w P ws s F):
  Calls prog 161 #[.pointer (some ⟨P,0,none⟩)] w λe w'=>e=.returned (.tuple #[])/\∃F',d9 B WV w' P ws (jF blk ws s) F'/\aq F w F' w':=by
 have HQ:=ab h;have hp0:=h.f.2.1;have HK:=ab (jW h);clear h;cases hb:bH ws kX s with
 |true =>
  have HS:Hid (jF blk ws s=nH blk ws s):=ab (if_pos hb);have uI:((pk ws s).toList==kX.toList)=true:=hb;have vI:=λn=>ab (CH (w:=w.drewN n) b7 gd hb eJ rp ⟨(uh HQ).m.drewN n,(uh HQ).f⟩);rw[show kX.toList=[105,102] from (ByteArray.toList_eq _)]at uI;clear hb b7 gd;go_enter func161,ntmps161;go_wp2_with (first|(go_at_call 160;refine(uh HK).mono ?_;rintro e w' ⟨rfl,n,rfl⟩)|(go_at_call 186;refine(uh (vI n)).mono ?_;rintro e w2 ⟨rfl,F2,bX,bO⟩))
  go_end0
  exact⟨rfl,F2,by rw[uh HS];exact bX,((aq.refl F w).drewN n).trans bO⟩
 |false =>
  have uI:((pk ws s).toList==kX.toList)=false:=hb;rw[show kX.toList=[105,102] from (ByteArray.toList_eq _)]at uI;cases aR:bH ws bQ s with
  |true =>
   have HS:Hid (jF blk ws s=uV blk ws s):=ab (by unfold jF;rw[hb,aR];rfl);have Wg:((pk ws s).toList==bQ.toList)=true:=aR;have vI:=λn=>ab (MP (w:=w.drewN n) b7 gd aR eJ rp ⟨(uh HQ).m.drewN n,(uh HQ).f⟩);rw[show bQ.toList=[119,104,105,108,101] from (ByteArray.toList_eq _)]at Wg;clear hb aR b7 gd;go_enter func161,ntmps161;go_wp2_with (first|(go_at_call 160;refine(uh HK).mono ?_;rintro e w' ⟨rfl,n,rfl⟩)|(go_at_call 187;refine(uh (vI n)).mono ?_;rintro e w2 ⟨rfl,F2,bX,bO⟩))
   go_end0
   exact⟨rfl,F2,by rw[uh HS];exact bX,((aq.refl F w).drewN n).trans bO⟩
  |false =>
   have HS:Hid (jF blk ws s=qT ws s):=ab (by unfold jF;rw[hb,aR];rfl);have Wg:((pk ws s).toList==bQ.toList)=false:=aR;rw[show bQ.toList=[119,104,105,108,101] from (ByteArray.toList_eq _)]at Wg;clear hb aR b7 gd;go_enter func161,ntmps161;go_wp2_with (go_at_call 160;refine(uh HK).mono ?_;rintro e w' ⟨rfl,n,rfl⟩)
   refine(DS (w:=w.drewN n) ⟨(uh HQ).m.drewN n,(uh HQ).f⟩).mono ?_;rintro e w1 ⟨rfl,F1,dy,bN⟩;have ep:=ab dy;have cg:=ab (((aq.refl F w).drewN n).trans bN);clear dy bN;obtain⟨A0,zA⟩:∃A0,A0=jt ws s:=⟨_,rfl⟩;have YQ:=ab zA;rw[<-zA];clear zA;obtain⟨n0,n1,n2,n3,n4,n5⟩:=A0;simp only[Nd.cells];go_wp2_with fail
   refine(aX ig (by decide) ((uh ep).alloc _)).mono ?_;rintro e w2 ⟨rfl,bX,bO⟩;obtain⟨aR,gl,ye⟩:=bD (uh ep).m bO;obtain⟨⟨q0,q1,q2,q3,q4,q5⟩,_⟩:=fG aR;have C4:=rE ⟨n0,n1,n2,n3,n4,n5⟩ bX (by rw[bn,xi];omega);simp only[Nd.cells]at C4;have Ur:=ab C4;have cj:=ab ((uh cg).trans (((aq.refl F1 w1).alloc _).trans bO));clear C4 bX bO aR;go_wp2_with fail
   refine(uh Ur).mono ?_;rintro e w3 ⟨rfl,F3,eI,cF⟩;have hU:=ab eI;have gW:=ab ((uh cj).trans cF);clear eI cF;go_wp2_with fail
   go_end0
   refine⟨rfl,F3,?_,uh gW⟩;rw[uh HS];unfold qT;rw[<-uh YQ];exact uh hU
end
theorem sP{ws:List ByteArray}{c:PS->PS}(n:Nat){s:PS}(h:(s.failed||bH ws jG s)=true):io c ws n s=s:=by
 cases n with
 |zero=>rfl
 |succ n=>simp only[io];rw[if_pos h]
theorem Vi{ws:List ByteArray}{c:PS->PS}(n:Nat){s:PS}(h:(s.failed||bH ws jG s)=false):io c ws (n+1) s=io c ws n (c s):=by
 simp only[io];rw[if_neg (by simp[h])]
theorem sS{ws:List ByteArray}{k:ByteArray}{s:PS}(hk:k.size≠0)(h:s.failed=true):aF ws k s=s:=by
 unfold aF;rw[sG k hk h];obtain⟨a,b,c,d,e⟩:=s;simp only at h;subst h;rfl
section
variable {B:Nat} {WV:Value} {w:World} {P:Nat} {ws:List ByteArray} {s:PS} {F:List Nat} {wv vv hv:Value} {g cap:Nat}
theorem sK {c:PS->PS} {n:Nat}
  (ab2:∀(w:World) (st:PS) (F:List Nat),d9 B WV w P ws st F->st.failed=false->ws.length<n+st.pos->st.nodes.length+2*ws.length<=60000+2*st.pos ->
   Calls prog 161 #[.pointer (some ⟨P,0,none⟩)] w λe w'=>e=.returned (.tuple #[])/\∃F',d9 B WV w' P ws (c st) F'/\aq F w F' w')
  (hc:∀s,s.pos<=(c s).pos/\((c s).failed=false->s.pos<(c s).pos)/\(c s).nodes.length+2*s.pos<=s.nodes.length+2*(c s).pos+fb (c s))
  (eJ:s.failed=false->ws.length<n+s.pos) (rp:s.nodes.length+2*ws.length<=60000+2*s.pos) (h:d9 B WV w P ws s F) :
  Calls prog 122 #[.pointer (some ⟨P,0,none⟩)] w λe w'=>e=.returned (.tuple #[])/\∃F',d9 B WV w' P ws (aF ws jG (io c ws (ws.length+2) (aF ws kY s))) F'/\aq F w F' w':=by
 have HQ:=ab h;clear h;have afE:=ab ab2;have HC:=ab hc;have HFU:=ab eJ;clear ab2 hc eJ;have e1:=bZ (ws:=ws) (s:=s) kY;have e2:(aF ws kY s).nodes.length=s.nodes.length:=by rw[bn]
 have Z4:Hid ((aF ws kY s).failed=false->ws.length<n+(aF ws kY s).pos):=ab (λh=>by have:=uh HFU (iI _ h).2.1;omega);go_enter func122,ntmps122;go_wp2_with fail
 refine(aX kY (by decide) (uh HQ)).mono ?_;rintro e w1 ⟨rfl,dy,bN⟩;have ep:=ab dy;have cg:=ab bN;clear dy bN;go_wp2_with fail
 go_loopg [4] (ws.length+2) (λm _ wr=>∃(st:PS) (F2:List Nat),d9 B WV wr P ws st F2/\aq F w F2 wr/\(aF ws kY s).pos<=st.pos /\
  Hid (io c ws (ws.length+2) (aF ws kY s)=io c ws m st)/\Hid (st.failed=false->ws.length<n+st.pos/\ws.length<m+st.pos/\st.nodes.length+2*ws.length<=60000+2*st.pos))
 case atStart =>
  exact⟨aF ws kY s,F,uh ep,uh cg,zq4 _,rfl,λh=>⟨uh Z4 h,by omega,by omega⟩⟩
 case round =>
  obtain⟨st,F2,hI,hS,WO,LF,bE⟩:=hrel;have HI:=ab hI;have HS:=ab hS;obtain⟨c1,c2,_,_⟩:=hI.m.reads;have HK:=ab (jW hI);clear hI hS c1;cases hf:st.failed with
  |true =>
   rw[hf]at c2;have Z5:Hid (io c ws (ws.length+2) (aF ws kY s)=st):=ab (by rw[uh LF];exact sP _ (by simp[hf]));clear hf LF bE;go_wp2_with fail
   refine(aX jG (by decide) (uh HI)).mono ?_;rintro e w2 ⟨rfl,bX,bO⟩;have dJ:=ab bX;have cj:=ab ((uh HS).trans bO);clear bX bO;go_wp2_with fail
   go_end0
   exact⟨rfl,F2,by rw[uh Z5];exact uh dJ,uh cj⟩
  |false =>
   rw[hf]at c2;cases hb:bH ws jG st with
   |true =>
    have uI:((pk ws st).toList==jG.toList)=true:=hb;rw[show jG.toList=[125] from (ByteArray.toList_eq _)]at uI;have Z5:Hid (io c ws (ws.length+2) (aF ws kY s)=st):=ab (by rw[uh LF];exact sP _ (by simp[hb]));clear hf hb LF bE;go_wp2_with (go_at_call 160;refine(uh HK).mono ?_;rintro e w' ⟨rfl,nn,rfl⟩)
    refine(aX jG (by decide) (w:=wr.drewN nn) ⟨(uh HI).m.drewN nn,(uh HI).f⟩).mono ?_;rintro e w2 ⟨rfl,bX,bO⟩;have dJ:=ab bX;have cj:=ab (((uh HS).drewN nn).trans bO);clear bX bO;go_wp2_with fail
    go_end0
    exact⟨rfl,F2,by rw[uh Z5];exact uh dJ,uh cj⟩
   |false =>
    have uI:((pk ws st).toList==jG.toList)=false:=hb;rw[show jG.toList=[125] from (ByteArray.toList_eq _)]at uI;obtain⟨o1,o2,o3⟩:=uh bE hf;have hps:=(uh HI).f.2.1;obtain⟨m,rfl⟩:∃m,gk=m+1:=⟨gk-1,by omega⟩;have Z5:Hid (io c ws (ws.length+2) (aF ws kY s)=io c ws m (c st)):=ab (by rw[uh LF];exact Vi _ (by simp[hb,hf]));have HF:=ab hf;clear hf hb LF bE;go_wp2_with (go_at_call 160;refine(uh HK).mono ?_;rintro e w' ⟨rfl,nn,rfl⟩)
    refine(uh afE (wr.drewN nn) st F2 ⟨(uh HI).m.drewN nn,(uh HI).f⟩ (uh HF) o1 o3).mono ?_;rintro e w2 ⟨rfl,F3,bX,bO⟩;have dJ:=ab bX;have cj:=ab (((uh HS).drewN nn).trans bO);clear bX bO;go_wp2_with fail
    obtain⟨d1,d2,d3⟩:=uh HC st;go_roundg m
    case measure=>omega
    case rel =>
     refine⟨c st,F3,uh dJ,uh cj,by omega,uh Z5,λhcf=>?_⟩;have:=d2 hcf;rw[wd hcf]at d3;exact⟨by omega,by omega,by omega⟩
theorem J3(f:Nat):D6 B WV P ws (cC ws f) f:=by
 induction f with
 |zero =>
  intro w s F h eJ rp;have hps:=h.f.2.1;have hf:s.failed=true:=by
   cases hf:s.failed with
   |true=>rfl
   |false=>have:=eJ hf;omega
  have hw:=sK (c:=PS.adv) (n:=0) (B:=B) (P:=P) (ws:=ws) (s:=s) (F:=F) (w:=w) (λ_ st _ hi _ ar _=>by have:=hi.f.2.1;omega) (λs=>⟨cQ,λ_=>Nat.lt_succ_self _,by show s.nodes.length+2*s.pos<=s.nodes.length+2*(s.pos+1)+_;omega⟩) eJ rp h;rw[sS (by decide) hf,sP _ (by simp[hf]),sS (by decide) hf]at hw;exact hw
 |succ f ih =>
  intro w s F h eJ rp;exact sK (n:=f+1) (λw st F hi _ ar hph=>Ab ih (iF f) ar hph hi) (λs=>⟨(iH (iF f)).1,λh=>((iH (iF f)).2.2.1 h).2,(iH (iF f)).2.2.2⟩) eJ rp h
end
def eF:ByteArray:=⟨#[112,114,101]⟩
def gP:Nd:=⟨0,0,0,0,0,0⟩
def Vy(ws:List ByteArray)(s:PS):PS:=if s.pos=ws.length then s else s.fail
def Ci(ws:List ByteArray)(s:PS):PS:=bY gP (cC ws (ws.length+1) (pP ws (aF ws eF s)))
def bL(ws:List ByteArray)(s:PS):PS:=if (Ci ws s).pos=ws.length then Ci ws s else (Ci ws s).fail
def gR(ws:List ByteArray)(s:PS):List cf:=Za ws (aF ws eF s)
section
variable {B:Nat} {WV:Value} {w:World} {P:Nat} {ws:List ByteArray} {s:PS} {F:List Nat} {wv vv hv nv:Value} {g cap:Nat}
theorem Iv:(yF ws s).nodes=s.nodes:=by unfold yF nR pi;rw[bn,mL,bn,mL,bn]
theorem DL:(eg ws s).nodes=s.nodes:=by unfold eg;split;rfl;split;rfl;exact bn _
theorem vV:(dQ ws s).nodes=s.nodes:=by
 unfold dQ;split;rfl;split
 .rw[Iv];rfl
 .rw[mL,DL,mL]
theorem G8(n:Nat):∀s,(iu ws n s).2.nodes=s.nodes:=by
 induction n with
 |zero=>intro s;rfl
 |succ n ih =>
  intro s;simp only[iu];split
  .show(iu ws n (dQ ws s.adv)).2.nodes=s.nodes;rw[ih,vV];rfl
  .rfl
theorem wm:(pP ws s).nodes=s.nodes:=by unfold pP;rw[G8,vV]
theorem PF(h:d9 B WV w P ws s F)(hn:s.nodes.length<=100000):
  Calls prog 123 #[.pointer (some ⟨P,0,none⟩),.agg #[.int .i64 0,.int .i64 0,.int .i64 0,.int .i64 0,.int .i64 0,.int .i64 0]] w λe w'=>e=.returned (.int .i64 s.nodes.length)/\∃F',d9 B WV w' P ws (bY gP s) F'/\aq F w F' w' :=
 rE gP h hn
theorem de.read0(h:de B WV w P ws s F wv vv hv nv):w.cell? ⟨P,0,none⟩=some wv/\∃ao cap,wv=.slice ao ws.length cap :=
 ⟨(iG h.1).1.1,bu h.2.2.1⟩
theorem pE{w:World}{B B':Nat}{e:TypeId}{sz n:Nat}{v:Value}{xs:List Value}(h:w.ownsRow B e sz v n xs)(hB:B'<=B):w.ownsRow B' e sz v n xs:=by
 refine⟨h.1,?_⟩;rcases h.2 with hn|⟨g,cap,cur,rfl,hb,rest⟩
 .exact .inl hn
 .exact .inr ⟨g,cap,cur,rfl,by omega,rest⟩
theorem CR(h:d9 B WV w P ws s F):
  Calls prog 124 #[.pointer (some ⟨P,0,none⟩)] w λe w'=>e=.returned (.tuple #[])/\d9 B WV w' P ws (Vy ws s) F/\aq F w F w':=by
 have HI:=ab h;have hp:=h.f.2.1;have hl:=h.f.1;obtain⟨wv,vv,hv,nv,dN⟩:=h.m.named;obtain⟨c0,ao,cap,rfl⟩:=dN.read0;obtain⟨c1,_,_,_,_,fz⟩:=dN.readsV;have f2:=fz 2;have c2:=h.m.reads.2.1;clear dN fz h;by_cases hpe:s.pos=ws.length
 .have HS:Hid (Vy ws s=s):=ab (if_pos hpe);have hd:((s.pos:Int) != (ws.length:Int))=false:=by simp[hpe]
  clear hpe;go_enter func124,ntmps124;go_wp2_with fail
  go_quiet (fail)
  go_wp2_with fail
  go_end0
  exact⟨rfl,by rw[uh HS];exact⟨(uh HI).m.drewN _,(uh HI).f⟩,(aq.refl F w).drewN _⟩
 .have HS:Hid (Vy ws s=s.fail):=ab (if_neg hpe);have hd:((s.pos:Int) != (ws.length:Int))=true:=by rw[bne_iff_ne];omega
  clear hpe;go_enter func124,ntmps124;go_wp2_with fail
  go_quiet (fail)
  go_wp2_with fail
  go_end0
  exact⟨rfl,by rw[uh HS];exact⟨((uh HI).m.drewN _).setFailed true,(uh HI).f⟩,((aq.refl F w).drewN _).setCell (zq0 (uh HI).m.memP) _⟩
theorem Bv(h:d9 B WV w P ws s F)(qj:s.nodes=[]):
  Calls prog 69 #[.pointer (some ⟨P,0,none⟩)] w λe w'=>∃v F',e=.returned v/\d9 B WV w' P ws (bL ws s) F'/\aq F w F' w' /\
   w'.ownsRow w.heap.size 239 5 v (gR ws s).length (bI (gR ws s))/\(∀k,v.ownBlock=some k->k ∉ F'):=by
 have HQ:=ab h;have hl:=h.f.1;clear h;have iN:(pP ws (aF ws eF s)).nodes.length=0:=by rw[wm,bn,qj];rfl
 have k2:=(iF (ws:=ws) (ws.length+1)).nodes (pP ws (aF ws eF s));have k3:=(iF (ws:=ws) (ws.length+1)).phi (pP ws (aF ws eF s));have k4:=wb (cC ws (ws.length+1) (pP ws (aF ws eF s)));clear qj;go_enter func69,ntmps69;go_wp2_with fail
 refine(aX eF (by decide) (uh HQ)).mono ?_;rintro e w1 ⟨rfl,dy,bN⟩;have ep:=ab dy;have cg:=ab bN;clear dy bN;go_wp2_with fail
 refine(Ap (uh ep)).mono ?_;rintro e w2 ⟨v,F2,rfl,bX,bO,br,E7⟩;have dJ:=ab bX;have cj:=ab ((uh cg).trans bO);have HW2:=ab br;have HU2:=ab E7;have fy:=(uh cg).size;clear bX bO br E7;go_wp2_with fail
 refine(J3 (ws.length+1) w2 _ F2 (uh dJ) (λ_=>by omega) (by omega)).mono ?_;rintro e w3 ⟨rfl,F3,eI,cF⟩;have hp3:=eI.f.2.1;have HW3:=ab (r9 (uh HW2) cF (uh HU2));have HU3:Hid (∀k,v.ownBlock=some k->k ∉ F3):=ab (λk hk hm=>by
  rcases cF.foot k hm with h|h
  .exact uh HU2 k hk h
  .have:=((uh HW2).lt k hk).2;omega)
 have hU:=ab eI;have gW:=ab ((uh cj).trans cF);clear eI cF;go_wp2_with fail
 refine(PF (uh hU) (by omega)).mono ?_;rintro e w4 ⟨rfl,F4,kU,el⟩;have HW4:=ab (r9 (uh HW3) el (uh HU3));have HU4:Hid (∀k,v.ownBlock=some k->k ∉ F4):=ab (λk hk hm=>by
  rcases el.foot k hm with h|h
  .exact uh HU3 k hk h
  .have:=((uh HW3).lt k hk).2;omega)
 have mP:Hid (d9 B WV w4 P ws (Ci ws s) F4):=ab kU;have k6:=ab ((uh gW).trans el);clear kU el;go_wp2_with fail
 refine(CR (uh mP)).mono ?_;rintro e w5 ⟨rfl,qg,eY⟩;have HW5:=ab (r9 (uh HW4) eY (uh HU4));have Ec:Hid (d9 B WV w5 P ws (bL ws s) F4):=ab qg;have qZ:=ab ((uh k6).trans eY);clear qg eY;go_wp2_with fail
 go_ret;exact⟨v,F4,rfl,uh Ec,uh qZ,pE (uh HW5) fy,uh HU4⟩
end
