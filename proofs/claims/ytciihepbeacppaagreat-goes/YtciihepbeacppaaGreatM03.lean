import Derived.Test.YtciihepbeacppaaGreatM02
set_option maxRecDepth 100000
set_option maxHeartbeats 0
namespace Go.Proofs.YtciihepbeacppaaGreat
open Tryz Go.RowKit List World Below
set_option linter.unusedVariables false
theorem Zy(l:List Nd):(a7 l).length=l.length*6:=by
 induction l with
 |nil=>rfl
 |cons a r ih=>simp only[a7,flatMap_cons,length_append,length_cons]at *;rw[ih];simp[Nd.cells];omega
theorem tR(k n:Nat)(l:List Nd):a7 (eB k n l)=(a7 l).set (k*6+5) (.int .i64 n):=by
 induction l generalizing k with
 |nil=>simp[a7,eB]
 |cons a r ih =>
  cases k with
  |zero=>simp[a7,eB,Nd.cells]
  |succ k =>
   have:=ih k;simp only[a7,eB,modify_succ_cons,flatMap_cons]at *;rw[this,show(k+1)*6+5=(k*6+5)+a.cells.length by simp[Nd.cells];omega,set_append_right _ _ (by omega)];simp
theorem BQ(k n:Nat)(l:List Nd):a7 (gK k n l)=(a7 l).set (k*6+4) (.int .i64 n):=by
 induction l generalizing k with
 |nil=>simp[a7,gK]
 |cons a r ih =>
  cases k with
  |zero=>simp[a7,gK,Nd.cells]
  |succ k =>
   have:=ih k;simp only[a7,gK,modify_succ_cons,flatMap_cons]at *;rw[this,show(k+1)*6+4=(k*6+4)+a.cells.length by simp[Nd.cells];omega,set_append_right _ _ (by omega)];simp
theorem TI{w:World}{B:Nat}{e:TypeId}{sz n g cap j:Nat}{xs:List Value}(h:w.ownsRow B e sz (.slice (some ⟨g,0,none⟩) n cap) n xs)(u:Value):
  (w.setCell ⟨g,j,none⟩ u).ownsRow B e sz (.slice (some ⟨g,0,none⟩) n cap) n (xs.set j u):=by
 refine⟨by simpa using h.1,?_⟩;rcases h.2 with⟨h0,_⟩|⟨g',cap',cur,hv,hB,hg,hn,hm,hs,ht⟩
 .cases h0
 .simp only[Value.slice.injEq,Option.some.injEq,Addr.mk.injEq]at hv;obtain⟨⟨rfl,_⟩,_,rfl⟩:=hv;refine .inr ⟨g,cap,cur.setIfInBounds j u,rfl,hB,vT hg u,hn,hm,by simpa using hs,?_⟩;rw[Array.toList_setIfInBounds,take_set,ht]
section
variable {B:Nat} {WV:Value} {w:World} {P:Nat} {ws:List ByteArray} {s:PS} {F:List Nat} {wv vv hv:Value} {g cap:Nat}
theorem cU.setNode(h:cU B WV w P ws s F wv vv hv (.slice (some ⟨g,0,none⟩) s.nodes.length cap))(j:Nat)(u:Value)(l:List Nd)(hl:a7 l=(a7 s.nodes).set j u)(qq:l.length=s.nodes.length):
  cU B WV (w.setCell ⟨g,j,none⟩ u) P ws { s with nodes:=l } F wv vv hv (.slice (some ⟨g,0,none⟩) s.nodes.length cap):=by
 have fQ:=h.apart;obtain⟨hP,hB,h1,h2,h3,h4,hF,hN⟩:=h;have hg:(Value.slice (some ⟨g,0,none⟩) s.nodes.length cap).ownBlock=some g:=rfl;have aM:∀k,k≠g->(w.setCell ⟨g,j,none⟩ u).heap[k]?=w.heap[k]?:=λk hk=>heap_setCell _ _ _ _ hk;have ho:=fQ.2.2.2 g hg;refine⟨by rw[aM P (λe=>fQ.1 g (by simp[hg]) e.symm)];exact hP,hB,ae h1 (λk hk=>aM k (λe=>ho.1 (by rw[<-e];exact hk))),ae h2 (λk hk=>aM k (λe=>ho.2.1 (by rw[<-e];exact hk))),
  ae h3 (λk hk=>aM k (λe=>ho.2.2 (by rw[<-e];exact hk))),?_,hF,hN⟩
 exact gu (w:=w.setCell ⟨g,j,none⟩ u) (by have:=TI h4 (j:=j) u;exact this) qq hl
theorem cU.nodeCell(h:cU B WV w P ws s F wv vv hv (.slice (some ⟨g,0,none⟩) s.nodes.length cap))(j:Nat)(hj:j<s.nodes.length*6):(∃v,w.cell? ⟨g,j,none⟩=some v/\v∈a7 s.nodes)/\w.frozen? ⟨g,j,none⟩=false:=by
 obtain⟨hP,hB,h1,h2,h3,h4,hF,hN⟩:=h;have hl:j<(a7 s.nodes).length:=by rw[Zy];exact hj
 constructor
 .have:=h4.cells (g:=g) rfl j _ (getElem?_eq_getElem hl);rw[show(⟨g,0,none⟩:Addr).add j=⟨g,j,none⟩ by unfold Addr.add;split <;> simp_all]at this;exact⟨_,this,getElem_mem _⟩
 .rcases h4.2 with⟨h0,_⟩|⟨g',cap',cur,hv,hB,hg,hn,hm,hs,ht⟩
  .cases h0
  .simp only[Value.slice.injEq,Option.some.injEq,Addr.mk.injEq]at hv;obtain⟨⟨rfl,_⟩,_,rfl⟩:=hv;simp[World.frozen?,hg]
theorem iH{l:List Nd}{v:Value}(h:v∈a7 l):∃n:Int,v=.int .i64 n:=by
 simp only[a7,mem_flatMap,Nd.cells]at h;obtain⟨a,_,h⟩:=h;simp at h;rcases h with h|h|h|h|h|h <;> exact⟨_,h⟩
end
def Fe(B:Nat)(WV:Value)(P:Nat)(ws:List ByteArray)(blk:PS->PS)(f:Nat):Prop :=
 ∀(w:World) (s:PS) (F:List Nat),ee B WV w P ws s F->(s.failed=false->ws.length<f+s.pos)->s.nodes.length+2*ws.length<=60000+2*s.pos ->
  Calls prog 122 #[.pointer (some ⟨P,0,none⟩)] w λe w'=>e=.returned (.tuple #[])/\∃F',ee B WV w' P ws (blk s) F'/\am F w F' w'
section
variable {B:Nat} {WV:Value} {w:World} {P:Nat} {ws:List ByteArray} {s:PS} {F:List Nat} {wv vv hv:Value} {g cap:Nat}
theorem Fx(h:ee B WV w P ws s F)(hn:s.nodes.length<=100000):
  Calls prog 123 #[.pointer (some ⟨P,0,none⟩),.agg #[.int .i64 10,.int .i64 0,.int .i64 0,.int .i64 0,.int .i64 0,.int .i64 0]] w λe w'=>e=.returned (.int .i64 s.nodes.length)/\∃F',ee B WV w' P ws (dZ lh s) F'/\am F w F' w' :=
 ro lh h hn
theorem cU.inF{w0:World}{F0:List Nat}{n:Nat}{j:Nat}(h:cU B WV w P ws s F wv vv hv (.slice (some ⟨g,0,none⟩) n cap))(hS:am F0 w0 F w):(⟨g,j,none⟩:Addr).block∈F0\/w0.heap.size<=(⟨g,j,none⟩:Addr).block :=
 hS.foot g (by rw[h.2.2.2.2.2.2.1];simp[Value.ownBlock])
theorem ee.nodesAt(h:ee B WV w P ws s F)(hn:0<s.nodes.length):∃wv vv hv g cap,cU B WV w P ws s F wv vv hv (.slice (some ⟨g,0,none⟩) s.nodes.length cap):=by
 obtain⟨wv,vv,hv,nv,dL⟩:=h.m.named;rcases dL.2.2.2.2.2.1.2 with⟨_,h0⟩|⟨g,cap,cur,rfl,_⟩
 .omega
 .exact⟨wv,vv,hv,g,cap,dL⟩
theorem NZ{blk:PS->PS}{f:Nat}(b7:Fe B WV P ws blk f)(gd:Kw blk)(hb:em ws fT s=true)(dM:ws.length<f+1+s.pos)(qX:s.nodes.length+2*ws.length<=60000+2*s.pos)(h:ee B WV w P ws s F):
  Calls prog 187 #[.pointer (some ⟨P,0,none⟩)] w λe w'=>e=.returned (.tuple #[])/\∃F',ee B WV w' P ws (CW blk ws s) F'/\am F w F' w':=by
 have HQ:=ab h;have hp0:=h.f.2.1;clear h;have HE:Hid (bB ws fT s=s.adv):=ab (if_pos hb);have SP:s.adv.pos=s.pos+1:=rfl;have Jb:s.adv.nodes.length=s.nodes.length:=rfl;have hts:=rY (ws:=ws) (s:=s.adv);have V4:=l9 (ws:=ws) (s:=s.adv);have h1:=gd.pos (jq ws s.adv);have h2:=gd.nodes (jq ws s.adv);have h3:=gd.phi (jq ws s.adv);have h4:=wA (blk (jq ws s.adv));have zH:Hid (rN blk ws s=blk (jq ws s.adv)):=ab (by unfold rN;rw[uh HE]);have Ky:=ab b7;clear b7 hb;go_enter func187,ntmps187;go_wp2_with fail
 refine(aR fT (by decide) (uh HQ)).mono ?_;rintro e w1 ⟨rfl,cV,bE⟩;rw[uh HE]at cV;have dy:=ab cV;have bC:=ab bE;clear cV bE;go_wp2_with fail
 refine(uw (s:=s.adv) (by omega) (uh dy)).mono ?_;rintro e w2 ⟨rfl,F2,bT,bK⟩;have db:=ab bT;have bz:=ab ((uh bC).trans bK);clear bT bK;go_wp2_with fail
 refine(uh Ky _ _ _ (uh db) (λ_=>by omega) (by omega)).mono ?_;rintro e w3 ⟨rfl,F3,eF,cd⟩;have gI:=ab eF;have dd:=ab ((uh bz).trans cd);clear eF cd;have Gq:=(uh gI).f.2.1;go_wp2_with fail
 refine(Fx (uh gI) (by omega)).mono ?_;rintro e w4 ⟨rfl,F4,ko,dA⟩;have mh:=ab ko;have dW:=ab ((uh dd).trans dA);clear ko dA;obtain⟨z,hz⟩:∃z,z=blk (jq ws s.adv):=⟨_,rfl⟩;rw[<-hz]at mh h1 h2 h3 h4 zH ⊢;clear hz;have hzn:(dZ lh z).nodes.length=z.nodes.length+1:=by simp[dZ]
 obtain⟨wv,vv,hv,g,cap,dL⟩:=(uh mh).nodesAt (by omega);obtain⟨_,_,_,_,c5,_⟩:=dL.readsV;obtain⟨⟨v4,yF,zW⟩,f4⟩:=dL.nodeCell (z.nodes.length*6+4) (by omega);obtain⟨x4,rfl⟩:=iH zW;rw[hzn]at c5;have u7:=ab dL;clear dL zW;go_wp2_with fail
 have Ei:=(uh u7).setNode (z.nodes.length*6+4) (.int .i64 (s.nodes.length:Int)) (gK z.nodes.length s.nodes.length (dZ lh z).nodes) (BQ _ _ _) (ek _ _ _);have qZ:=(uh dW).setCell (p:=⟨g,z.nodes.length*6+4,none⟩) (w:=w4) ((uh u7).inF (uh dW)) (.int .i64 (s.nodes.length:Int));generalize w4.setCell ⟨g,z.nodes.length*6+4,none⟩ (.int .i64 (s.nodes.length:Int))=w5 at Ei qZ ⊢;clear c5 yF f4;obtain⟨y,hy⟩:∃y:PS,y={ dZ lh z with nodes:=gK z.nodes.length s.nodes.length (dZ lh z).nodes }:=⟨_,rfl⟩;have hyn:y.nodes.length=z.nodes.length+1:=by rw[hy];simp[ek,dZ]
 rw[<-hy]at Ei;have HY:=ab hy;clear hy;rw[show(dZ lh z).nodes.length=y.nodes.length by rw[hyn,hzn]]at Ei;obtain⟨_,_,_,_,c5,_⟩:=Ei.readsV;obtain⟨⟨v5,hv5,hm5⟩,f5⟩:=Ei.nodeCell (s.nodes.length*6+5) (by omega);obtain⟨x5,rfl⟩:=iH hm5;have ab0:=ab Ei;have ab7:=ab qZ;clear Ei qZ hm5;rw[hyn]at c5;go_region
 go_end0
 have Jh:=(uh ab0).setNode (s.nodes.length*6+5) (.int .i64 ((z.nodes.length:Int)+1)) (eB s.nodes.length (z.nodes.length+1) y.nodes) (tR _ _ _) (dx _ _ _);have Bg:CW blk ws s={ y with nodes:=eB s.nodes.length (z.nodes.length+1) y.nodes }:=by unfold CW;rw[uh zH,uh HY,hzn]
 have vz:Cv ws (CW blk ws s):=by rw[Bg,uh HY];exact(uh mh).f
 exact⟨rfl,F4,⟨by rw[Bg];exact Jh.is.drew,vz⟩,((uh ab7).setCell (p:=⟨g,s.nodes.length*6+5,none⟩) ((uh ab0).inF (uh ab7)) _).drew⟩
end
section
variable {B:Nat} {WV:Value} {w:World} {P:Nat} {ws:List ByteArray} {s:PS} {F:List Nat} {wv vv hv:Value} {g cap:Nat}
theorem Dq{blk:PS->PS}{f:Nat}(b7:Fe B WV P ws blk f)(gd:Kw blk)(hb:em ws Gz s=true)(dM:ws.length<f+1+s.pos)(qX:s.nodes.length+2*ws.length<=60000+2*s.pos)(h:ee B WV w P ws s F):
  Calls prog 186 #[.pointer (some ⟨P,0,none⟩)] w λe w'=>e=.returned (.tuple #[])/\∃F',ee B WV w' P ws (Kd blk ws s) F'/\am F w F' w':=by
 have HQ:=ab h;have hp0:=h.f.2.1;clear h;have HE:Hid (bB ws Gz s=s.adv):=ab (if_pos hb);have SP:s.adv.pos=s.pos+1:=rfl;have Jb:s.adv.nodes.length=s.nodes.length:=rfl;have hts:=rY (ws:=ws) (s:=s.adv);have V4:=l9 (ws:=ws) (s:=s.adv);have h1:=gd.pos (jq ws s.adv);have h2:=gd.nodes (jq ws s.adv);have h3:=gd.phi (jq ws s.adv);have zH:Hid (fO blk ws s=blk (jq ws s.adv)):=ab (by unfold fO;rw[uh HE]);have Ky:=ab b7;have HGD:=ab gd;clear b7 hb gd;obtain⟨z,hz⟩:∃z,z=blk (jq ws s.adv):=⟨_,rfl⟩;rw[<-hz]at h1 h2 h3 zH;have HZ:=ab hz;clear hz;cases he:em ws wZ z with
 |false =>
  have ig:Hid (jR ws wZ z=z):=ab (if_neg (by simp[he]));have HS:Hid (Kd blk ws s={ z with nodes:=eB s.nodes.length z.nodes.length z.nodes }):=ab (by unfold Kd;rw[uh zH,he];rfl);have bu:=ab he;clear he;go_enter func186,ntmps186;go_wp2_with fail
  refine(aR Gz (by decide) (uh HQ)).mono ?_;rintro e w1 ⟨rfl,cV,bE⟩;rw[uh HE]at cV;have dy:=ab cV;have bC:=ab bE;clear cV bE;go_wp2_with fail
  refine(uw (s:=s.adv) (by omega) (uh dy)).mono ?_;rintro e w2 ⟨rfl,F2,bT,bK⟩;have db:=ab bT;have bz:=ab ((uh bC).trans bK);clear bT bK;go_wp2_with fail
  refine(uh Ky _ _ _ (uh db) (λ_=>by omega) (by omega)).mono ?_;rintro e w3 ⟨rfl,F3,eF,cd⟩;have gI:=ab eF;have dd:=ab ((uh bz).trans cd);clear eF cd;rw[<-uh HZ]at gI;have Gq:=(uh gI).f.2.1;have uX:=aB wZ (by decide) (uh gI);rw[uh bu,uh ig]at uX;replace uX:=ab uX
  go_wp2_with fail
  refine(uh uX).mono ?_;rintro e w4 ⟨rfl,ko,dA⟩;have mh:=ab ko;have dW:=ab ((uh dd).trans dA);clear ko dA;obtain⟨wv,vv,hv,g,cap,dL⟩:=(uh mh).nodesAt (by omega);obtain⟨_,_,_,_,c5,_⟩:=dL.readsV;obtain⟨⟨v4,yF,zW⟩,f4⟩:=dL.nodeCell (s.nodes.length*6+5) (by omega);obtain⟨x4,rfl⟩:=iH zW;have u7:=ab dL;clear dL zW;have hfb:=wA z;go_wp2_with fail
  go_region
  go_wp2_with fail
  refine bodyPost_ret (results_none rfl _ _ _) rfl ?_;have Jh:=(uh u7).setNode (s.nodes.length*6+5) (.int .i64 (z.nodes.length:Int)) (eB s.nodes.length z.nodes.length z.nodes) (tR _ _ _) (dx _ _ _);exact⟨rfl,F3,⟨by rw[uh HS];exact Jh.is.drew,by rw[uh HS];exact(uh mh).f⟩,((uh dW).setCell (p:=⟨g,s.nodes.length*6+5,none⟩) ((uh u7).inF (uh dW)) _).drew⟩
 |true =>
  have ig:Hid (jR ws wZ z=z.adv):=ab (if_pos he);have HS:Hid (Kd blk ws s=Q7 z.nodes.length (blk (sK s.nodes.length z))):=ab (by unfold Kd;rw[uh zH,he];rfl);have YG:fb z=0:=wD (xp (ws:=ws) (s:=z) (by rw[gO he];decide)).1;have bu:=ab he;clear he;have hza:z.adv.pos=z.pos+1:=rfl;have hzl:z.adv.nodes.length=z.nodes.length:=rfl;have hbp:(sK s.nodes.length z).pos=z.pos+1:=rfl;have bP:(sK s.nodes.length z).nodes.length=z.nodes.length+1:=by simp[sK,dx,dZ,PS.adv]
  have k2:=(uh HGD).nodes (sK s.nodes.length z);have k3:=(uh HGD).phi (sK s.nodes.length z);have k4:=wA (blk (sK s.nodes.length z));go_enter func186,ntmps186;go_wp2_with fail
  refine(aR Gz (by decide) (uh HQ)).mono ?_;rintro e w1 ⟨rfl,cV,bE⟩;rw[uh HE]at cV;have dy:=ab cV;have bC:=ab bE;clear cV bE;go_wp2_with fail
  refine(uw (s:=s.adv) (by omega) (uh dy)).mono ?_;rintro e w2 ⟨rfl,F2,bT,bK⟩;have db:=ab bT;have bz:=ab ((uh bC).trans bK);clear bT bK;go_wp2_with fail
  refine(uh Ky _ _ _ (uh db) (λ_=>by omega) (by omega)).mono ?_;rintro e w3 ⟨rfl,F3,eF,cd⟩;have gI:=ab eF;have dd:=ab ((uh bz).trans cd);clear eF cd;rw[<-uh HZ]at gI;have Gq:=(uh gI).f.2.1;have uX:=aB wZ (by decide) (uh gI);rw[uh bu,uh ig]at uX;replace uX:=ab uX
  go_wp2_with fail
  refine(uh uX).mono ?_;rintro e w4 ⟨rfl,ko,dA⟩;have mh:=ab ko;have dW:=ab ((uh dd).trans dA);clear ko dA;go_wp2_with fail
  refine(Fx (uh mh) (by omega)).mono ?_;rintro e w5 ⟨rfl,F5,pM,ep⟩;have Fi:=ab pM;have gN:=ab ((uh dW).trans ep);clear pM ep;have hyn:(dZ lh z.adv).nodes.length=z.nodes.length+1:=by simp[dZ,PS.adv]
  obtain⟨wv,vv,hv,g,cap,dL⟩:=(uh Fi).nodesAt (by omega);obtain⟨_,_,_,_,c5,_⟩:=dL.readsV;obtain⟨⟨v4,yF,zW⟩,f4⟩:=dL.nodeCell (s.nodes.length*6+5) (by omega);obtain⟨x4,rfl⟩:=iH zW;rw[hyn]at c5;have u7:=ab dL;clear dL zW;go_wp2_with fail
  go_region
  go_wp2_with fail
  have Jh:=(uh u7).setNode (s.nodes.length*6+5) (.int .i64 ((z.nodes.length:Int)+1)) (eB s.nodes.length (dZ lh z.adv).nodes.length (dZ lh z.adv).nodes) (by rw[tR,hyn];rfl) (dx _ _ _);have HQ6:Hid (ee B WV ((w5.setCell ⟨g,s.nodes.length*6+5,none⟩ (.int .i64 ((z.nodes.length:Int)+1))).drew) P ws (sK s.nodes.length z) F5):=ab ⟨Jh.is.drew,(uh Fi).f⟩;have Ai:Hid (am F w F5 ((w5.setCell ⟨g,s.nodes.length*6+5,none⟩ (.int .i64 ((z.nodes.length:Int)+1))).drew)):=ab ((uh gN).setCell (p:=⟨g,s.nodes.length*6+5,none⟩) ((uh u7).inF (uh gN)) _).drew;clear Jh c5 yF f4;generalize (w5.setCell ⟨g,s.nodes.length*6+5,none⟩ (.int .i64 ((z.nodes.length:Int)+1))).drew=w6 at HQ6 Ai ⊢;refine(uh Ky _ _ _ (uh HQ6) (λ_=>by omega) (by omega)).mono ?_;rintro e w7 ⟨rfl,F7,hI7,CN⟩;have HI7:=ab hI7;have U3:=ab ((uh Ai).trans CN);have hp7:=hI7.f.2.1;clear hI7 CN;obtain⟨y,hy⟩:∃y,y=blk (sK s.nodes.length z):=⟨_,rfl⟩;rw[<-hy]at HI7 k2 k3 k4 hp7 HS;clear hy;obtain⟨wv,vv,hv,g2,cap2,dL⟩:=(uh HI7).nodesAt (by omega);obtain⟨_,_,_,_,c5,_⟩:=dL.readsV;obtain⟨⟨v4,yF,zW⟩,f4⟩:=dL.nodeCell (z.nodes.length*6+4) (by omega);obtain⟨x4,rfl⟩:=iH zW;have ab1:=ab dL;clear dL zW;go_wp2_with fail
  go_region
  go_end0
  have aj7:=(uh ab1).setNode (z.nodes.length*6+4) (.int .i64 (y.nodes.length:Int)) (gK z.nodes.length y.nodes.length y.nodes) (BQ _ _ _) (ek _ _ _);exact⟨rfl,F7,⟨by rw[uh HS];exact aj7.is.drew,by rw[uh HS];exact(uh HI7).f⟩,((uh U3).setCell (p:=⟨g2,z.nodes.length*6+4,none⟩) ((uh ab1).inF (uh U3)) _).drew⟩
theorem AG{blk:PS->PS}{f:Nat}(b7:Fe B WV P ws blk f)(gd:Kw blk)(dM:ws.length<f+1+s.pos)(qX:s.nodes.length+2*ws.length<=60000+2*s.pos)(h:ee B WV w P ws s F):
  Calls prog 161 #[.pointer (some ⟨P,0,none⟩)] w λe w'=>e=.returned (.tuple #[])/\∃F',ee B WV w' P ws (vf blk ws s) F'/\am F w F' w':=by
 have HQ:=ab h;have hp0:=h.f.2.1;have HK:=ab (jG h);clear h;cases hb:em ws Gz s with
 |true =>
  have HS:Hid (vf blk ws s=Kd blk ws s):=ab (if_pos hb);have m6:((pk ws s).toList==Gz.toList)=true:=hb;have Cx:=λn=>ab (Dq (w:=w.drewN n) b7 gd hb dM qX ⟨(uh HQ).m.drewN n,(uh HQ).f⟩);rw[show Gz.toList=[105,102] from (ByteArray.toList_eq _)]at m6;clear hb b7 gd;go_enter func161,ntmps161;go_wp2_with (first|(go_at_call 160;refine(uh HK).mono ?_;rintro e w' ⟨rfl,n,rfl⟩)|(go_at_call 186;refine(uh (Cx n)).mono ?_;rintro e w2 ⟨rfl,F2,bT,bK⟩))
  go_end0
  exact⟨rfl,F2,by rw[uh HS];exact bT,((am.refl F w).drewN n).trans bK⟩
 |false =>
  have m6:((pk ws s).toList==Gz.toList)=false:=hb;rw[show Gz.toList=[105,102] from (ByteArray.toList_eq _)]at m6;cases ax:em ws fT s with
  |true =>
   have HS:Hid (vf blk ws s=CW blk ws s):=ab (by unfold vf;rw[hb,ax];rfl);have IW:((pk ws s).toList==fT.toList)=true:=ax;have Cx:=λn=>ab (NZ (w:=w.drewN n) b7 gd ax dM qX ⟨(uh HQ).m.drewN n,(uh HQ).f⟩);rw[show fT.toList=[119,104,105,108,101] from (ByteArray.toList_eq _)]at IW;clear hb ax b7 gd;go_enter func161,ntmps161;go_wp2_with (first|(go_at_call 160;refine(uh HK).mono ?_;rintro e w' ⟨rfl,n,rfl⟩)|(go_at_call 187;refine(uh (Cx n)).mono ?_;rintro e w2 ⟨rfl,F2,bT,bK⟩))
   go_end0
   exact⟨rfl,F2,by rw[uh HS];exact bT,((am.refl F w).drewN n).trans bK⟩
  |false =>
   have HS:Hid (vf blk ws s=Kr ws s):=ab (by unfold vf;rw[hb,ax];rfl);have IW:((pk ws s).toList==fT.toList)=false:=ax;rw[show fT.toList=[119,104,105,108,101] from (ByteArray.toList_eq _)]at IW;clear hb ax b7 gd;go_enter func161,ntmps161;go_wp2_with (go_at_call 160;refine(uh HK).mono ?_;rintro e w' ⟨rfl,n,rfl⟩)
   refine(E0 (w:=w.drewN n) ⟨(uh HQ).m.drewN n,(uh HQ).f⟩).mono ?_;rintro e w1 ⟨rfl,F1,cV,bE⟩;have dy:=ab cV;have bC:=ab (((am.refl F w).drewN n).trans bE);clear cV bE;obtain⟨A0,vm⟩:∃A0,A0=nj ws s:=⟨_,rfl⟩;have HA0:=ab vm;rw[<-vm];clear vm;obtain⟨n0,n1,n2,n3,n4,n5⟩:=A0;simp only[Nd.cells];go_wp2_with fail
   refine(aR lj (by decide) ((uh dy).alloc _)).mono ?_;rintro e w2 ⟨rfl,bT,bK⟩;obtain⟨ax,nE,uQ⟩:=bq (uh dy).m bK;obtain⟨⟨q0,q1,q2,q3,q4,q5⟩,_⟩:=eY ax;have DS:=ro ⟨n0,n1,n2,n3,n4,n5⟩ bT (by rw[aX,xC];omega);simp only[Nd.cells]at DS;have Wr:=ab DS;have bz:=ab ((uh bC).trans (((am.refl F1 w1).alloc _).trans bK));clear DS bT bK ax;go_wp2_with fail
   refine(uh Wr).mono ?_;rintro e w3 ⟨rfl,F3,eF,cd⟩;have gI:=ab eF;have dd:=ab ((uh bz).trans cd);clear eF cd;go_wp2_with fail
   go_end0
   refine⟨rfl,F3,?_,uh dd⟩;rw[uh HS];unfold Kr;rw[<-uh HA0];exact uh gI
end
theorem sN{ws:List ByteArray}{c:PS->PS}(n:Nat){s:PS}(h:(s.failed||em ws CV s)=true):mV c ws n s=s:=by
 cases n with
 |zero=>rfl
 |succ n=>simp only[mV];rw[if_pos h]
theorem Xz{ws:List ByteArray}{c:PS->PS}(n:Nat){s:PS}(h:(s.failed||em ws CV s)=false):mV c ws (n+1) s=mV c ws n (c s):=by
 simp only[mV];rw[if_neg (by simp[h])]
theorem sR{ws:List ByteArray}{k:ByteArray}{s:PS}(hk:k.size≠0)(h:s.failed=true):bB ws k s=s:=by
 unfold bB;rw[sA k hk h];obtain⟨a,b,c,d,e⟩:=s;simp only at h;subst h;rfl
section
variable {B:Nat} {WV:Value} {w:World} {P:Nat} {ws:List ByteArray} {s:PS} {F:List Nat} {wv vv hv:Value} {g cap:Nat}
theorem sJ {c:PS->PS} {n:Nat}
  (adF:∀(w:World) (st:PS) (F:List Nat),ee B WV w P ws st F->st.failed=false->ws.length<n+st.pos->st.nodes.length+2*ws.length<=60000+2*st.pos ->
   Calls prog 161 #[.pointer (some ⟨P,0,none⟩)] w λe w'=>e=.returned (.tuple #[])/\∃F',ee B WV w' P ws (c st) F'/\am F w F' w')
  (hc:∀s,s.pos<=(c s).pos/\((c s).failed=false->s.pos<(c s).pos)/\(c s).nodes.length+2*s.pos<=s.nodes.length+2*(c s).pos+fb (c s))
  (dM:s.failed=false->ws.length<n+s.pos) (qX:s.nodes.length+2*ws.length<=60000+2*s.pos) (h:ee B WV w P ws s F) :
  Calls prog 122 #[.pointer (some ⟨P,0,none⟩)] w λe w'=>e=.returned (.tuple #[])/\∃F',ee B WV w' P ws (bB ws CV (mV c ws (ws.length+2) (bB ws Ac s))) F'/\am F w F' w':=by
 have HQ:=ab h;clear h;have ahk:=ab adF;have HC:=ab hc;have HFU:=ab dM;clear adF hc dM;have e1:=bY (ws:=ws) (s:=s) Ac;have e2:(bB ws Ac s).nodes.length=s.nodes.length:=by rw[aX]
 have PN:Hid ((bB ws Ac s).failed=false->ws.length<n+(bB ws Ac s).pos):=ab (λh=>by have:=uh HFU (cO _ h).2.1;omega);go_enter func122,ntmps122;go_wp2_with fail
 refine(aR Ac (by decide) (uh HQ)).mono ?_;rintro e w1 ⟨rfl,cV,bE⟩;have dy:=ab cV;have bC:=ab bE;clear cV bE;go_wp2_with fail
 go_loopg [4] (ws.length+2) (λm _ wr=>∃(st:PS) (F2:List Nat),ee B WV wr P ws st F2/\am F w F2 wr/\(bB ws Ac s).pos<=st.pos /\
  Hid (mV c ws (ws.length+2) (bB ws Ac s)=mV c ws m st)/\Hid (st.failed=false->ws.length<n+st.pos/\ws.length<m+st.pos/\st.nodes.length+2*ws.length<=60000+2*st.pos))
 case atStart =>
  exact⟨bB ws Ac s,F,uh dy,uh bC,zq4 _,rfl,λh=>⟨uh PN h,by omega,by omega⟩⟩
 case round =>
  obtain⟨st,F2,hI,hS,tt,kE,aY⟩:=hrel;have HI:=ab hI;have HS:=ab hS;obtain⟨c1,c2,_,_⟩:=hI.m.reads;have HK:=ab (jG hI);clear hI hS c1;cases hf:st.failed with
  |true =>
   rw[hf]at c2;have HEQ:Hid (mV c ws (ws.length+2) (bB ws Ac s)=st):=ab (by rw[uh kE];exact sN _ (by simp[hf]));clear hf kE aY;go_wp2_with fail
   refine(aR CV (by decide) (uh HI)).mono ?_;rintro e w2 ⟨rfl,bT,bK⟩;have db:=ab bT;have bz:=ab ((uh HS).trans bK);clear bT bK;go_wp2_with fail
   go_end0
   exact⟨rfl,F2,by rw[uh HEQ];exact uh db,uh bz⟩
  |false =>
   rw[hf]at c2;cases hb:em ws CV st with
   |true =>
    have m6:((pk ws st).toList==CV.toList)=true:=hb;rw[show CV.toList=[125] from (ByteArray.toList_eq _)]at m6;have HEQ:Hid (mV c ws (ws.length+2) (bB ws Ac s)=st):=ab (by rw[uh kE];exact sN _ (by simp[hb]));clear hf hb kE aY;go_wp2_with (go_at_call 160;refine(uh HK).mono ?_;rintro e w' ⟨rfl,nn,rfl⟩)
    refine(aR CV (by decide) (w:=wr.drewN nn) ⟨(uh HI).m.drewN nn,(uh HI).f⟩).mono ?_;rintro e w2 ⟨rfl,bT,bK⟩;have db:=ab bT;have bz:=ab (((uh HS).drewN nn).trans bK);clear bT bK;go_wp2_with fail
    go_end0
    exact⟨rfl,F2,by rw[uh HEQ];exact uh db,uh bz⟩
   |false =>
    have m6:((pk ws st).toList==CV.toList)=false:=hb;rw[show CV.toList=[125] from (ByteArray.toList_eq _)]at m6;obtain⟨o1,o2,o3⟩:=uh aY hf;have hps:=(uh HI).f.2.1;obtain⟨m,rfl⟩:∃m,gk=m+1:=⟨gk-1,by omega⟩;have HEQ:Hid (mV c ws (ws.length+2) (bB ws Ac s)=mV c ws m (c st)):=ab (by rw[uh kE];exact Xz _ (by simp[hb,hf]));have HF:=ab hf;clear hf hb kE aY;go_wp2_with (go_at_call 160;refine(uh HK).mono ?_;rintro e w' ⟨rfl,nn,rfl⟩)
    refine(uh ahk (wr.drewN nn) st F2 ⟨(uh HI).m.drewN nn,(uh HI).f⟩ (uh HF) o1 o3).mono ?_;rintro e w2 ⟨rfl,F3,bT,bK⟩;have db:=ab bT;have bz:=ab (((uh HS).drewN nn).trans bK);clear bT bK;go_wp2_with fail
    obtain⟨d1,d2,d3⟩:=uh HC st;go_roundg m
    case measure=>omega
    case rel =>
     refine⟨c st,F3,uh db,uh bz,by omega,uh HEQ,λhcf=>?_⟩;have:=d2 hcf;rw[wD hcf]at d3;exact⟨by omega,by omega,by omega⟩
theorem Lf(f:Nat):Fe B WV P ws (FG ws f) f:=by
 induction f with
 |zero =>
  intro w s F h dM qX;have hps:=h.f.2.1;have hf:s.failed=true:=by
   cases hf:s.failed with
   |true=>rfl
   |false=>have:=dM hf;omega
  have hw:=sJ (c:=PS.adv) (n:=0) (B:=B) (P:=P) (ws:=ws) (s:=s) (F:=F) (w:=w) (λ_ st _ hi _ ar _=>by have:=hi.f.2.1;omega) (λs=>⟨cI,λ_=>Nat.lt_succ_self _,by show s.nodes.length+2*s.pos<=s.nodes.length+2*(s.pos+1)+_;omega⟩) dM qX h;rw[sR (by decide) hf,sN _ (by simp[hf]),sR (by decide) hf]at hw;exact hw
 |succ f ih =>
  intro w s F h dM qX;exact sJ (n:=f+1) (λw st F hi _ ar hph=>AG ih (ik f) ar hph hi) (λs=>⟨(io (ik f)).1,λh=>((io (ik f)).2.2.1 h).2,(io (ik f)).2.2.2⟩) dM qX h
end
def oq:ByteArray:=⟨#[112,114,101]⟩
def lr:Nd:=⟨0,0,0,0,0,0⟩
def XM(ws:List ByteArray)(s:PS):PS:=if s.pos=ws.length then s else s.fail
def Qq(ws:List ByteArray)(s:PS):PS:=dZ lr (FG ws (ws.length+1) (F9 ws (bB ws oq s)))
def dH(ws:List ByteArray)(s:PS):PS:=if (Qq ws s).pos=ws.length then Qq ws s else (Qq ws s).fail
def gb(ws:List ByteArray)(s:PS):List bt:=foA ws (bB ws oq s)
section
variable {B:Nat} {WV:Value} {w:World} {P:Nat} {ws:List ByteArray} {s:PS} {F:List Nat} {wv vv hv nv:Value} {g cap:Nat}
theorem Jy:(GI ws s).nodes=s.nodes:=by unfold GI tI vM;rw[aX,l8,aX,l8,aX]
theorem ER:(iJ ws s).nodes=s.nodes:=by unfold iJ;split;rfl;split;rfl;exact aX _
theorem wo:(mm ws s).nodes=s.nodes:=by
 unfold mm;split;rfl;split
 .rw[Jy];rfl
 .rw[l8,ER,l8]
theorem IF(n:Nat):∀s,(pj ws n s).2.nodes=s.nodes:=by
 induction n with
 |zero=>intro s;rfl
 |succ n ih =>
  intro s;simp only[pj];split
  .show(pj ws n (mm ws s.adv)).2.nodes=s.nodes;rw[ih,wo];rfl
  .rfl
theorem wH:(F9 ws s).nodes=s.nodes:=by unfold F9;rw[IF,wo]
theorem QV(h:ee B WV w P ws s F)(hn:s.nodes.length<=100000):
  Calls prog 123 #[.pointer (some ⟨P,0,none⟩),.agg #[.int .i64 0,.int .i64 0,.int .i64 0,.int .i64 0,.int .i64 0,.int .i64 0]] w λe w'=>e=.returned (.int .i64 s.nodes.length)/\∃F',ee B WV w' P ws (dZ lr s) F'/\am F w F' w' :=
 ro lr h hn
theorem cU.read0(h:cU B WV w P ws s F wv vv hv nv):w.cell? ⟨P,0,none⟩=some wv/\∃ao cap,wv=.slice ao ws.length cap :=
 ⟨(im h.1).1.1,bm h.2.2.1⟩
theorem oO{w:World}{B B':Nat}{e:TypeId}{sz n:Nat}{v:Value}{xs:List Value}(h:w.ownsRow B e sz v n xs)(hB:B'<=B):w.ownsRow B' e sz v n xs:=by
 refine⟨h.1,?_⟩;rcases h.2 with hn|⟨g,cap,cur,rfl,hb,rest⟩
 .exact .inl hn
 .exact .inr ⟨g,cap,cur,rfl,by omega,rest⟩
theorem DG(h:ee B WV w P ws s F):
  Calls prog 124 #[.pointer (some ⟨P,0,none⟩)] w λe w'=>e=.returned (.tuple #[])/\ee B WV w' P ws (XM ws s) F/\am F w F w':=by
 have HI:=ab h;have hp:=h.f.2.1;have hl:=h.f.1;obtain⟨wv,vv,hv,nv,dL⟩:=h.m.named;obtain⟨c0,ao,cap,rfl⟩:=dL.read0;obtain⟨c1,_,_,_,_,fz⟩:=dL.readsV;have f2:=fz 2;have c2:=h.m.reads.2.1;clear dL fz h;by_cases SQ:s.pos=ws.length
 .have HS:Hid (XM ws s=s):=ab (if_pos SQ);have hd:((s.pos:Int) != (ws.length:Int))=false:=by simp[SQ]
  clear SQ;go_enter func124,ntmps124;go_wp2_with fail
  go_quiet (fail)
  go_wp2_with fail
  go_end0
  exact⟨rfl,by rw[uh HS];exact⟨(uh HI).m.drewN _,(uh HI).f⟩,(am.refl F w).drewN _⟩
 .have HS:Hid (XM ws s=s.fail):=ab (if_neg SQ);have hd:((s.pos:Int) != (ws.length:Int))=true:=by rw[bne_iff_ne];omega
  clear SQ;go_enter func124,ntmps124;go_wp2_with fail
  go_quiet (fail)
  go_wp2_with fail
  go_end0
  exact⟨rfl,by rw[uh HS];exact⟨((uh HI).m.drewN _).setFailed true,(uh HI).f⟩,((am.refl F w).drewN _).setCell (zq0 (uh HI).m.memP) _⟩
theorem BY(h:ee B WV w P ws s F)(qt:s.nodes=[]):
  Calls prog 69 #[.pointer (some ⟨P,0,none⟩)] w λe w'=>∃v F',e=.returned v/\ee B WV w' P ws (dH ws s) F'/\am F w F' w' /\
   w'.ownsRow w.heap.size 239 5 v (gb ws s).length (bh (gb ws s))/\(∀k,v.ownBlock=some k->k ∉ F'):=by
 have HQ:=ab h;have hl:=h.f.1;clear h;have gz:(F9 ws (bB ws oq s)).nodes.length=0:=by rw[wH,aX,qt];rfl
 have k2:=(ik (ws:=ws) (ws.length+1)).nodes (F9 ws (bB ws oq s));have k3:=(ik (ws:=ws) (ws.length+1)).phi (F9 ws (bB ws oq s));have k4:=wA (FG ws (ws.length+1) (F9 ws (bB ws oq s)));clear qt;go_enter func69,ntmps69;go_wp2_with fail
 refine(aR oq (by decide) (uh HQ)).mono ?_;rintro e w1 ⟨rfl,cV,bE⟩;have dy:=ab cV;have bC:=ab bE;clear cV bE;go_wp2_with fail
 refine(AS (uh dy)).mono ?_;rintro e w2 ⟨v,F2,rfl,bT,bK,aZ,Gp⟩;have db:=ab bT;have bz:=ab ((uh bC).trans bK);have J8:=ab aZ;have HU2:=ab Gp;have du:=(uh bC).size;clear bT bK aZ Gp;go_wp2_with fail
 refine(Lf (ws.length+1) w2 _ F2 (uh db) (λ_=>by omega) (by omega)).mono ?_;rintro e w3 ⟨rfl,F3,eF,cd⟩;have Gq:=eF.f.2.1;have HW3:=ab (oP (uh J8) cd (uh HU2));have HU3:Hid (∀k,v.ownBlock=some k->k ∉ F3):=ab (λk hk hm=>by
  rcases cd.foot k hm with h|h
  .exact uh HU2 k hk h
  .have:=((uh J8).lt k hk).2;omega)
 have gI:=ab eF;have dd:=ab ((uh bz).trans cd);clear eF cd;go_wp2_with fail
 refine(QV (uh gI) (by omega)).mono ?_;rintro e w4 ⟨rfl,F4,ko,dA⟩;have HW4:=ab (oP (uh HW3) dA (uh HU3));have HU4:Hid (∀k,v.ownBlock=some k->k ∉ F4):=ab (λk hk hm=>by
  rcases dA.foot k hm with h|h
  .exact uh HU3 k hk h
  .have:=((uh HW3).lt k hk).2;omega)
 have mh:Hid (ee B WV w4 P ws (Qq ws s) F4):=ab ko;have dW:=ab ((uh dd).trans dA);clear ko dA;go_wp2_with fail
 refine(DG (uh mh)).mono ?_;rintro e w5 ⟨rfl,pM,ep⟩;have HW5:=ab (oP (uh HW4) ep (uh HU4));have Fi:Hid (ee B WV w5 P ws (dH ws s) F4):=ab pM;have gN:=ab ((uh dW).trans ep);clear pM ep;go_wp2_with fail
 go_ret;exact⟨v,F4,rfl,uh Fi,uh gN,oO (uh HW5) du,uh HU4⟩
end
