import Derived.Test.YtciihepbeacppaaGreatM32
set_option maxRecDepth 100000
set_option maxHeartbeats 0
namespace Go.Proofs.YtciihepbeacppaaGreat
open Tryz Go.RowKit List
set_option linter.unusedVariables false
theorem E3(nds:List Nd)(i:Nat):∀(l:List Nat) {h:List Bool},h.length=nds.length->(l.foldl (λh j=>if gU nds j=true then h.set (nds.getD j aK).nx true else h) h).length=nds.length /\
  ((l.foldl (λh j=>if gU nds j=true then h.set (nds.getD j aK).nx true else h) h).getD i false=true↔h.getD i false=true\/(i<nds.length/\∃j∈l,gU nds j=true/\(nds.getD j aK).nx=i))
 |[],h,hl=>⟨hl,by simp⟩
 |j::l,h,hl=>by
  rw[foldl_cons];obtain⟨g1,g2⟩:=E3 nds i l (h:=if gU nds j=true then h.set (nds.getD j aK).nx true else h) (by split;rw[length_set];exact hl;exact hl);refine⟨g1,g2.trans ?_⟩;by_cases hb:gU nds j=true
  .rw[if_pos hb];by_cases hn:(nds.getD j aK).nx<h.length
   .rw[b8 _ _ _ _ _ hn];by_cases e:(nds.getD j aK).nx=i
    .rw[if_pos e];constructor
     .intro _;exact zq1 ⟨by rw[<-hl,<-e];exact hn,j,by simp,hb,e⟩
     .intro _;exact zq0 rfl
    .rw[if_neg e];constructor
     .rintro(h1|⟨h1,x,h2,h3⟩)
      .exact zq0 h1
      .exact zq1 ⟨h1,x,by simp[h2],h3⟩
     .rintro(h1|⟨h1,x,h2,h3⟩)
      .exact zq0 h1
      .rcases mem_cons.1 h2 with rfl|h2
       .exact absurd h3.2 e
       .exact zq1 ⟨h1,x,h2,h3⟩
   .rw[set_eq_of_length_le (by omega)];constructor
    .rintro(h1|⟨h1,x,h2,h3⟩)
     .exact zq0 h1
     .exact zq1 ⟨h1,x,by simp[h2],h3⟩
    .rintro(h1|⟨h1,x,h2,h3⟩)
     .exact zq0 h1
     .rcases mem_cons.1 h2 with rfl|h2
      .omega
      .exact zq1 ⟨h1,x,h2,h3⟩
  .rw[if_neg hb];constructor
   .rintro(h1|⟨h1,x,h2,h3⟩)
    .exact zq0 h1
    .exact zq1 ⟨h1,x,by simp[h2],h3⟩
   .rintro(h1|⟨h1,x,h2,h3⟩)
    .exact zq0 h1
    .rcases mem_cons.1 h2 with rfl|h2
     .exact absurd h3.1 hb
     .exact zq1 ⟨h1,x,h2,h3⟩
theorem E4(nds:List Nd)(i:Nat):(O0 nds).getD i false=true↔i<nds.length/\∃j,j<nds.length/\gU nds j=true/\(nds.getD j aK).nx=i:=by
 have:=(E3 nds i (range nds.length) (h:=replicate nds.length false) (by simp)).2;unfold O0;rw[this];have h0:(replicate nds.length false).getD i false=false:=by
  rw[getD_eq_getElem?_getD,getElem?_replicate];split <;> rfl
 rw[h0];simp
section
variable {f b:List ByteArray} {k:Nat}
theorem BV.at{vs:List UInt8}{n:Nat}{N:List Nd}{C:List oe}(h:BV vs n N C){j:Nat}(hj:j<C.length):NI vs (n+j) (N.getD j aK) C[j]:=by
 have hl:=h.len;refine h.get j _ _ ?_ (getElem?_eq_getElem hj);rw[getD_eq_getElem?_getD,getElem?_eq_getElem (by omega)];rfl
theorem wo{A:List Nd}{e:Nd}{j:Nat}(h:j<A.length):(A++[e]).getD j aK=A.getD j aK:=by
 rw[getD_eq_getElem?_getD,getElem?_append_left h,<-getD_eq_getElem?_getD]
theorem wq{A:List Nd}{e:Nd}:(A++[e]).getD A.length aK=e:=by
 rw[getD_eq_getElem?_getD,getElem?_append_right (zq4 _)];simp
theorem FQ{vs:List UInt8}{j:Nat}{nd:Nd}{i:oe}(h:NI vs j nd i):(nd.op=10↔i.op=BZ)/\(i.op=BZ->nd.nx=i.to)/\(i.op≠BZ->nd.nx=j+1)/\(nd.op=7\/nd.op=8\/nd.op=9->nd.ot=i.to)/\nd.op≠0:=by
 rcases h with⟨h1,h2⟩|⟨h1,h2,h3⟩|⟨h1,h2,h3⟩
 .have hg:i.op≠BZ:=λe=>BE h1 (zq1 e);have ho:nd.op=1\/nd.op=4\/nd.op=2\/nd.op=3\/nd.op=5\/nd.op=6:=by
   rcases h1 with⟨-,a,-⟩|⟨-,a,-⟩|⟨-,a,-⟩|⟨-,a,-⟩|⟨-,a,-⟩|⟨-,a,-⟩|⟨-,a⟩ <;> omega
  exact⟨⟨λe=>by omega,λe=>absurd e hg⟩,λe=>absurd e hg,λ_=>h2,λe=>by omega,by omega⟩
 .have hg:i.op≠BZ:=λe=>Y7 h1.1 e (by simp[qV,BZ]);have ho:nd.op=7\/nd.op=8\/nd.op=9:=by
   rcases h1.2 with⟨-,a⟩|⟨-,a,-⟩|⟨-,a,-⟩ <;> omega
  exact⟨⟨λe=>by omega,λe=>absurd e hg⟩,λe=>absurd e hg,λ_=>h2,λ_=>h3,by omega⟩
 .exact⟨⟨λ_=>h1,λ_=>h2⟩,λ_=>h3,λe=>absurd h1 e,λe=>by omega,by omega⟩
def ay(f b:List ByteArray):List ByteArray:=dq::(f++cK::(b++[dd]))
theorem xo(hb:fR b k):(tO [] false (ay f (b++b))).1=(tO [] false (ay f b)).1/\Cg [] (ay f (b++b))=Cg [] (ay f b):=by
 have Jh:aV cK aW=false:=bm (am (by simp[cK,aW]));have e1:ay f b=(dq::(f++[cK]))++(b++[dd]):=by unfold ay;simp
 have e2:ay f (b++b)=(dq::(f++[cK]))++(b++(b++[dd])):=by unfold ay;simp
 have hA:(tO [] false (dq::(f++[cK]))).2=false:=by
  rw[show dq::(f++[cK])=(dq::f)++[cK] by simp,gz];exact Jh
 rw[e1,e2,gz,gz (dq::(f++[cK])),hA,kH,kH (dq::(f++[cK]))];generalize (tO [] false (dq::(f++[cK]))).1=z;generalize Cg [] (dq::(f++[cK]))=y;rw[gz b,gz b,kH b,kH b,Eu hb,gz b,kH b];have h1:=FU b z (tO z false b).1 false (λ_ h=>h);have h2:=FP b y (Cg y b) (λ_ h=>h);rw[h1,h2,Eu hb];exact⟨rfl,rfl⟩
theorem Ev(hb:fR b k):∀q,fs m7 q=false->fs m7 (b++q)=false:=λ_ hq=>J2 hb hq
theorem DV(hf:nC f)(hb:fR b k)(hA:Pe (ay f b))(Tp:Pe (ay f (b++b)))(hv:(sI (ay f b)).vd≠2)(wE:(sI (ay f (b++b))).vd≠2):
  (bL (ay f b) aJ).nodes.length=k+1/\∀p∈(sI (ay f b)).al,p.1≠k->p∈(sI (ay f (b++b))).al:=by
 obtain⟨T,hT,hB⟩:=Ew hb;have hB:Pg b T:=hB;have uE:Pg (b++b) (T++T.map (jh T.length)):=hB.app hB (Ev hb);obtain⟨N,n1,n2,n3⟩:=mG hf hB (ws:=ay f b) rfl;obtain⟨M,m1,m2,m3⟩:=mG hf uE (ws:=ay f (b++b)) rfl;obtain⟨v1,-⟩:=pA n3;obtain⟨v2,-⟩:=pA m3;have hV:(bL (ay f (b++b)) aJ).vars=(bL (ay f b) aJ).vars:=pp (v2.trans ((xo hb).1.trans v1.symm));have dV:(bL (ay f b) aJ).vars.Nodup:=(Xr (ws:=ay f b)).nv;rw[hV]at m2;obtain⟨V,hVe⟩:∃V,V=(bL (ay f b) aJ).vars:=⟨_,rfl⟩;rw[<-hVe]at n2 m2 dV;have e0:T.map (jh 0)=T:=by
  conv=>rhs;rw[<-map_id T]
  apply map_congr_left;intro i _;rfl
 rw[e0]at n2;rw[map_append,gB,e0]at m2;have I9:N.length=k:=by rw[n2.len,hT]
 have OO:M.length=2*k:=by rw[m2.len,length_append,length_map,hT];omega
 have amR:(T++T.map (jh (T.length+0))).length=2*k:=by rw[length_append,length_map,hT];omega
 -- nodes
 have a1:∀i,(hi:i<k)->NI V i (N.getD i aK) (T[i]'(by omega)):=λi hi=>by
  have:=n2.at (j:=i) (by omega);rwa [Nat.zero_add]at this
 have a2:∀i,(hi:i<k)->NI V i (M.getD i aK) (T[i]'(by omega)):=λi hi=>by
  have:=m2.at (j:=i) (by omega);rw[Nat.zero_add,getElem_append_left (by omega)]at this;exact this
 have a3:∀i,(hi:i<k)->NI V (k+i) (M.getD (k+i) aK) (jh k (T[i]'(by omega))):=λi hi=>by
  have:=m2.at (j:=k+i) (by omega);rw[Nat.zero_add,getElem_append_right (by omega),getElem_map]at this;have e:k+i-k=i:=by omega
  simp only[hT,Nat.add_zero,e]at this;exact this
 have g1:∀i,i<k->(bL (ay f b) aJ).nodes.getD i aK=N.getD i aK:=λi hi=>by rw[n1,wo (by omega)]
 have g2:∀i,i<2*k->(bL (ay f (b++b)) aJ).nodes.getD i aK=M.getD i aK:=λi hi=>by rw[m1,wo (by omega)]
 have l1:(bL (ay f b) aJ).nodes.length=k+1:=by rw[n1];simp[I9]
 have l2:(bL (ay f (b++b)) aJ).nodes.length=2*k+1:=by rw[m1];simp[OO]
 have en1:(bL (ay f b) aJ).nodes.getD k aK={ gP with nx:=N.length+1 }:=by rw[n1,<-I9,wq]
 have en2:(bL (ay f (b++b)) aJ).nodes.getD (2*k) aK={ gP with nx:=M.length+1 }:=by rw[m1,<-OO,wq]
 -- jumps
 have bk1:∀i,(hi:i<k)->(gU (bL (ay f b) aJ).nodes i=true↔(T[i]'(by omega)).op=BZ/\(T[i]'(by omega)).to<i):=λi hi=>by
  obtain⟨h1,h2,-⟩:=FQ (a1 i hi);unfold gU;rw[g1 i hi,Bool.and_eq_true,decide_eq_true_eq,decide_eq_true_eq,h1];constructor
  .rintro⟨h,h'⟩;exact⟨h,by rw[h2 h]at h';exact h'⟩
  .rintro⟨h,h'⟩;exact⟨h,by rw[h2 h];exact h'⟩
 have bk2:∀i,(hi:i<k)->(gU (bL (ay f (b++b)) aJ).nodes i=true↔(T[i]'(by omega)).op=BZ/\(T[i]'(by omega)).to<i):=λi hi=>by
  obtain⟨h1,h2,-⟩:=FQ (a2 i hi);unfold gU;rw[g2 i (by omega),Bool.and_eq_true,decide_eq_true_eq,decide_eq_true_eq,h1];constructor
  .rintro⟨h,h'⟩;exact⟨h,by rw[h2 h]at h';exact h'⟩
  .rintro⟨h,h'⟩;exact⟨h,by rw[h2 h];exact h'⟩
 have bk3:∀i,(hi:i<k)->(gU (bL (ay f (b++b)) aJ).nodes (k+i)=true->((T[i]'(by omega)).op=BZ/\(T[i]'(by omega)).to<i)/\k<=((bL (ay f (b++b)) aJ).nodes.getD (k+i) aK).nx):=λi hi h=>by
  obtain⟨h1,h2,-⟩:=FQ (a3 i hi);unfold gU at h;rw[g2 _ (by omega),Bool.and_eq_true,decide_eq_true_eq,decide_eq_true_eq,h1]at h;have h3:=h2 h.1;rw[g2 _ (by omega),h3];rw[h3]at h;have h4:(T[i]'(by omega)).to+k<k+i:=h.2;exact⟨⟨h.1,by omega⟩,by show k<=(T[i]'(by omega)).to+k;omega⟩
 have be1:gU (bL (ay f b) aJ).nodes k=false:=by unfold gU;rw[en1];rfl
 have be2:gU (bL (ay f (b++b)) aJ).nodes (2*k)=false:=by unfold gU;rw[en2];rfl
 obtain⟨c,hc⟩:∃c,c=Ey (bL (ay f b) aJ).nodes (bL (ay f b) aJ).vars.length (gR (ay f b) aJ):=⟨_,rfl⟩;obtain⟨c2,uJ⟩:∃c2,c2=Ey (bL (ay f (b++b)) aJ).nodes (bL (ay f (b++b)) aJ).vars.length (gR (ay f (b++b)) aJ):=⟨_,rfl⟩;have je:c.nds=(bL (ay f b) aJ).nodes:=by rw[hc];rfl
 have AB:c2.nds=(bL (ay f (b++b)) aJ).nodes:=by rw[uJ];rfl
 have hTw:PE c c2 k:=by
  refine⟨λi hi=>?_,λi hi=>?_,?_⟩
  .rw[je,AB,g1 i hi,g2 i (by omega)];exact M4 dV (a1 i hi) (a2 i hi)
  .have e1:c.hd=O0 (bL (ay f b) aJ).nodes:=(by rw[hc];rfl);have e2:c2.hd=O0 (bL (ay f (b++b)) aJ).nodes:=(by rw[uJ];rfl);rw[e1,e2,Bool.eq_iff_iff,E4,E4,l1,l2];constructor
   .rintro⟨-,j,hj,h1,h2⟩;refine⟨by omega,?_⟩;by_cases m9:j<k
    .refine⟨j,by omega,(bk1 j m9).2 ((bk2 j m9).1 h1),?_⟩;rw[g2 j (by omega)]at h2;rw[g1 j m9,<-h2];exact(M4 dV (a1 j m9) (a2 j m9)).nx.symm
    .exfalso;by_cases hj2:j=2*k
     .rw[hj2,be2]at h1;cases h1
     .obtain⟨i',rfl⟩:∃i',j=k+i':=⟨j-k,by omega⟩;have:=(bk3 i' (by omega) h1).2;omega
   .rintro⟨-,j,hj,h1,h2⟩;have m9:j<k:=by
     apply Classical.byContradiction;intro OV;have:j=k:=(by omega);rw[this,be1]at h1;cases h1
    refine⟨by omega,j,by omega,(bk2 j m9).2 ((bk1 j m9).1 h1),?_⟩;rw[g1 j m9]at h2;rw[g2 j (by omega),<-h2];exact(M4 dV (a1 j m9) (a2 j m9)).nx
  .have e1:c.lp=(range (bL (ay f b) aJ).nodes.length).any (gU (bL (ay f b) aJ).nodes):=(by rw[hc];rfl);have e2:c2.lp=(range (bL (ay f (b++b)) aJ).nodes.length).any (gU (bL (ay f (b++b)) aJ).nodes):=(by rw[uJ];rfl);rw[e1,e2,Bool.eq_iff_iff,any_eq_true,any_eq_true,l1,l2];constructor
   .rintro⟨j,hj,h1⟩;have hj:=mem_range.1 hj;by_cases m9:j<k
    .exact⟨j,mem_range.2 (by omega),(bk1 j m9).2 ((bk2 j m9).1 h1)⟩
    .by_cases hj2:j=2*k
     .rw[hj2,be2]at h1;cases h1
     .obtain⟨i',rfl⟩:∃i',j=k+i':=⟨j-k,by omega⟩;exact⟨i',mem_range.2 (by omega),(bk1 i' (by omega)).2 (bk3 i' (by omega) h1).1⟩
   .rintro⟨j,hj,h1⟩;have hj:=mem_range.1 hj;have m9:j<k:=by
     apply Classical.byContradiction;intro OV;have:j=k:=(by omega);rw[this,be1]at h1;cases h1
    exact⟨j,mem_range.2 (by omega),(bk2 j m9).2 ((bk1 j m9).1 h1)⟩
 have k9:SL c k:=λn hn hl=>by
  rw[je,l1]at hl;have:n=k:=by omega
  rw[je,this,en1];exact⟨λh=>absurd rfl h,λh=>by rcases h with h|h|h <;> cases h⟩
 have agD:SL c2 k:=λn hn hl=>by
  rw[AB,l2]at hl;rw[AB];by_cases gl:n=2*k
  .rw[gl,en2];exact⟨λh=>absurd rfl h,λh=>by rcases h with h|h|h <;> cases h⟩
  .obtain⟨i',rfl⟩:∃i',n=k+i':=⟨n-k,by omega⟩;obtain⟨-,h2,h3,h4,-⟩:=FQ (a3 i' (by omega));rw[g2 _ (by omega)];refine⟨λ_=>?_,λht=>?_⟩
   .by_cases hg:(jh k (T[i']'(by omega))).op=BZ
    .rw[h2 hg];show k<=(T[i']'(by omega)).to+k;omega
    .rw[h3 hg];omega
   .rw[h4 ht];show k<=(T[i']'(by omega)).to+k;omega
 -- the searches
 have eJ:(vT (bL (ay f b) aJ).nodes (bL (ay f b) aJ).vars.length (gR (ay f b) aJ)).fu=false:=by
  cases h:(vT (bL (ay f b) aJ).nodes (bL (ay f b) aJ).vars.length (gR (ay f b) aJ)).fu with
  |false=>rfl
  |true=>exact absurd (by unfold sI zT Ck;rw[if_pos h]) hv
 have LJ:(vT (bL (ay f (b++b)) aJ).nodes (bL (ay f (b++b)) aJ).vars.length (gR (ay f (b++b)) aJ)).fu=false:=by
  cases h:(vT (bL (ay f (b++b)) aJ).nodes (bL (ay f (b++b)) aJ).vars.length (gR (ay f (b++b)) aJ)).fu with
  |false=>rfl
  |true=>exact absurd (by unfold sI zT Ck;rw[if_pos h]) wE
 have ahZ:ej (gR (ay f (b++b)) aJ)=ej (gR (ay f b) aJ):=Ns hf;have h0:=Gr (bL (ay f b) aJ).nodes;have h02:=Gr (bL (ay f (b++b)) aJ).nodes;have hR:gT k (vT (bL (ay f b) aJ).nodes (bL (ay f b) aJ).vars.length (gR (ay f b) aJ)) (vT (bL (ay f (b++b)) aJ).nodes (bL (ay f (b++b)) aJ).vars.length (gR (ay f (b++b)) aJ)):=by
  have bE:=hA.ok;have WH:=Tp.ok;have ZE:∀(nds:List Nd) (i:Nat),i<nds.length->(md nds).wr.getD i []=replicate 5 false:=λnds i hi=>by
   show(replicate nds.length (replicate 5 false)).getD i []=_;rw[getD_eq_getElem?_getD,getElem?_replicate,if_pos hi];rfl
  have Ho:gT k (md (bL (ay f b) aJ).nodes) (md (bL (ay f (b++b)) aJ).nodes):=⟨λi _=>by rw[NX,NX],λi hi=>by rw[ZE _ i (by omega),ZE _ i (by omega)]⟩;unfold vT at bE WH eJ LJ ⊢;rw[<-hc]at bE eJ ⊢;rw[<-uJ]at WH LJ ⊢;have hE:eM (bL (ay f b) aJ).nodes.length (fT c 4000 (bL (ay f b) aJ).vars.length (gR (ay f b) aJ) (md (bL (ay f b) aJ).nodes))/\eM (bL (ay f (b++b)) aJ).nodes.length (fT c2 4000 (bL (ay f (b++b)) aJ).vars.length (gR (ay f (b++b)) aJ) (md (bL (ay f (b++b)) aJ).nodes)) /\
    ((fT c 4000 (bL (ay f b) aJ).vars.length (gR (ay f b) aJ) (md (bL (ay f b) aJ).nodes)).fu=false->(fT c2 4000 (bL (ay f (b++b)) aJ).vars.length (gR (ay f (b++b)) aJ) (md (bL (ay f (b++b)) aJ).nodes)).fu=false->gT k (fT c 4000 (bL (ay f b) aJ).vars.length (gR (ay f b) aJ) (md (bL (ay f b) aJ).nodes)) (fT c2 4000 (bL (ay f (b++b)) aJ).vars.length (gR (ay f (b++b)) aJ) (md (bL (ay f (b++b)) aJ).nodes))):=by
   unfold fT;rw[ahZ,hV,je,AB];by_cases qh:kz (ej (gR (ay f b) aJ))=true
   .rw[if_pos qh,if_pos qh];exact⟨h0,h02,λ_ _=>Ho⟩
   .rw[if_neg qh,if_neg qh];have ic:=oC (sL hA.a.tm (by simpa using qh)) (bL (ay f b) aJ).vars.length;have o1:=(nF (c:=c) (fuel:=4000) (a:=(bL (ay f b) aJ).nodes.length-1) (b:=0) ic.tidy h0 (by omega) (by omega)).2.1;have o2:=(nF (c:=c2) (fuel:=4000) (a:=(bL (ay f (b++b)) aJ).nodes.length-1) (b:=0) ic.tidy h02 (by omega) (by omega)).2.1;exact⟨o1,o2,λf1 f2=>JU hTw ic.tidy Ho h0 h02 (by omega) (by omega) (by omega) (by omega) (zq1 ⟨by omega,by omega⟩) f1 f2⟩
  have q1:=(kL (c:=c) (fuel:=4000) (by rw[je]) (by rw[je];exact hA.n) 1000000 hE.1).1.nfu eJ;have q2:=(kL (c:=c2) (fuel:=4000) (by rw[AB]) (by rw[AB];exact Tp.n) 1000000 hE.2.1).1.nfu LJ;exact NM hTw k9 agD (by rw[je]) (by rw[AB]) (by rw[je];exact hA.n) (by rw[AB];exact Tp.n) (by omega) (by omega) 1000000 1000000 (hE.2.2 q1 q2) hE.1 hE.2.1 bE WH eJ LJ
 refine⟨l1,λp hp Cb=>?_⟩;have ea:(sI (ay f b)).al=U5 (vT (bL (ay f b) aJ).nodes (bL (ay f b) aJ).vars.length (gR (ay f b) aJ)).wr:=by unfold sI zT Ck;rw[if_neg (by rw[eJ];simp)]
 have ea2:(sI (ay f (b++b))).al=U5 (vT (bL (ay f (b++b)) aJ).nodes (bL (ay f (b++b)) aJ).vars.length (gR (ay f (b++b)) aJ)).wr:=by unfold sI zT Ck;rw[if_neg (by rw[LJ];simp)]
 have wl:(vT (bL (ay f b) aJ).nodes (bL (ay f b) aJ).vars.length (gR (ay f b) aJ)).wr.length=k+1:=by rw[JM,l1]
 have wl2:(vT (bL (ay f (b++b)) aJ).nodes (bL (ay f (b++b)) aJ).vars.length (gR (ay f (b++b)) aJ)).wr.length=2*k+1:=by rw[JM,l2]
 rw[ea]at hp;rw[ea2];unfold U5 at hp ⊢;obtain⟨n,hn,hp⟩:=mem_flatMap.1 hp;obtain⟨w,hw,rfl⟩:=mem_map.1 hp;have hn:=mem_range.1 hn;have QM:n<k:=by
  have:n≠k:=Cb;omega
 refine mem_flatMap.2 ⟨n,mem_range.2 (by omega),mem_map.2 ⟨w,?_,rfl⟩⟩;rw[hR.wr n QM];exact hw
end
theorem Uj{c:UInt8}(hc:ix c=false):∀(x r:List UInt8),(x++c::r).takeWhile ix=x.takeWhile ix
 |[],r=>by rw[nil_append,takeWhile_cons,hc];rfl
 |d::x,r=>by
  rw[cons_append,takeWhile_cons,takeWhile_cons];split
  .rw[Uj hc x r]
  .rfl
structure Brc(c:UInt8):Prop where
 l:ix c=false
 a:c≠62
 b:c≠61
 s:nA c.toNat=true
 w:¬ (c=32\/c=10)
 p:c≠45
 q:c≠33
theorem Tc:Brc 123:=⟨by decide,by decide,by decide,by decide,by decide,by decide,by decide⟩
theorem aaU:Brc 125:=⟨by decide,by decide,by decide,by decide,by decide,by decide,by decide⟩
theorem adT{c:UInt8}(hc:Brc c)(d:UInt8)(x r:List UInt8):aC (d::x++c::r)=aC (d::x):=by
 have h1:aP (d::x++c::r)=aP (d::x):=by unfold aP;rw[Uj hc.l]
 have h2:((d::x++c::r).take 2=[45,62]\/(d::x++c::r).take 2=[33,61])↔((d::x).take 2=[45,62]\/(d::x).take 2=[33,61]):=by
  cases x with
  |nil =>
   simp only[cons_append,nil_append,take_succ_cons,take_zero,take_nil];constructor
   .rintro(h|h) <;> injection h with _ h <;> injection h with h _
    .exact absurd h hc.a
    .exact absurd h hc.b
   .rintro(h|h) <;> injection h with _ h <;> cases h
  |cons y x=>simp
 unfold aC;rw[h1];by_cases hl:0<aP (d::x)
 .rw[if_pos hl,if_pos hl]
 .rw[if_neg hl,if_neg hl];by_cases h3:(d::x).take 2=[45,62]\/(d::x).take 2=[33,61]
  .rw[if_pos h3,if_pos (h2.2 h3)]
  .rw[if_neg h3,if_neg (λh=>h3 (h2.1 h))];rfl
theorem ug{c:UInt8}(hc:Brc c):∀(n:Nat) (x r:List UInt8),x.length<=n->ij (x++c::r)=(ij x).bind (λL=>(ij r).map (L++[c]::·))
 |_,[],r,_=>by
  have:=BD hc.l hc.p hc.q hc.s hc.w r;rw[nil_append,show c::r=[c]++r from rfl,this];rfl
 |0,_::_,_,h=>by simp at h
 |n+1,d::x,r,h=>by
  simp only[length_cons]at h;by_cases hb:d=32\/d=10
  .rw[cons_append,iB _ _ hb,iB _ _ hb];exact ug hc n x r (by omega)
  .have hw:=adT hc d x r;by_cases h0:aC (d::x)=0
   .rw[cons_append]at hw ⊢;rw[mc d x hb h0,mc d (x++c::r) hb (by rw[hw];exact h0)];rfl
   .rw[cons_append]at hw ⊢;have lm:=kO (d::x);rw[iY d x hb h0,iY d (x++c::r) hb (by rw[hw];exact h0),hw];have e1:(d::(x++c::r)).drop (aC (d::x))=(d::x).drop (aC (d::x))++c::r:=by
     rw[<-cons_append,drop_append_of_le_length lm]
    have e2:(d::(x++c::r)).take (aC (d::x))=(d::x).take (aC (d::x)):=by
     rw[<-cons_append,take_append_of_le_length lm]
    rw[e1,e2,ug hc n _ r (by simp only[length_drop,length_cons];omega)];cases ij ((d::x).drop (aC (d::x))) with
    |none=>rfl
    |some L=>cases ij r <;> rfl
theorem mJ:∀(n:Nat) (x:List UInt8) (L:List (List UInt8)),x.length<=n->ij x=some L->∀w∈L,∀c∈w,c∈x
 |_,[],L,_,h,w,hw=>by
  rw[pF]at h;injection h with h;rw[<-h]at hw;simp at hw
 |0,_::_,_,h,_,_,_=>by simp at h
 |n+1,d::x,L,hl,h,w,hw=>by
  simp only[length_cons]at hl;by_cases hb:d=32\/d=10
  .rw[iB _ _ hb]at h;intro c hc;exact mem_cons_of_mem _ (mJ n x L (by omega) h w hw c hc)
  .by_cases h0:aC (d::x)=0
   .rw[mc d x hb h0]at h;cases h
   .rw[iY d x hb h0]at h;obtain⟨L',h1,rfl⟩:=Option.map_eq_some_iff.1 h;intro c hc;rcases mem_cons.1 hw with rfl|hw
    .exact mem_of_mem_take hc
    .exact mem_of_mem_drop (mJ n _ L' (by simp only[length_drop,length_cons];omega) h1 w hw c hc)
theorem DR:∀(n:Nat) (x:List UInt8) (L:List (List UInt8)),x.length<=n->ij x=some L->(∀L' w,L=L'++[w]->∀c∈w,ix c=false)->SgN x L
 |_,[],L,_,h,_,r=>by
  rw[pF]at h;injection h with h;rw[<-h,nil_append];cases ij r <;> rfl
 |0,_::_,_,h,_,_,_=>by simp at h
 |n+1,d::x,L,hl,h,he,r=>by
  simp only[length_cons]at hl;by_cases hb:d=32\/d=10
  .rw[iB _ _ hb]at h;rw[cons_append,iB _ _ hb];exact DR n x L (by omega) h he r
  .by_cases h0:aC (d::x)=0
   .rw[mc d x hb h0]at h;cases h
   .rw[iY d x hb h0]at h;obtain⟨L',h1,rfl⟩:=Option.map_eq_some_iff.1 h;have lm:=kO (d::x);have hw:aC (d::x++r)=aC (d::x):=by
     unfold aC;by_cases ar:0<aP (d::x)
     .have hln:aP (d::x)<(d::x).length:=by
       apply Classical.byContradiction;intro hc;have uO:=lU (d::x);have e:aC (d::x)=(d::x).length:=(by unfold aC;rw[if_pos ar];omega);rw[e,drop_length,pF]at h1;injection h1 with h1;have:=he [] ((d::x).take (aC (d::x))) (by rw[<-h1];rfl) d (by rw[e,take_length];simp);unfold aP at ar;rw[takeWhile_cons,this]at ar;simp at ar
      have e:aP (d::x++r)=aP (d::x):=by
       have key:∀y:List UInt8,(y.takeWhile ix).length<y.length->(y++r).takeWhile ix=y.takeWhile ix:=by
        intro y;induction y with
        |nil=>intro h;simp at h
        |cons a y ih =>
         intro h;rw[cons_append,takeWhile_cons,takeWhile_cons];rw[takeWhile_cons]at h;split
         .rename_i ha;rw[if_pos ha,length_cons,length_cons]at h;rw[ih (by omega)]
         .rfl
       unfold aP;rw[key _ hln]
      rw[e];rw[if_pos ar,if_pos ar]
     .have hd:ix d=false:=by
       cases hd:ix d with
       |false=>rfl
       |true=>exfalso;apply ar;unfold aP;rw[takeWhile_cons,hd];simp
      have e:¬ 0<aP (d::x++r):=(by unfold aP;rw[cons_append,takeWhile_cons,hd];simp);rw[if_neg ar,if_neg e];by_cases h3:(d::x).take 2=[45,62]\/(d::x).take 2=[33,61]
      .have h4:(d::x++r).take 2=(d::x).take 2:=by
        rw[take_append_of_le_length];rcases h3 with h|h <;> (have:=congrArg List.length h;simp at this;simp;omega)
       rw[if_pos h3,if_pos (by rw[h4];exact h3)]
      .have hs:nA d.toNat=true:=by
        cases hs:nA d.toNat with
        |true=>rfl
        |false =>
         exfalso;apply h0;unfold aC;rw[if_neg ar,if_neg h3];show(if nA d.toNat=true then 1 else 0)=0;rw[hs];rfl
       have h5:¬ ((d::x++r).take 2=[45,62]\/(d::x++r).take 2=[33,61]):=by
        rw[cons_append,take_succ_cons];rintro(h|h) <;> injection h with h _ <;> rw[h]at hs <;> revert hs <;> decide
       rw[if_neg h3,if_neg h5];rfl
    rw[cons_append]at hw ⊢;rw[iY d (x++r) hb (by rw[hw];exact h0),hw];have e1:(d::(x++r)).drop (aC (d::x))=(d::x).drop (aC (d::x))++r:=(by rw[<-cons_append,drop_append_of_le_length lm]);have e2:(d::(x++r)).take (aC (d::x))=(d::x).take (aC (d::x)):=(by rw[<-cons_append,take_append_of_le_length lm]);rw[e1,e2,DR n _ L' (by simp only[length_drop,length_cons];omega) h1 (λL2 w e=>he _ w (by rw[e];exact(cons_append ..).symm)) r];cases ij r <;> rfl
theorem wg{α:Type}{z:α}:∀{a b a' b':List α},z ∉ a->z ∉ a'->a++z::b=a'++z::b'->a=a'/\b=b'
 |[],_,[],_,_,_,h=>by injection h with _ h;exact⟨rfl,h⟩
 |[],_,y::a',_,_,h2,h=>by injection h with h _;exact absurd (by rw[h];simp) h2
 |x::a,_,[],_,h1,_,h=>by injection h with h _;exact absurd (by rw[h];simp) h1
 |x::a,_,y::a',_,h1,h2,h=>by
  rw[cons_append,cons_append]at h;injection h with e h;obtain⟨g1,g2⟩:=wg (λhm=>h1 (by simp[hm])) (λhm=>h2 (by simp[hm])) h;exact⟨by rw[e,g1],g2⟩
theorem wX{l:List UInt8}{L:List (List UInt8)}(h:ij l=some L):nY l=L.map bA:=by unfold nY;rw[h];rfl
theorem CD{L:List (List UInt8)}{x:List UInt8}:bA x∈L.map bA↔x∈L:=by
 constructor
 .intro h;obtain⟨y,hy,e⟩:=mem_map.1 h;rw[<-xI e];exact hy
 .exact λh=>mem_map.2 ⟨x,h,rfl⟩
theorem PO{b:List ByteArray}{k:Nat}(h:fR b k):∀b' w,b=b'++[w]->w=l9\/w=dd:=by
 have tl:∀(a r:List ByteArray) (x:ByteArray),(x=l9\/x=dd)->(∀b' w,r=b'++[w]->w=l9\/w=dd)->∀b' w,a++x::r=b'++[w]->w=l9\/w=dd:=by
  intro a r x hx hr b' w e;rcases eq_nil_or_concat r with rfl|⟨r',y,rfl⟩
  .have:=(append_inj' e rfl).2;injection this with this;rw[<-this];exact hx
  .rw[concat_eq_append]at e hr;have e2:(a++x::r')++[y]=b'++[w]:=(by rw[<-e];simp);have:=(append_inj' e2 rfl).2;injection this with this;rw[<-this];exact hr r' y rfl
 induction h using fR.ind with
 |nil=>intro b' w e;simp at e
 |@sim p r k _ _ ih=>exact tl p r l9 (zq0 rfl) ih
 |@whl c b r _ _ _ _ _ _ ihr =>
  rw[show rA::lw::(c++kS::cK::(b++dd::r))=(rA::lw::(c++kS::cK::b))++dd::r by simp];exact tl _ r dd (zq1 rfl) ihr
 |@ife c b r _ _ _ _ _ _ ihr =>
  rw[show mt::lw::(c++kS::cK::(b++dd::r))=(mt::lw::(c++kS::cK::b))++dd::r by simp];exact tl _ r dd (zq1 rfl) ihr
 |@ifl c b d r _ _ _ _ _ _ _ _ _ ihr =>
  rw[show mt::lw::(c++kS::cK::(b++dd::m7::cK::(d++dd::r)))=(mt::lw::(c++kS::cK::(b++dd::m7::cK::d)))++dd::r by simp];exact tl _ r dd (zq1 rfl) ihr
structure ZR(l A B W:List UInt8)(f b:List ByteArray):Prop where
 e:l=A++123::(B++125::W)
 a:123 ∉ A
 w:125 ∉ W
 sA:(ij A).map (·.map bA)=some (dq::f)
 sB:(ij B).map (·.map bA)=some b
theorem AW{α:Type}(p:α->Bool):∀(l:List α),(∃x∈l,p x=true)->∃a z b,l=a++z::b/\p z=true/\∀x∈b,p x=false
 |[],h=>by obtain⟨x,hx,-⟩:=h;simp at hx
 |y::l,h=>by
  by_cases hl:∃x∈l,p x=true
  .obtain⟨a,z,b,h1,h2,h3⟩:=AW p l hl;exact⟨y::a,z,b,by rw[h1];rfl,h2,h3⟩
  .obtain⟨x,hx,hp⟩:=h;rcases mem_cons.1 hx with rfl|hx
   .exact⟨[],x,l,rfl,hp,λz hz=>by
     cases hc:p z with
     |false=>rfl
     |true=>exact absurd ⟨z,hz,hc⟩ hl⟩
   .exact absurd ⟨x,hx,hp⟩ hl
theorem X8{l:List UInt8}(h:lx l=0):∃A B W f b k,ZR l A B W f b/\nC f/\fR b k/\nY l=ay f b:=by
 obtain⟨f,b,k,hf,hb,hw⟩:=X9 h;obtain⟨-,hs,-⟩:=pC h;obtain⟨L,hL⟩:=Option.ne_none_iff_exists'.1 hs;have hLw:L.map bA=ay f b:=by rw[<-wX hL];exact hw
 have hm:([123]:List UInt8)∈L:=by
  rw[<-CD,hLw];unfold ay;simp[show bA [123]=cK from rfl]
 have hc:(123:UInt8)∈l:=mJ _ l L (zq4 _) hL _ hm 123 (by simp);obtain⟨A,R,hA,hl⟩:∃A R,123 ∉ A/\l=A++123::R:=by
  obtain⟨A,R,h1,h2⟩:=mem_iff_append.1 hc |> λ⟨s,t,e⟩=>(⟨s,t,e,trivial⟩:∃A R,l=A++123::R/\True);clear h2;have key:∀l:List UInt8,123∈l->∃A R,123 ∉ A/\l=A++123::R:=by
   intro l;induction l with
   |nil=>intro h;simp at h
   |cons x l ih =>
    intro h;by_cases e:x=123
    .exact⟨[],l,by simp,by rw[e];rfl⟩
    .rcases mem_cons.1 h with h|h
     .exact absurd h.symm e
     .obtain⟨A,R,h1,h2⟩:=ih h;exact⟨x::A,R,by simp[h1,Ne.symm e],by rw[h2];rfl⟩
  exact key l hc
 have Mp:=ug Tc A.length A R (zq4 _);rw[<-hl,hL]at Mp;cases hsA:ij A with
 |none=>rw[hsA]at Mp;cases Mp
 |some LA =>
  rw[hsA]at Mp;cases hsR:ij R with
  |none=>rw[hsR]at Mp;cases Mp
  |some LR =>
   rw[hsR]at Mp;have hLe:L=LA++[123]::LR:=(by injection Mp);have hLA:cK ∉ LA.map bA:=λhh=>by
    have:([123]:List UInt8)∈LA:=CD.1 hh;exact hA (mJ _ A LA (zq4 _) hsA _ this 123 (by simp))
   have kh:cK ∉ dq::f:=λhh=>by
    rcases mem_cons.1 hh with hh|hh
    .exact absurd hh (am (by simp[dq,cK]))
    .exact aa2 hf _ hh rfl
   have hcut:LA.map bA++cK::LR.map bA=(dq::f)++cK::(b++[dd]):=by
    have:=hLw;rw[hLe,map_append,map_cons]at this;exact this
   obtain⟨c1,c2⟩:=wg hLA kh hcut;have qN:([125]:List UInt8)∈LR:=(by rw[<-CD,c2];simp[show bA [125]=dd from rfl]);have uJ:(125:UInt8)∈R:=mJ _ R LR (zq4 _) hsR _ qN 125 (by simp);obtain⟨B,z,W,hR,hz,hW⟩:=AW (λc:UInt8=>c==125) R ⟨125,uJ,by simp⟩;have hz:z=125:=(by simpa using hz);subst hz;have hW:125 ∉ W:=λhh=>by have:=hW _ hh;simp at this
   have AT:=ug aaU B.length B W (zq4 _);rw[<-hR,hsR]at AT;cases hsB:ij B with
   |none=>rw[hsB]at AT;cases AT
   |some LB =>
    rw[hsB]at AT;cases hsW:ij W with
    |none=>rw[hsW]at AT;cases AT
    |some LW =>
     rw[hsW]at AT;have hLR:LR=LB++[125]::LW:=(by injection AT);have hLW:LW=[]:=by
      rcases eq_nil_or_concat LW with h0|⟨L1,y,h0⟩
      .exact h0
      .exfalso;rw[concat_eq_append]at h0;have e:(LB.map bA++dd::L1.map bA)++[bA y]=b++[dd]:=(by rw[<-c2,hLR,h0];simp[show bA [125]=dd from rfl]);have:=(append_inj' e rfl).2;injection this with this;have hy:y=[125]:=xI this;exact hW (mJ _ W LW (zq4 _) hsW y (by rw[h0];simp) 125 (by rw[hy];simp))
     have uI:LB.map bA=b:=by
      have e:LB.map bA++[dd]=b++[dd]:=(by rw[<-c2,hLR,hLW];simp[show bA [125]=dd from rfl]);exact(append_inj' e rfl).1
     refine⟨A,B,W,f,b,k,⟨by rw[hl,hR],hA,hW,?_,?_⟩,hf,hb,hw⟩
     .rw[hsA,Option.map_some,c1]
     .rw[hsB,Option.map_some,uI]
theorem PW{l A B W:List UInt8}{f b:List ByteArray}{k:Nat}(h:ZR l A B W f b)(hf:nC f)(hb:fR b k)(h0:lx l=0)(hl:nY l=ay f b):
  nY (A++123::(B++(B++[125])))=ay f (b++b)/\((A++123::(B++(B++[125]))).length<=240->lx (A++123::(B++(B++[125])))=0):=by
 obtain⟨LA,hA,eA⟩:=Option.map_eq_some_iff.1 h.sA;obtain⟨LB,hB,eB⟩:=Option.map_eq_some_iff.1 h.sB;have hg:SgN B LB:=DR B.length B LB (zq4 _) hB (λL' w e c hc=>by
  have h1:b=L'.map bA++[bA w]:=by rw[<-eB,e];simp
  rcases PO hb _ _ h1 with h2|h2
  .have hw:w=[59]:=xI h2;rw[hw]at hc;rw[mem_singleton.1 hc];decide
  .have hw:w=[125]:=xI h2;rw[hw]at hc;rw[mem_singleton.1 hc];decide)
 have QG:ij [125]=some [[125]]:=by
  have:=BD (c:=125) (by decide) (by decide) (by decide) (by decide) (by decide) [];rw[append_nil]at this;rw[this,pF];rfl
 have Mp:ij (A++123::(B++(B++[125])))=some (LA++[123]::(LB++(LB++[[125]]))):=by
  rw[ug Tc A.length A _ (zq4 _),hA,hg,hg,QG];rfl
 have hw:nY (A++123::(B++(B++[125])))=ay f (b++b):=by
  rw[wX Mp,map_append,map_cons,map_append,map_append,eA,eB];show(dq::f)++cK::(b++(b++[dd]))=_;unfold ay;simp
 refine⟨hw,λlm=>?_⟩;obtain⟨T,-,k9⟩:=Ew hb;have k9:Pg b T:=k9;have uE:Pg (b++b) (T++T.map (jh T.length)):=k9.app k9 (Ev hb);obtain⟨-,-,-,n3⟩:=mG hf k9 (ws:=ay f b) rfl;obtain⟨-,-,-,m3⟩:=mG hf uE (ws:=ay f (b++b)) rfl;obtain⟨v1,u1⟩:=pA n3;obtain⟨v2,u2⟩:=pA m3;obtain⟨e1,e2⟩:=xo (f:=f) hb;have hV:(bL (ay f (b++b)) aJ).vars=(bL (ay f b) aJ).vars:=pp (v2.trans (e1.trans v1.symm));have hH:(bL (ay f (b++b)) aJ).hid=(bL (ay f b) aJ).hid:=pp (u2.trans (e2.trans u1.symm));obtain⟨-,-,-,k4,k5⟩:=pC h0;have hS:r8 l=bL (ay f b) aJ:=by unfold r8;rw[hl]
 have bO:r8 (A++123::(B++(B++[125])))=bL (ay f (b++b)) aJ:=by unfold r8;rw[hw]
 rw[hS]at k4 k5;exact NC (by omega) (by rw[Mp];simp) (by rw[bO];exact m3) (by rw[bO,hV,hH];omega)
structure Uq(w0 w:World)(Y X1 X2:Nat)(s:ByteArray)(ws1 ws2:List ByteArray)(G1 G2:List Nat):Prop where
 dk:ZS w Y X1 s
 p1:rD w X1 ws1 G1
 p2:rD w X2 ws2 G2
 y1:Y ∉ G1
 y2:Y ∉ G2
 dj:∀k∈G1,k ∉ G2
 b1:∀k∈G1,w0.heap.size<=k
 b2:∀k∈G2,w0.heap.size<=k
 bw:Below w0.heap.size w0 w
theorem R3{w w':World}{X base n sz:Nat}{e:TypeId}{v:Value}{xs:List Value}(hr:w.ownsRow base e sz v n xs)(hX:X<base)(st:aq [X] w [X] w'):w'.ownsRow base e sz v n xs :=
 ae hr (λk hk=>st.block k (hr.lt k hk).2 (by have:=(hr.lt k hk).1;simp;omega))
section
variable {w0 w w':World} {Y X1 X2:Nat} {s:ByteArray} {ws1 ws2:List ByteArray} {G1 G2 G':List Nat}
theorem Uq.ask1(h:Uq w0 w Y X1 X2 s ws1 ws2 G1 G2)(a:YN w X1 ws1 G1 G' w'):Uq w0 w' Y X1 X2 s ws1 ws2 G' G2:=by
 have QD:Y<w.heap.size:=Bk.lt h.dk;have hX:=h.p1.mem;refine⟨Bk.stp h.dk a.st (by simp only[mem_singleton];intro e;exact h.y1 (by rw[e];exact hX)),a.pg,h.p2.of_eq (λk hk=>a.st.block k (h.p2.lt k hk) (by simp only[mem_singleton];intro e;exact h.dj X1 hX (by rw[<-e];exact hk))),λhk=>?_,h.y2,λk hk ll=>?_,λk hk=>?_,h.b2,?_⟩
 .rcases a.gr Y hk with hk|hk
  .exact h.y1 hk
  .omega
 .rcases a.gr k hk with hk|hk
  .exact h.dj k hk ll
  .have:=h.p2.lt k ll;omega
 .rcases a.gr k hk with hk|hk
  .exact h.b1 k hk
  .have:=h.bw.size;omega
 .exact h.bw.trans (a.st.below h.bw.size (λk hk=>by rw[mem_singleton.1 hk];exact h.b1 X1 hX))
theorem Uq.ask2(h:Uq w0 w Y X1 X2 s ws1 ws2 G1 G2)(a:YN w X2 ws2 G2 G' w'):Uq w0 w' Y X1 X2 s ws1 ws2 G1 G':=by
 have QD:Y<w.heap.size:=Bk.lt h.dk;have hX:=h.p2.mem;refine⟨Bk.stp h.dk a.st (by simp only[mem_singleton];intro e;exact h.y2 (by rw[e];exact hX)),h.p1.of_eq (λk hk=>a.st.block k (h.p1.lt k hk) (by simp only[mem_singleton];intro e;exact h.dj k hk (by rw[e];exact hX))),a.pg,h.y1,λhk=>?_,λk hk ll=>?_,h.b1,λk hk=>?_,?_⟩
 .rcases a.gr Y hk with hk|hk
  .exact h.y2 hk
  .omega
 .rcases a.gr k ll with ll|ll
  .exact h.dj k hk ll
  .have:=h.p1.lt k hk;omega
 .rcases a.gr k hk with hk|hk
  .exact h.b2 k hk
  .have:=h.bw.size;omega
 .exact h.bw.trans (a.st.below h.bw.size (λk hk=>by rw[mem_singleton.1 hk];exact h.b2 X2 hX))
end
theorem Vo(a b x y:Int)(w:World):(Op.equalIn 10000 82 (.agg #[.int .i64 a,.int .i64 b]) (.agg #[.int .i64 x,.int .i64 y])).run prog w=.ok (a==x&&b==y) w:=by
 have u3:=underlying3;have a3:=Tryz.isAgg3;have z3:=sizeOf3;have hS:prog.underlying 82=some (.struct (prog.fieldsOf 82)):=by kernel_rfl
 have hp:prog.stoodInHeld 82=false:=by kernel_rfl
 rw[show(10000:Nat)=9999+1 from rfl,run_equalIn_agg w 9999 82 _ _ hS hp];simp only[Program.fieldsOf,underlying82];go_simp
 by_cases h1:a=x <;> by_cases h2:b=y <;> simp[h1,h2]
theorem agv(a b x y:Int)(w:World):(binOp .eql 82 (.agg #[.int .i64 a,.int .i64 b]) (.agg #[.int .i64 x,.int .i64 y])).run prog w=.ok (.bool (a==x&&b==y)) w:=by
 rw[run_eql_struct,Vo];rfl
theorem VL:prog.eqGuardType prog.depth 82=false:=by kernel_rfl
theorem aaW{s:ByteArray}{A R:List UInt8}{c:UInt8}(hs:s.data.toList=A++c::R):A.length<s.size/\(∀k,(h:k<A.length)->(h':k<s.size)->s[k]=A[k])/\∀h':A.length<s.size,s[A.length]=c:=by
 have hl:s.data.toList.length=s.size:=bP s;have h1:A.length<s.size:=by rw[<-hl,hs];simp
 have hg:∀k,(h':k<s.size)->s.data.toList[k]?=some s[k]:=λk h'=>by
  have:k<s.data.toList.length:=by rw[hl];exact h'
  rw[getElem?_eq_getElem this];rfl
 refine⟨h1,λk h h'=>?_,λh'=>?_⟩
 .have:=hg k h';rw[hs,getElem?_append_left h,getElem?_eq_getElem h]at this;injection this with this;exact this.symm
 .have:=hg A.length h';rw[hs,getElem?_append_right (zq4 _)]at this;simp at this;exact this.symm
theorem Uk{a b:UInt8}(h:a≠b):((a.toNat:Int) != (b.toNat:Int))=true:=by
 rw[bne_iff_ne];intro e;exact h (UInt8.toNat_inj.1 (by omega))
theorem GT{s:ByteArray}{A R:List UInt8}(w:World)(hs:s.data.toList=A++123::R)(hA:123 ∉ A)(hz:s.size<=1000000):
  Calls prog 44 #[.string s] w λe w'=>e=.returned (.int .i64 ((A.length:Int)+1))/\w'=w:=by
 obtain⟨h1,h2,h3⟩:=aaW hs;have H2:Hid (∀k,(h:k<A.length)->(h':k<s.size)->((s[k].toNat:Int) != 123)=true):=ab (λk h h'=>by
  rw[h2 k h h'];exact Uk (b:=123) (λe=>hA (by rw[<-e];exact getElem_mem h)))
 have H3:Hid (∀h':A.length<s.size,((s[A.length].toNat:Int) != 123)=false):=ab (λh'=>by rw[h3 h'];rfl);obtain⟨a,ha⟩:∃a,a=A.length:=⟨_,rfl⟩;rw[<-ha]at h1 H2 ⊢;have H3:Hid (∀h':a<s.size,((s[a].toNat:Int) != 123)=false):=by subst ha;exact H3
 clear h2 h3 hs hA ha;go_enter func44,ntmps44;go_wp2_with fail
 go_loopg [3] a (λgn iv wx=>∃(k:Nat),k+gn=a/\iv=.int .i64 k/\wx=w)
 case atStart=>exact⟨0,by omega,rfl,rfl⟩
 case round =>
  obtain⟨k,f7,rfl,rfl⟩:=hrel;obtain⟨G1,uF⟩:∃G1,G1=gk:=⟨_,rfl⟩;by_cases ar:k<a
  .have hk:k<s.size:=(by omega);have hd:decide ((k:Int)<(s.size:Int))=true:=(by simp;omega);have aY:=uh H2 k ar hk;go_wp2_with fail
   go_roundg (G1-1)
   case rel=>exact⟨k+1,by omega,by go_num,rfl⟩
   case measure=>omega
  .have hka:k=a:=(by omega);subst hka;have hd:decide ((k:Int)<(s.size:Int))=true:=(by simp;omega);have aY:=uh H3 h1;go_wp2_with fail
   go_ret;exact⟨rfl,rfl⟩
def Sg(c:UInt8):Bool:=gZ c.toNat
def shU(k:Nat)(c:UInt8):UInt8:=UInt8.ofNat (97+(c.toNat-97+k)%26)
theorem Si{c:UInt8}:Sg c=true↔97<=c.toNat/\c.toNat<=122:=by
 unfold Sg gZ;rw[Bool.and_eq_true,decide_eq_true_eq,decide_eq_true_eq];omega
theorem R7(k:Nat)(c:UInt8):(shU k c).toNat=97+(c.toNat-97+k)%26:=by
 unfold shU;have:(c.toNat-97+k)%26<26:=Nat.mod_lt _ (by omega);rw[UInt8.toNat_ofNat'];exact Nat.mod_eq_of_lt (by omega)
theorem Yj(k:Nat)(c:UInt8):Sg (shU k c)=true:=by
 rw[Si,R7];have:(c.toNat-97+k)%26<26:=Nat.mod_lt _ (by omega);omega
def rnL(k:Nat)(f:Bool)(x:List UInt8):List UInt8 :=
 match x with
 |[c]=>if Sg c&&!f then [shU k c] else [c]
 |x=>x
def ZQ(k:Nat):Bool->List (List UInt8)->List (List UInt8)
 |_,[]=>[]
 |f,x::r=>rnL k f x::ZQ k (decide (x=[46])) r
def rnB(k:Nat)(ws:List ByteArray):List ByteArray:=(ZQ k false (ws.map (·.data.toList))).map (λx=>⟨x.toArray⟩)
def Yd(k:Nat)(s:PS):PS:={ s with vars:=s.vars.map (shU k) }
theorem Gl(k:Nat):∀(L:List (List UInt8)) (f:Bool) (i:Nat),(ZQ k f L)[i]?=(L[i]?).map (rnL k (if i=0 then f else decide (L[i-1]?=some [46])))
 |[],f,i=>by simp[ZQ]
 |x::r,f,0=>by simp[ZQ]
 |x::r,f,i+1=>by
  simp only[ZQ,getElem?_cons_succ];rw[Gl k r];cases i with
  |zero=>simp
  |succ i=>simp
def ptB(ws:List ByteArray)(s:PS):Bool:=if s.pos=0 then false else decide ((ws.map (·.data.toList))[s.pos-1]?=some [46])
theorem adH(k:Nat)(ws:List ByteArray)(s:PS):(pk (rnB k ws) (Yd k s)).data.toList=rnL k (ptB ws s) (pk ws s).data.toList:=by
 unfold pk;rw[show(Yd k s).failed=s.failed from rfl,show(Yd k s).pos=s.pos from rfl];split
 .rfl
 .unfold rnB;rw[getElem?_map,Gl];unfold ptB;rw[show(List.map (λx:ByteArray=>x.data.toList) ws)[s.pos]?=(ws[s.pos]?).map (λx:ByteArray=>x.data.toList) from getElem?_map ..];cases hw:ws[s.pos]? with
  |none=>rfl
  |some x=>rfl
theorem R0{k:Nat}{f:Bool}{x key:List UInt8}(hk:∀c,key=[c]->Sg c=false):rnL k f x=key↔x=key:=by
 unfold rnL;split
 .rename_i c;split
  .rename_i h;have hc:Sg c=true:=(by rw[Bool.and_eq_true]at h;exact h.1);constructor
   .intro e;have:=hk _ e.symm;rw[Yj]at this;cases this
   .intro e;have:=hk _ e.symm;rw[hc]at this;cases this
  .exact Iff.rfl
 .exact Iff.rfl
def Key(w:ByteArray):Prop:=(∀c,w.data.toList=[c]->Sg c=false)/\w.data.toList≠[46]
section
variable {k:Nat} {ws:List ByteArray} {s:PS}
theorem Ei{key:ByteArray}:bH ws key s=true↔(pk ws s).data.toList=key.data.toList:=by
 unfold bH;rw[beq_iff_eq,ByteArray.toList_eq,ByteArray.toList_eq]
theorem U4{key:ByteArray}(hk:∀c,key.data.toList=[c]->Sg c=false):bH (rnB k ws) key (Yd k s)=bH ws key s:=by
 rw[Bool.eq_iff_iff,Ei,Ei,adH,R0 hk]
structure RnI(ws:List ByteArray)(s:PS):Prop where
 nd:s.failed=true\/ptB ws s=false
 sv:∀c∈s.vars,Sg c=true
def Xl(w:ByteArray):Bool:=(match w.data.toList with|[c]=>!Sg c|_=>true)&&!(w.data.toList==[46])&&!(w.data.toList==[])
theorem Xm{w:ByteArray}(h:Xl w=true):Key w/\w.data.toList≠[]:=by
 unfold Xl at h;rw[Bool.and_eq_true,Bool.and_eq_true]at h;obtain⟨⟨h1,h2⟩,h3⟩:=h;refine⟨⟨λc hc=>?_,λe=>?_⟩,λe=>?_⟩
 .rw[hc]at h1;simpa using h1
 .rw[e]at h2;exact absurd h2 (by decide)
 .rw[e]at h3;exact absurd h3 (by decide)
theorem ke{key:ByteArray}(hk:Xl key=true):bH (rnB k ws) key (Yd k s)=bH ws key s:=U4 (Xm hk).1.1
def Sb(k:Nat)(ws:List ByteArray)(b' b:PS->PS):Prop:=∀s,RnI ws s->b' (Yd k s)=Yd k (b s)/\RnI ws (b s)
variable {b' b:PS->PS}
end
structure S9(w0 w:World)(Y X:Nat)(s:ByteArray)(ws:List ByteArray)(G:List Nat):Prop where
 dk:ZS w Y X s
 p:rD w X ws G
 y:Y ∉ G
 b:∀k∈G,w0.heap.size<=k
 bw:Below w0.heap.size w0 w
section
variable {w0 w w':World} {Y X:Nat} {s:ByteArray} {ws:List ByteArray} {G G':List Nat}
theorem S9.below(h:S9 w0 w Y X s ws G)(hb:Below w.heap.size w w'):S9 w0 w' Y X s ws G :=
 ⟨Bk.below h.dk hb,h.p.below hb,h.y,h.b,h.bw.trans (hb.mono h.bw.size)⟩
theorem S9.ask(h:S9 w0 w Y X s ws G)(a:YN w X ws G G' w'):S9 w0 w' Y X s ws G':=by
 have QD:Y<w.heap.size:=Bk.lt h.dk;have hX:=h.p.mem;refine⟨Bk.stp h.dk a.st (by simp only[mem_singleton];intro e;exact h.y (by rw[e];exact hX)),a.pg,λhk=>?_,λk hk=>?_,?_⟩
 .rcases a.gr Y hk with hk|hk
  .exact h.y hk
  .omega
 .rcases a.gr k hk with hk|hk
  .exact h.b k hk
  .have:=h.bw.size;omega
 .exact h.bw.trans (a.st.below h.bw.size (λk hk=>by rw[mem_singleton.1 hk];exact h.b X hX))
end
