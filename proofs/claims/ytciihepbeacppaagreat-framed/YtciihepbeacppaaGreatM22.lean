import Derived.Test.YtciihepbeacppaaGreatM21
set_option maxRecDepth 100000
set_option maxHeartbeats 0
namespace Go.Proofs.YtciihepbeacppaaGreat
open Tryz Go.RowKit List World Below
set_option linter.unusedVariables false
theorem Tu{c:Cd}{r:List CF × Sr}{g:CF}(h:(oX c r g).2.ok=true)(hl:r.1.length<=ik+1):(oX c r g).1.length<=ik+1:=by
 have h2:=(mT h).2;unfold oX;split
 .rename_i hn;have:=h2 hn;simp only[length_append,length_cons,length_nil];omega
 .exact hl
theorem vf{β:Type}(g:List CF × Sr->β->List CF × Sr)(hm:∀r b,(g r b).2.ok=true->r.2.ok=true)(hg:∀r b,(g r b).2.ok=true->r.1.length<=ik+1->(g r b).1.length<=ik+1):∀(l:List β) {r:List CF × Sr},(l.foldl g r).2.ok=true->r.1.length<=ik+1->(l.foldl g r).1.length<=ik+1
 |[],_,_,hl=>hl
 |b::l,r,h,hl=>vf g hm hg l h (hg r b (fV g hm l h) hl)
theorem yF{c:Cd}{f:CF}(r:List CF × Sr)(i:Nat)(h:(gG c f r i).2.ok=true):r.2.ok=true:=fV (qu c f i) (λr b h=>vb r b h) _ h
theorem Tv{c:Cd}{f:CF}{i:Nat}(r:List CF × Sr)(a:Nat)(h:(qu c f i r a).2.ok=true)(hl:r.1.length<=ik+1):(qu c f i r a).1.length<=ik+1:=by
 unfold qu at h ⊢;split
 .rename_i hn;rw[if_pos hn]at h;exact vf (oX c) (λr b h=>(mT h).1) (λr b h=>Tu h) _ h hl
 .exact hl
theorem N0{c:Cd}{f:CF}(r:List CF × Sr)(i:Nat)(h:(gG c f r i).2.ok=true)(hl:r.1.length<=ik+1):(gG c f r i).1.length<=ik+1 :=
 vf (qu c f i) (λr b h=>vb r b h) (λr b h=>Tv r b h) _ h hl
theorem NV{c:Cd}{g:CF}{r:List CF × Sr}{res:List CF}(h:(xR c g r res).2.2.ok=true):r.2.ok=true:=by
 unfold xR at h;split at h
 .exact h
 .exact fV (gG c g) (λr b h=>yF r b h) _ h
theorem uZ{c:Cd}:∀(n k:Nat) (res:List CF) (r:List CF × Sr),(jC c n k res r).2.ok=true->r.2.ok=true
 |0,_,_,_,h=>by simp[jC]at h
 |n+1,k,res,r,h=>by
  unfold jC at h;split at h
  .exact NV (uZ n _ _ _ h)
  .exact h
theorem au.wider{F F' G G':List Nat}{a b:World}(h:au F a F' b)(h1:∀k∈F,k∈G)(h2:∀k∈G',k∈F'\/k∈G\/a.heap.size<=k):au G a G' b :=
 ⟨h.os,h.tape,h.output,h.size,λk hk hn=>h.block k hk (λe=>hn (h1 k e)),λk hk=>by
  rcases h2 k hk with p|p|p
  .rcases h.foot k p with q|q
   .exact zq0 (h1 k q)
   .exact zq1 q
  .exact zq0 p
  .exact zq1 p⟩
structure Fg(w W:World)(B:Nat)(F0:List Nat)(S:Nat)(cs:List Value)(k:Nat)(vC:Value)(LC:List FE)(vR:Value)(LR:List FE):Prop where
 c:Fl W B vC LC
 r:Fl W B vR LR
 bs:Bk W S 229 cs
 sh:∀x∈LR,x∈LC.take k\/∀q∈x.bs,q ∉ bn vC LC
 rv:∀q∈vR.ownBlock.toList,q ∉ bn vC LC
 cv:∀q∈vC.ownBlock.toList,q ∉ bn vR LR
 sc:S ∉ bn vC LC
 sr:S ∉ bn vR LR
 st:au F0 w (S::(bn vC LC++bn vR LR)) W
 bb:B<=W.heap.size
theorem E8{v:Value}{L:List FE}(h:(bn v L).Nodup):(∀q∈v.ownBlock.toList,∀x∈L,q ∉ x.bs)/\∀{k:Nat} (hk:k<L.length),∀x∈L.take k,∀q∈x.bs,q ∉ L[k].bs:=by
 unfold bn at h;rw[nodup_append]at h;refine⟨λq hq x hx hn=>h.2.2 q hq q (mem_flatMap.2 ⟨x,hx,hn⟩) rfl,fun {k} hk x hx q hq hn=>?_⟩;have h2:=h.2.1;rw[<-take_append_drop k L,flatMap_append,nodup_append]at h2;exact h2.2.2 q (mem_flatMap.2 ⟨x,hx,hq⟩) q (mem_flatMap.2 ⟨L[k],by rw[drop_eq_getElem_cons hk];exact mem_cons_self,hn⟩) rfl
section
variable {w W W':World} {B S k:Nat} {F0:List Nat} {cs cs':List Value} {vC vR:Value} {LC LR:List FE}
theorem Fg.below(h:Fg w W B F0 S cs k vC LC vR LR)(hb:Below W.heap.size W W'):Fg w W' B F0 S cs k vC LC vR LR :=
 ⟨h.c.below hb,h.r.below hb,h.bs.below hb,h.sh,h.rv,h.cv,h.sc,h.sr,h.st.trans (au.ofBw hb),zq3 h.bb hb.size⟩
theorem Fg.app {g1 c1 k':Nat} {o:Obj} {x:FE} {W1:World} (h:Fg w W B F0 S cs k vC LC vR LR) (hk:k<=k') (hx:Fm W x.A x.f x.av x.ov) (hB:∀q∈x.bs,B<=q) (hd:∀q∈x.bs,q ∉ bn vR LR/\q≠S/\q ∉ vC.ownBlock.toList) (hs:x∈LC.take k'\/∀q∈x.bs,q ∉ bn vC LC) (h0:∀q∈x.bs,q∈bn vC LC\/w.heap.size<=q)
  (aP:W1.ownsRow B 126 1 (.slice (some ⟨g1,0,none⟩) (LR.length+1) c1) (LR.length+1) (LR.map FE.p++[x.p])) (hg:(W.alloc o).grownBy W1 vR.ownBlock) (cj:some g1=vR.ownBlock\/g1=(W.alloc o).heap.size) :
  Fg w W1 B F0 S cs k' vC LC (.slice (some ⟨g1,0,none⟩) (LR.length+1) c1) (LR++[x]):=by
 obtain⟨a1,a2,a3⟩:=h.r.app hx hB (λq hq=>(hd q hq).1) h.bb aP hg cj;have hv:∀q∈vR.ownBlock.toList,q∈bn vR LR:=λq hq=>mem_append_left _ hq;have Mf:∀q∈[g1],q ∉ bn vC LC:=λq hq hn=>by
  rcases a2.foot q hq with p|p
  .exact h.rv q p hn
  .have:=h.c.lt q hn;omega
 refine⟨h.c.stp a2 (λq hq hn=>h.rv q hn hq),a1,h.bs.stp a2 (λhn=>h.sr (hv S hn)),λy hy=>?_,λq hq=>Mf q (by simpa[Value.ownBlock,eq_comm] using hq),λq hq hn=>?_,h.sc,λhn=>?_,?_,zq3 h.bb a2.size⟩
 .rcases mem_append.1 hy with p|p
  .rcases h.sh y p with q|q
   .exact zq0 (take_subset_take_left LC hk q)
   .exact zq1 q
  .rw[mem_singleton]at p;subst p;exact hs
 .rcases a3 q hn with p|p|p
  .exact h.cv q hq p
  .exact(hd q p).2.2 hq
  .have:=h.c.lt q (mem_append_left _ hq);omega
 .rcases a3 S hn with p|p|p
  .exact h.sr p
  .exact(hd S p).2.1 rfl
  .have:=h.bs.lt;omega
 .have h2:=h.st;refine⟨a2.os.trans h2.os,a2.tape.trans h2.tape,a2.output.trans h2.output,zq3 h2.size a2.size,λq hq hn=>?_,λq hq=>?_⟩
  .rw[a2.block q (zq6 hq h2.size) (λhm=>?_)]
   .exact h2.block q hq hn
   .rcases h2.foot q (mem_cons_of_mem _ (mem_append_right _ (hv q hm))) with p|p
    .exact hn p
    .omega
  .rcases mem_cons.1 hq with rfl|hq
   .exact h2.foot q (by simp)
   .rcases mem_append.1 hq with hq|hq
    .exact h2.foot q (mem_cons_of_mem _ (mem_append_left _ hq))
    .rcases a3 q hq with p|p|p
     .exact h2.foot q (mem_cons_of_mem _ (mem_append_right _ p))
     .rcases h0 q p with p|p
      .exact h2.foot q (mem_cons_of_mem _ (mem_append_left _ p))
      .exact zq1 p
     .exact zq1 (zq3 h2.size p)
theorem Fg.more{v':Value}{L':List FE}(h:Fg w W B F0 S cs k vC LC vR LR)(hk:k<=LC.length)(hc:Fl W' B v' (LC++L'))(hb:Bk W' S 229 cs')(hS:S ∉ bn v' (LC++L'))(hs:au (S::bn vC LC) W (S::bn v' (LC++L')) W'):Fg w W' B F0 S cs' k v' (LC++L') vR LR:=by
 have FF:∀q,q<W.heap.size->q≠S->q ∉ bn vC LC->q ∉ bn v' (LC++L'):=λq hq h1 h2 hn=>by
  rcases hs.foot q (mem_cons_of_mem _ hn) with p|p
  .rcases mem_cons.1 p with p|p
   .exact h1 p
   .exact h2 p
  .omega
 have pf:∀q∈bn vR LR,q<W.heap.size/\q≠S:=λq hq=>⟨h.r.lt q hq,λe=>h.sr (by rw[<-e];exact hq)⟩;have Mf:∀q∈vR.ownBlock.toList,q ∉ bn v' (LC++L'):=λq hq=>FF q (pf q (mem_append_left _ hq)).1 (pf q (mem_append_left _ hq)).2 (h.rv q hq);have iX:∀x∈LR,(∀q∈x.bs,q ∉ bn vC LC)->∀q∈x.bs,q ∉ bn v' (LC++L'):=λx hx hf q hq=>by
  have hm:q∈bn vR LR:=mem_append_right _ (mem_flatMap.2 ⟨x,hx,hq⟩);exact FF q (pf q hm).1 (pf q hm).2 (hf q hq)
 refine⟨hc,⟨ae h.r.row (λq hq=>?_),λx hx=>?_,h.r.ge,h.r.nd⟩,hb,λx hx=>?_,Mf,λq hq hn=>?_,hS,h.sr,?_,zq3 h.bb hs.size⟩
 .have hq':q∈vR.ownBlock.toList:=by simpa using hq
  refine hs.block q (pf q (mem_append_left _ hq')).1 (λhn=>?_);rcases mem_cons.1 hn with p|p
  .exact(pf q (mem_append_left _ hq')).2 p
  .exact h.rv q hq' p
 .rcases h.sh x hx with p|p
  .exact hc.fm x (mem_append_left _ (mem_of_mem_take p))
  .refine(h.r.fm x hx).of_eq (λq hq=>?_);have hm:q∈bn vR LR:=mem_append_right _ (mem_flatMap.2 ⟨x,hx,hq⟩);refine hs.block q (pf q hm).1 (λhn=>?_);rcases mem_cons.1 hn with e|e
   .exact(pf q hm).2 e
   .exact p q hq e
 .rcases h.sh x hx with p|p
  .exact zq0 (by rw[take_append_of_le_length hk];exact p)
  .exact zq1 (iX x hx p)
 .rcases mem_append.1 hn with p|p
  .exact Mf q p (mem_append_left _ hq)
  .obtain⟨x,hx,p⟩:=mem_flatMap.1 p;rcases h.sh x hx with r|r
   .exact(E8 hc.nd).1 q hq x (mem_append_left _ (mem_of_mem_take r)) p
   .exact iX x hx r q p (mem_append_left _ hq)
 .refine h.st.trans (hs.wider (λq hq=>?_) (λq hq=>?_))
  .rcases mem_cons.1 hq with p|p
   .rw[p];simp
   .exact mem_cons_of_mem _ (mem_append_left _ p)
  .rcases mem_cons.1 hq with p|p
   .rw[p];simp
   .rcases mem_append.1 p with p|p
    .exact zq0 (mem_cons_of_mem _ p)
    .exact zq1 (zq0 (mem_cons_of_mem _ (mem_append_right _ p)))
theorem Fg.apart(h:Fg w W B F0 S cs k vC LC vR LR)(hk:k<LC.length):∀q∈LC[k].bs,q ∉ bn vR LR/\q≠S/\q ∉ vC.ownBlock.toList:=by
 intro q hq;have hm:q∈bn vC LC:=mem_append_right _ (mem_flatMap.2 ⟨LC[k],getElem_mem hk,hq⟩);refine⟨λhn=>?_,λe=>h.sc (by rw[<-e];exact hm),λhn=>(E8 h.c.nd).1 q hn _ (getElem_mem hk) hq⟩;rcases mem_append.1 hn with p|p
 .exact h.rv q p hm
 .obtain⟨x,hx,p⟩:=mem_flatMap.1 p;rcases h.sh x hx with r|r
  .exact(E8 h.c.nd).2 hk x r q p hq
  .exact r q p hm
end
theorem KY{W:World}{B:Nat}{v:Value}{l:List Nat}(h:W.ownsRow B 3 1 v l.length (se l)){i:Nat}(hi:i<l.length):∃g cap,v=.slice (some ⟨g,0,none⟩) l.length cap/\W.cell? ⟨g,i,none⟩=some (.int .i64 (l[i]:Nat)):=by
 obtain⟨g,cap,hv,-,-,-⟩:=cR h (by omega);subst hv;refine⟨g,cap,rfl,?_⟩;have:=h.cellAt i (by omega);rw[this];simp[se,hi]
theorem Y9{c:Cd}{n k:Nat}{res:List CF}{l:List CF}{s:Sr}(hk:k<l.length)(hf:s.fu=false):jC c (n+1) k res (l,s)=jC c n (k+1) (xR c l[k] (l,s) res).1 (xR c l[k] (l,s) res).2:=by
 have e:l.getD k ⟨[],[],[]⟩=l[k]:=by simp[List.getD,hk]
 show(if k<l.length/\s.fu=false then _ else _)=_;rw[if_pos ⟨hk,hf⟩];show jC c n (k+1) (xR c (l.getD k ⟨[],[],[]⟩) (l,s) res).1 (xR c (l.getD k ⟨[],[],[]⟩) (l,s) res).2=_;rw[e]
theorem Ho{c:Cd}{n k:Nat}{res:List CF}{l:List CF}{s:Sr}(h:¬ (k<l.length/\s.fu=false)):jC c (n+1) k res (l,s)=(res,s):=by
 show(if k<l.length/\s.fu=false then _ else _)=_;rw[if_neg h]
theorem Hp{w W:World}{B S k:Nat}{F0:List Nat}{c0 hv kv wv vC vR:Value}{lp:Bool}{lo:Int}{c:Cd}{s:Sr}{LC LR:List FE}{R:List CF × Sr}(h:Fg w W B F0 S (qi c0 hv lp kv wv c.bd s.lf lo s.fu) k vC LC vR LR)(hT:∀y∈LR,Td y.f)(hR:(LR.map (·.f),s)=R):
  ∃v' L',Ending.returned vR=.returned v'/\Fl W B v' L'/\(∀y∈L',Td y.f)/\L'.map (·.f)=R.1/\Bk W S 229 (qi c0 hv lp kv wv c.bd R.2.lf lo R.2.fu)/\S ∉ bn v' L'/\au F0 w (S::bn v' L') W:=by
 subst hR;refine⟨vR,LR,rfl,h.r,hT,rfl,h.bs,h.sr,⟨h.st.os,h.st.tape,h.st.output,h.st.size,h.st.block,λq hq=>h.st.foot q ?_⟩⟩;rcases mem_cons.1 hq with p|p
 .rw[p];simp
 .exact mem_cons_of_mem _ (mem_append_right _ p)
section
variable {w:World} {B S:Nat} {c0 hv kv wv:Value} {lp:Bool} {lo:Int} {x:FE} {c:Cd} {s:Sr}
theorem Cy(hS:Bk w S 229 (qi c0 hv lp kv wv c.bd s.lf lo s.fu))(hx:Fm w x.A x.f x.av x.ov)(hT:Td x.f)(cN:∀q∈x.bs,B<=q)(hSx:S ∉ x.bs)(hB:B<=w.heap.size)(n:Nat)(bD:(jC c n 0 [] ([x.f],s)).2.ok=true):
  Calls prog 202 #[.pointer (some ⟨S,0,none⟩),.pointer (some ⟨x.A,0,none⟩)] w λe w'=>∃v' L',e=.returned v'/\Fl w' B v' L'/\(∀y∈L',Td y.f)/\L'.map (·.f)=(jC c n 0 [] ([x.f],s)).1/\Bk w' S 229 (qi c0 hv lp kv wv c.bd (jC c n 0 [] ([x.f],s)).2.lf lo (jC c n 0 [] ([x.f],s)).2.fu)/\S ∉ bn v' L'/\au (S::x.bs) w (S::bn v' L') w':=by
 obtain⟨i0,k9,gX,fK,f9⟩:=info_parts infoPF;obtain⟨R,hR⟩:∃R,R=jC c n 0 [] ([x.f],s):=⟨_,rfl⟩;rw[<-hR]at bD ⊢;obtain⟨W2,jt⟩:∃W2,W2=(w.alloc (.cells #[] 126)).alloc (.cells #[Value.pointer (some ⟨x.A,0,none⟩)] 126):=⟨_,rfl⟩;have hFg:Fg w W2 B (S::x.bs) S (qi c0 hv lp kv wv c.bd s.lf lo s.fu) 0 (.slice (some ⟨w.heap.size+1,0,none⟩) 1 1) [x] (.slice (some ⟨w.heap.size,0,none⟩) 0 0) []:=by
  have bH:=ah w (.cells #[] 126);have aU:=ah (w.alloc (.cells #[] 126)) (.cells #[Value.pointer (some ⟨x.A,0,none⟩)] 126);have hb:Below w.heap.size w W2:=by rw[jt];exact bH.trans (aU.mono bH.size)
  have tD:=hx.lt;have KR:=hS.lt;have hfc:∀q,q∈bn (.slice (some ⟨w.heap.size+1,0,none⟩) 1 1) [x]↔q=w.heap.size+1\/q∈x.bs:=λq=>by simp[bn,Value.ownBlock]
  have iX:∀q,q∈bn (.slice (some ⟨w.heap.size,0,none⟩) 0 0) []↔q=w.heap.size:=λq=>by simp[bn,Value.ownBlock]
  have XA:∀q∈x.bs,q<w.heap.size:=λq hq=>hx.lt q hq;refine⟨⟨?_,λy hy=>?_,λy hy=>?_,?_⟩,⟨?_,λy hy=>by simp at hy,λy hy=>by simp at hy,by simp[bn,Value.ownBlock]⟩,hS.below hb,λy hy=>by simp at hy,λq hq hn=>?_,λq hq hn=>?_,λhn=>?_,λhn=>?_,?_,zq3 hB hb.size⟩
  .rw[jt];have:=ownsRow_lit (base:=B) (e:=126) (size:=1) (w.alloc (.cells #[] 126)) #[Value.pointer (some ⟨x.A,0,none⟩)] 1 (by simp;omega) (by simp[maxLen]) rfl;simpa[FE.p] using this
  .rw[mem_singleton]at hy;subst hy;exact hx.below hb
  .rw[mem_singleton]at hy;subst hy;exact cN
  .show([w.heap.size+1]++[x].flatMap FE.bs).Nodup;rw[nodup_append];refine⟨by simp,by simpa[FE.bs] using hx.nd,λa ha b hb e=>?_⟩;rw[mem_singleton]at ha;have:=XA b (by simpa using hb);omega
  .rw[jt];exact ej ((ownsRow_lit (base:=w.heap.size) (e:=126) (size:=1) w #[] 0 (zq4 _) (by simp[maxLen]) rfl).alloc _) hB
  .have e:q=w.heap.size:=(by simpa[Value.ownBlock,eq_comm] using hq);rcases(hfc q).1 hn with p|p
   .omega
   .have:=XA q p;omega
  .have e:q=w.heap.size+1:=(by simpa[Value.ownBlock,eq_comm] using hq);have:=(iX q).1 hn;omega
  .rcases(hfc S).1 hn with p|p
   .omega
   .exact hSx p
  .have:=(iX S).1 hn;omega
  .refine⟨hb.os,hb.tape,hb.output,hb.size,λq hq hn=>hb.block q hq,λq hq=>?_⟩;rcases mem_cons.1 hq with rfl|hq
   .exact zq0 (by simp)
   .rcases mem_append.1 hq with p|p
    .rcases(hfc q).1 p with p|p
     .exact zq1 (by omega)
     .exact zq0 (mem_cons_of_mem _ p)
    .exact zq1 (by have:=(iX q).1 p;omega)
 have kO:=ab bD;have hX1:w.heap.size+1=w.heap.size+1:=rfl;obtain⟨X,hX⟩:∃X,X=w.heap.size+1:=⟨_,rfl⟩;have cG:Hid (Fg w W2 B (S::x.bs) S (qi c0 hv lp kv wv c.bd s.lf lo s.fu) 0 (.slice (some ⟨X,0,none⟩) 1 1) [x] (.slice (some ⟨w.heap.size,0,none⟩) 0 0) []/\(∀y∈[x],Td y.f)/\(∀y∈([]:List FE),Td y.f)/\jC c n 0 (([]:List FE).map (·.f)) ([x].map (·.f),s)=R/\[x].length<=ik+1/\0<=[x].length/\([]:List FE).length=0):=ab ⟨by rw[hX];exact hFg,λy hy=>by rw[mem_singleton]at hy;subst hy;exact hT,λy hy=>by simp at hy,hR.symm,by simp[ik],by simp,rfl⟩;obtain⟨F0,Kl⟩:∃F0,F0=S::x.bs:=⟨_,rfl⟩;rw[<-Kl]at cG ⊢;clear hFg hS hx hT cN hSx bD hR hX1 Kl;obtain⟨xa,xf,xav,xov⟩:=x;simp only at jt;go_enter func202,ntmps202;go_upto_region 3 with fail;rw[show w.heap.size+1=X from hX.symm,<-jt];clear jt hX;go_wp2_with fail
 go_loopg [5,6,7] n (λgn rv cv iv wx=>∃(k:Nat) (LC LR:List FE) (s':Sr),iv=.int .i64 k/\Hid (Fg w wx B F0 S (qi c0 hv lp kv wv c.bd s'.lf lo s'.fu) k cv LC rv LR/\(∀y∈LC,Td y.f)/\(∀y∈LR,Td y.f)/\jC c gn k (LR.map (·.f)) (LC.map (·.f),s')=R/\LC.length<=ik+1/\k<=LC.length/\LR.length=k))
 case atStart=>exact⟨0,_,_,s,rfl,cG⟩
 case round =>
  clear cG;obtain⟨k,LC,LR,s',rfl,hI⟩:=hrel;obtain⟨G,hG⟩:∃G,G=gk:=⟨_,rfl⟩;obtain⟨la,lc,ic,-,-⟩:=aj (uh hI).1.c.row;subst ic;obtain⟨ra,rc,Mf,-,-⟩:=aj (uh hI).1.r.row;subst Mf;obtain⟨m,hm⟩:∃m,gk=m+1:=by
   cases hz:gk with
   |zero =>
    have h1:=(uh hI).2.2.2.1;have h2:=uh kO;rw[hz]at h1;rw[<-h1]at h2;simp[jC]at h2
   |succ m=>exact⟨m,rfl⟩
  have hlc:LC.length<=900001:=(uh hI).2.2.2.2.1;have j5:k<=LC.length:=(uh hI).2.2.2.2.2.1;have Wl:Hid (LR.length=k):=ab (uh hI).2.2.2.2.2.2;have pf:LR.length<=900001:=by rw[uh Wl];omega
  have c8:=(uh hI).1.bs.cell 8 rfl;by_cases ar:k<LC.length
  .have hd:decide ((k:Int)<(LC.length:Int))=true:=(by simp;omega);cases dK:s'.fu
   .rw[dK]at c8;have eP:=(uh hI).2.2.2.1;rw[hm,Y9 (by rw[length_map];exact ar) dK,getElem_map]at eP;obtain⟨g2,cap2,dx,ay⟩:=(uh hI).1.c.pend.cell ar;simp only[Value.slice.injEq,true_and]at dx;obtain⟨rfl,rfl⟩:=dx;have hyF:=(uh hI).1.c.fm _ (getElem_mem ar);have hyB:=(uh hI).1.c.ge _ (getElem_mem ar);have hyT:=(uh hI).2.1 _ (getElem_mem ar);have eU:=(uh hI).1.apart ar;have hym:LC[k]∈LC:=getElem_mem ar;have hyt:LC[k]∈LC.take (k+1):=(by rw[take_succ_eq_append_getElem ar];exact mem_append_right _ mem_cons_self);obtain⟨y,hye⟩:∃y,y=LC[k]:=⟨_,rfl⟩;rw[<-hye]at ay hyF hyB hyT eU hym hyt eP;have It:y.p=.pointer (some ⟨y.A,0,none⟩):=rfl;rw[It]at ay;have Bv:=ab (vK hyF.is hyT.ok);have GM:=ab eP;have HYT:=ab hyT;have HYF:=ab hyF;have HYB:=ab hyB;have X3:=ab eU;have HYm:=ab hym;have HYt:=ab hyt;have HI:=ab (uh hI);have i1:(0:Int)<=(k:Int):=(by omega);have i2:(k:Int)<(LC.length:Int):=(by omega);clear eP hyF hyB hyT eU hym hyt hye It hI;go_wp2_with fail
    refine(uh Bv).mono ?_;rintro e w3 ⟨gv,rfl,oQ,du⟩;have uA:=ab ((uh HI).1.below du);have Yt:=ab ((uh HYF).below du);have hgb:∀q∈gv.ownBlock.toList,wr.heap.size<=q:=λq hq=>(oQ.lt q (by simpa using hq)).1;have rC:=ab oQ;obtain⟨ga,gc,dQ,-,-⟩:=aj oQ;subst dQ;have HGB:=ab hgb;clear oQ hgb du Bv c8 ay;by_cases vx:fj y.f=[]
    .have hl0:(((fj y.f).length:Int)==(0:Int))=true:=(by rw[vx];rfl);have Fx:jC c m (k+1) (LR.map (·.f)++[y.f]) (LC.map (·.f),s')=R:=by
      have:=uh GM;unfold xR at this;rw[if_pos vx]at this;exact this
     have Ya:=ab Fx;clear vx Fx;have LN:Hid (w3.ownsRow B 126 1 (.slice ra LR.length rc) LR.length (LR.map FE.p)):=ab (uh uA).r.row;have Kw:=(uh uA).bb;go_wp2_with (at_builtin;refine aS _ rfl (.tmp 37) (.tmp 39) 125 rfl B 126 i0 _ 1 8 underlying125 k9 gX fK f9 rfl (by decide) _ LR.length (LR.map FE.p) rfl ((uh LN).alloc _) ⟨_,0,none⟩ 1 [.pointer (some ⟨y.A,0,none⟩)] rfl rfl (aN _ _ (by simp) [.pointer (some ⟨y.A,0,none⟩)] _) (by intro u hu;simp only[mem_singleton]at hu;subst hu;rfl) (by omega) (by omega) (by simp;omega) ?_)
     intro g7 cap7 w7 iH dF fY;have Km:=(uh uA).app (x:=y) (k':=k+1) (g1:=g7) (c1:=cap7) (Nat.le_succ k) (uh Yt) (uh HYB) (uh X3) (zq0 (uh HYt)) (λq hq=>zq0 (mem_append_right _ (mem_flatMap.2 ⟨y,uh HYm,hq⟩))) iH dF (by simpa using fY);have HN:=ab (zq2 Km (zq2 (uh HI).2.1 (zq2 (fun(q:FE) (hq:q∈LR++[y])=>(mem_append.1 hq).elim ((uh HI).2.2.1 q) (λp=>(mem_singleton.1 p) ▸ uh HYT)) (zq2 (show jC c m (k+1) ((LR++[y]).map (·.f)) (LC.map (·.f),s')=R by rw[map_append];exact uh Ya) (zq2 (uh HI).2.2.2.2.1 (zq2 (show k+1<=LC.length by omega) (show(LR++[y]).length=k+1 by rw[length_append,uh Wl];rfl)))))));clear iH dF fY Km HI;go_wp2_with fail
     go_roundg m
     case rel=>exact⟨k+1,LC,LR++[y],s',by go_num,HN⟩
     case measure=>omega
    .have hl0:(((fj y.f).length:Int)==(0:Int))=false:=by
      have:(fj y.f).length≠0:=λe=>vx (length_eq_zero_iff.1 e);simp;omega
     have Fx:jC c m (k+1) (LR.map (·.f)++[VZ y.f]) ((fj y.f).foldl (gG c y.f) (LC.map (·.f),s'))=R:=by
      have:=uh GM;unfold xR at this;rw[if_neg vx]at this;exact this
     obtain⟨R1,sL⟩:∃R1,R1=(fj y.f).foldl (gG c y.f) (LC.map (·.f),s'):=⟨_,rfl⟩;rw[<-sL]at Fx;have Yk:=ab sL;have Ya:=ab Fx;have Yj:Hid (R1.2.ok=true):=ab (uZ m (k+1) _ R1 (by rw[Fx];exact uh kO));have HWO:=ab (LF (uh Yt).is (uh HYT).ok (zq3 (uh HYT).ln (by omega)));clear vx Fx sL;go_wp2_with fail
     refine(uh HWO).mono ?_;rintro e w4 ⟨A4,rfl,av4,ov4,rU,afR,nR⟩;have Sk:=ab ((uh uA).below nR);have Wk:Hid (w4.ownsRow B 126 1 (.slice ra LR.length rc) LR.length (LR.map FE.p)):=ab (uh Sk).r.row;have ZS:=(uh Sk).bb;have Ye:=ab (ae (uh rC) (λq hq=>nR.block q ((uh rC).lt q hq).2));have RO:∀q∈aH A4 av4 ov4,(q ∉ bn (.slice ra LR.length rc) LR/\q≠S/\q ∉ (Value.slice (some ⟨g2,0,none⟩) LC.length lc).ownBlock.toList)/\q ∉ bn (.slice (some ⟨g2,0,none⟩) LC.length lc) LC/\w.heap.size<=q/\B<=q:=λq hq=>by
      have h1:=afR q hq;refine⟨⟨λhn=>?_,λe=>?_,λhn=>?_⟩,λhn=>?_,zq3 (uh uA).st.size h1,zq3 (uh uA).bb h1⟩
      .have:=(uh uA).r.lt q hn;omega
      .have:=(uh uA).bs.lt;omega
      .have:=(uh uA).c.lt q (mem_append_left _ hn);omega
      .have:=(uh uA).c.lt q hn;omega
     have V8:=ab rU;have V6:=ab RO;clear rU afR nR RO HWO rC uA Yt;go_wp2_with (at_builtin;refine aS _ rfl (.tmp 41) (.tmp 44) 125 rfl B 126 i0 _ 1 8 underlying125 k9 gX fK f9 rfl (by decide) _ LR.length (LR.map FE.p) rfl ((uh Wk).alloc _) ⟨_,0,none⟩ 1 [.pointer (some ⟨A4,0,none⟩)] rfl rfl (aN _ _ (by simp) [.pointer (some ⟨A4,0,none⟩)] _) (by intro u hu;simp only[mem_singleton]at hu;subst hu;rfl) (by omega) (by omega) (by simp;omega) ?_)
     intro g7 cap7 w7 iH dF fY;have yP:=lB dF (by simpa using fY);have Km:=(uh Sk).app (x:=⟨A4,VZ y.f,av4,ov4⟩) (k':=k+1) (g1:=g7) (c1:=cap7) (Nat.le_succ k) (uh V8) (λq hq=>(uh V6 q hq).2.2.2) (λq hq=>(uh V6 q hq).1) (zq1 (λq hq=>(uh V6 q hq).2.1)) (λq hq=>zq1 (uh V6 q hq).2.2.1) iH dF (by simpa using fY);have Zu:=ae (uh Ye) (λq hq=>yP.block q ((uh Ye).lt q hq).2 (λhn=>by
      have h1:=uh HGB q (by simpa using hq);have h2:=(uh HI).1.r.lt q (mem_append_left _ hn);omega))
     have aeX:∀q∈(Value.slice ga (fj y.f).length gc).ownBlock.toList,q ∉ bn (.slice (some ⟨g2,0,none⟩) LC.length lc) LC/\q≠S:=λq hq=>by
      have h1:=uh HGB q hq;exact⟨λhn=>by have:=(uh HI).1.c.lt q hn;omega,λe=>by have:=(uh HI).1.bs.lt;omega⟩
     obtain⟨z,hz⟩:∃z:FE,z=⟨A4,VZ y.f,av4,ov4⟩:=⟨_,rfl⟩;rw[<-hz]at Km;have HZ:Hid (z.f=VZ y.f):=ab (by rw[hz]);obtain⟨B3,TG⟩:∃B3,B3=wr.heap.size:=⟨_,rfl⟩;rw[<-TG]at Zu;have oK:=ab (zq2 Km (zq2 Zu (zq2 aeX (zq2 (uh HI).2.1 (zq2 (show((fj y.f).drop 0).foldl (gG c y.f) (LC.map (·.f),s')=R1 from (uh Yk).symm) (zq2 (uh HI).2.2.2.2.1 (zq2 (show k+1<=LC.length by omega) (uh HYm))))))));clear iH dF fY yP Km Zu aeX hz TG Sk Wk Ye V8 V6 X3 HYF HYm;have vu:=IL (uh HYT).ok;go_wp2_with fail
     go_loopg [6,48] (fj y.f).length (λgn cv iv wx=>∃(j:Nat) (LD:List FE) (sa:Sr),j+gn=(fj y.f).length/\iv=.int .i64 j/\Hid (Fg w wx B F0 S (qi c0 hv lp kv wv c.bd sa.lf lo sa.fu) (k+1) cv LD (.slice (some ⟨g7,0,none⟩) (LR.length+1) cap7) (LR++[z])/\wx.ownsRow B3 3 1 (.slice ga (fj y.f).length gc) (fj y.f).length (se (fj y.f))/\(∀q∈(Value.slice ga (fj y.f).length gc).ownBlock.toList,q ∉ bn cv LD/\q≠S)/\(∀y∈LD,Td y.f)/\((fj y.f).drop j).foldl (gG c y.f) (LD.map (·.f),sa)=R1/\LD.length<=ik+1/\k+1<=LD.length/\y∈LD))
     case atStart=>exact⟨0,LC,s',by omega,rfl,oK⟩
     case round =>
      clear oK;obtain⟨j,LD,sa,BO,rfl,hJ⟩:=hrel;obtain⟨G2,Fi⟩:∃G2,G2=gk:=⟨_,rfl⟩;by_cases f7:j<(fj y.f).length
      .have kj:decide ((j:Int)<((fj y.f).length:Int))=true:=(by simp;omega);obtain⟨g3,cap3,afV,ay⟩:=KY (uh hJ).2.1 f7;simp only[Value.slice.injEq,true_and]at afV;obtain⟨rfl,rfl⟩:=afV;have kS:(fj y.f).drop j=(fj y.f)[j]::(fj y.f).drop (j+1):=drop_eq_getElem_cons f7;have hjo:(fj y.f)[j]<y.f.ow.length:=by
        have:=getElem_mem f7;unfold fj at this;rw[mem_filter,mem_range]at this;exact this.1
       have eP:=(uh hJ).2.2.2.2.1;rw[kS,foldl_cons]at eP;obtain⟨i,hi⟩:∃i,i=(fj y.f)[j]:=⟨_,rfl⟩;rw[<-hi]at eP hjo ay;have aar:(gG c y.f (LD.map (·.f),sa) i).2.ok=true:=fV (gG c y.f) (λr b h=>yF r b h) ((fj y.f).drop (j+1)) (by rw[eP];exact uh Yj);have HFD:=ab (Ke (c:=c) (s:=sa) (x:=y) (i:=i) (L:=LD) (uh hJ).1.bs (uh hJ).1.c (uh hJ).2.2.2.1 (uh hJ).2.2.2.2.2.2.2 (uh hJ).1.sc (uh hJ).1.bb hjo aar);have alB:(LD.map (λq:FE=>q.f)).length=LD.length:=length_map _;have HLE:Hid ((gG c y.f (LD.map (·.f),sa) i).1.length<=ik+1):=ab (by
        refine N0 _ i aar ?_;show(LD.map (λq:FE=>q.f)).length<=ik+1;have h9:=(uh hJ).2.2.2.2.2.1;omega)
       obtain⟨R2,ZG⟩:∃R2,R2=gG c y.f (LD.map (·.f),sa) i:=⟨_,rfl⟩;rw[<-ZG]at HFD HLE eP;have HFo:=ab eP;have HJ:=ab (uh hJ);have k1:(0:Int)<=(j:Int):=(by omega);have k2:(j:Int)<((fj y.f).length:Int):=(by omega);clear kS hjo eP hi aar ZG hJ alB;go_wp2_with fail
       refine(uh HFD).mono ?_;rintro e w8 ⟨v8,L8,rfl,afO,agQ,O5,OF,CH,Io⟩;have aeV:=(uh HJ).1.more (uh HJ).2.2.2.2.2.2.1 afO OF CH Io;have FD:∀q∈(Value.slice (some ⟨g3,0,none⟩) (fj y.f).length gc).ownBlock.toList,q ∉ S::bn u6 LD:=λq hq hn=>by
        rcases mem_cons.1 hn with p|p
        .exact((uh HJ).2.2.1 q hq).2 p
        .exact((uh HJ).2.2.1 q hq).1 p
       have aeZ:=ae (uh HJ).2.1 (λq hq=>Io.block q ((uh HJ).2.1.lt q hq).2 (FD q (by simpa using hq)));have aeY:∀q∈(Value.slice (some ⟨g3,0,none⟩) (fj y.f).length gc).ownBlock.toList,q ∉ bn v8 (LD++L8)/\q≠S:=λq hq=>⟨λhn=>by
        rcases Io.foot q (mem_cons_of_mem _ hn) with p|p
        .exact FD q hq p
        .have:=((uh HJ).2.1.lt q (by simpa using hq)).2;omega,((uh HJ).2.2.1 q hq).2⟩
       have afm:∀q∈LD++L8,Td q.f:=λq hq=>(mem_append.1 hq).elim ((uh HJ).2.2.2.1 q) (agQ q);have age:(LD++L8).length<=ik+1:=by
        have:=uh HLE;rw[<-O5,length_map]at this;exact this
       have OP:((fj y.f).drop (j+1)).foldl (gG c y.f) ((LD++L8).map (·.f),R2.2)=R1:=(by rw[O5];exact uh HFo);have HN:=ab (zq2 aeV (zq2 aeZ (zq2 aeY (zq2 afm (zq2 OP (zq2 age (zq2 (show k+1<=(LD++L8).length by rw[length_append];have:=(uh HJ).2.2.2.2.2.2.1;omega) (show y∈LD++L8 from mem_append_left _ (uh HJ).2.2.2.2.2.2.2))))))));clear afO agQ O5 OF CH Io aeV FD aeZ aeY afm age OP HJ HFD HLE HFo;go_wp2_with fail
       go_roundg (G2-1)
       case rel=>exact⟨j+1,LD++L8,R2.2,by omega,by go_num,HN⟩
       case measure=>omega
      .have kj:decide ((j:Int)<((fj y.f).length:Int))=false:=(by simp;omega);have KQ:(LD.map (·.f),sa)=R1:=by
        have:=(uh hJ).2.2.2.2.1;rw[drop_eq_nil_of_le (by omega)]at this;exact this
       have HN:=ab (zq2 (uh hJ).1 (zq2 (uh hJ).2.2.2.1 (zq2 (fun(q:FE) (hq:q∈LR++[z])=>(mem_append.1 hq).elim ((uh HI).2.2.1 q) (λp=>by rw[mem_singleton.1 p,uh HZ];exact Rp (uh HYT).ok)) (zq2 (show jC c m (k+1) ((LR++[z]).map (·.f)) (LD.map (·.f),sa)=R by rw[KQ,map_append,map_singleton,uh HZ];exact uh Ya) (zq2 (uh hJ).2.2.2.2.2.1 (zq2 (uh hJ).2.2.2.2.2.2.1 (show(LR++[z]).length=k+1 by rw[length_append,uh Wl];rfl)))))));clear KQ hJ;go_wp2_with fail
       go_roundg m
       case rel=>exact⟨k+1,LD,LR++[z],sa,by go_num,HN⟩
       case measure=>omega
   .rw[dK]at c8;have eP:=(uh hI).2.2.2.1;rw[hm,Ho (λh=>by rw[dK]at h;cases h.2)]at eP;have GM:=ab eP;clear eP;go_wp2_with fail
    go_ret;obtain⟨v',L',h1,h2,h3,h4,h5,h6,h7⟩:=Hp (uh hI).1 (uh hI).2.2.1 (uh GM);exact⟨v',h1,L',h2,h3,h4,h5,h6,h7⟩
  .have hd:decide ((k:Int)<(LC.length:Int))=false:=(by simp;omega);have eP:=(uh hI).2.2.2.1;rw[hm,Ho (λh=>ar (by simpa using h.1))]at eP;have GM:=ab eP;clear eP;go_wp2_with fail
   go_ret;obtain⟨v',L',h1,h2,h3,h4,h5,h6,h7⟩:=Hp (uh hI).1 (uh hI).2.2.1 (uh GM);exact⟨v',h1,L',h2,h3,h4,h5,h6,h7⟩
end
theorem Ze{c:Cd}(r:List CF × Sr)(g:CF):(oX c r g).2.lo=r.2.lo:=by unfold oX;split <;> rfl
theorem tV{β:Type}(g:List CF × Sr->β->List CF × Sr)(hg:∀r b,(g r b).2.lo=r.2.lo):∀(l:List β) (r:List CF × Sr),(l.foldl g r).2.lo=r.2.lo
 |[],_=>rfl
 |b::l,r=>(tV g hg l (g r b)).trans (hg r b)
theorem Zh{c:Cd}{f:CF}{i:Nat}(r:List CF × Sr)(a:Nat):(qu c f i r a).2.lo=r.2.lo:=by
 unfold qu;split
 .exact tV _ Ze _ _
 .rfl
theorem Tw{c:Cd}{f:CF}(r:List CF × Sr)(i:Nat):(gG c f r i).2.lo=r.2.lo:=tV _ Zh _ _
theorem NU{c:Cd}:∀(n k:Nat) (res:List CF) (r:List CF × Sr),(jC c n k res r).2.lo=r.2.lo
 |0,_,_,_=>rfl
 |n+1,k,res,r=>by
  unfold jC;split
  .rw[NU n];unfold xR;split
   .rfl
   .exact tV _ Tw _ _
  .rfl
theorem n7{c:Cd}{n:Nat}{f:CF}{s:Sr}(h:(bF c n f s).ok=true):s.ok=true/\(a7 s n).length<=th:=by
 have h1:(s.ok&&decide ((a7 s n).length<=th))=true:=by
  unfold bF at h;split at h
  .exact h
  .exact h
 rw[Bool.and_eq_true,decide_eq_true_eq]at h1;exact h1
theorem lm{c:Cd}{n:Nat}:∀(l:List CF) {s:Sr},(l.foldl (λs g=>bF c n g s) s).ok=true->s.ok=true
 |[],_,h=>h
 |_::l,_,h=>(n7 (lm l h)).1
theorem MU{c:Cd}{fuel a b:Nat}{f:CF}{s:Sr}(h:(dJ c fuel a b f s).ok=true):s.ok=true:=by
 unfold dJ at h;split at h
 .exact(n7 h).1
 .have h1:=lm _ h;exact uZ fuel 0 [] ([f],mm a 2 s) h1
theorem iz{c:Cd}{fuel a b:Nat}:∀(l:List CF) {s:Sr},(l.foldl (λs g=>dJ c fuel a b g s) s).ok=true->s.ok=true
 |[],_,h=>h
 |_::l,_,h=>MU (iz l h)
def Apt(O:List (Option Nat)):Prop:=∀i j k:Nat,O[i]?=some (some k)->O[j]?=some (some k)->i=j
def TA(O:List (Option Nat)):List Nat:=O.filterMap id
theorem aT{O:List (Option Nat)}{k:Nat}:k∈TA O↔∃i:Nat,O[i]?=some (some k):=by
 unfold TA;rw[mem_filterMap];constructor
 .rintro⟨a,ha,e⟩;obtain⟨i,hi⟩:=mem_iff_getElem?.1 ha;exact⟨i,by rw[hi];exact congrArg some e⟩
 .rintro⟨i,hi⟩;exact⟨some k,mem_of_getElem? hi,rfl⟩
theorem Apt.set{O:List (Option Nat)}(h:Apt O)(p:Nat){o:Option Nat}(ho:∀k,o=some k->O[p]?=some (some k)\/∀j:Nat,O[j]?≠some (some k)):Apt (O.set p o):=by
 intro i j k hi hj;rw[getElem?_set]at hi hj;by_cases e1:p=i
 .by_cases e2:p=j
  .exact e1.symm.trans e2
  .rw[if_pos e1]at hi;rw[if_neg e2]at hj;split at hi
   .simp only[Option.some.injEq]at hi;rcases ho k hi with q|q
    .exact e1.symm.trans (h _ _ _ q hj)
    .exact absurd hj (q j)
   .simp at hi
 .rw[if_neg e1]at hi;by_cases e2:p=j
  .rw[if_pos e2]at hj;split at hj
   .simp only[Option.some.injEq]at hj;rcases ho k hj with q|q
    .exact(h _ _ _ hi q).trans e2
    .exact absurd hi (q i)
   .simp at hj
  .rw[if_neg e2]at hj;exact h _ _ _ hi hj
def aJ:Value:=.slice none 0 0
structure En where
 D:Nat
 x:FE
 d:Bool
def En.bs(e:En):List Nat:=e.D::e.x.bs
def En.c(e:En):List Value:=[.pointer (some ⟨e.D,0,none⟩),.bool e.d]
def En.m(e:En):gT:=⟨e.x.f,e.d⟩
def ru(L:List En):List Value:=L.flatMap En.c
def En.ok(w:World)(e:En):Prop:=rs w e.D e.x.A e.x.f e.x.av e.x.ov/\Td e.x.f
theorem Ti(L:List En):(ru L).length=L.length*2:=by
 induction L with
 |nil=>rfl
 |cons a L ih =>
  unfold ru at ih ⊢;rw[flatMap_cons,length_append,ih,length_cons];show 2+_=_;omega
theorem Th(L M:List En):ru (L++M)=ru L++ru M:=by unfold ru;rw[flatMap_append]
theorem NH(L:List En)(k:Nat):(ru L).take (k*2)=ru (L.take k):=by
 induction L generalizing k with
 |nil=>simp[ru]
 |cons a L ih =>
  cases k with
  |zero=>simp[ru]
  |succ k =>
   have:=ih k;unfold ru at this ⊢;rw[take_succ_cons,flatMap_cons,flatMap_cons,<-this,show(k+1)*2=(k*2)+1+1 by omega];rfl
theorem qt{L:List En}{i:Nat}(hi:i<L.length):(ru L)[i*2]?=some (.pointer (some ⟨L[i].D,0,none⟩))/\(ru L)[i*2+1]?=some (.bool L[i].d):=by
 induction L generalizing i with
 |nil=>simp at hi
 |cons a L ih =>
  cases i with
  |zero=>exact⟨rfl,rfl⟩
  |succ i =>
   have:=ih (i:=i) (by simpa using hi);unfold ru at this ⊢;rw[flatMap_cons,show(i+1)*2=(i*2)+1+1 by omega,show i*2+1+1+1=(i*2+1)+1+1 by omega];exact this
theorem Hl{L:List En}{i:Nat}(hi:i<L.length)(e:En):((ru L).set (i*2) (.pointer (some ⟨e.D,0,none⟩))).set (i*2+1) (.bool e.d)=ru (L.set i e):=by
 induction L generalizing i with
 |nil=>simp at hi
 |cons a L ih =>
  cases i with
  |zero=>rfl
  |succ i =>
   have:=ih (i:=i) (by simpa using hi);unfold ru at this ⊢;rw[set_cons_succ,flatMap_cons,flatMap_cons,<-this,show(i+1)*2=(i*2)+1+1 by omega,show i*2+1+1+1=(i*2+1)+1+1 by omega];rfl
def pp(S:Nat)(hv kv wv:Value)(KV WV:List Value):List (Option Nat):=some S::hv.ownBlock::kv.ownBlock::wv.ownBlock::(KV.map Value.ownBlock++WV.map Value.ownBlock)
def cW(S:Nat)(hv kv wv:Value)(KV WV:List Value):List Nat:=TA (pp S hv kv wv KV WV)
def ee(K:List (List En)):List Nat:=K.flatMap (λl=>l.flatMap En.bs)
theorem bI{K:List (List En)}{k:Nat}:k∈ee K↔∃l∈K,∃e∈l,k∈e.bs:=by
 unfold ee;simp only[mem_flatMap]
structure Sh(w:World)(S:Nat)(c:Cd)(c0 hv kv wv:Value)(KV WV:List Value)(K:List (List En))(s:Sr):Prop where
 bs:Bk w S 229 (qi c0 hv c.lp kv wv c.bd s.lf s.lo s.fu)
 hr:w.ownsRow 0 4 1 hv c.hd.length (dd c.hd)
 kr:w.ownsRow 0 255 1 kv K.length KV
 ke:∀i,i<K.length->w.ownsRow 0 258 2 (KV.getD i aJ) (K.getD i []).length (ru (K.getD i []))
 wr:w.ownsRow 0 200 1 wv K.length WV
 we:∀i,i<K.length->w.ownsRow 0 4 1 (WV.getD i aJ) 5 (dd (s.wr.getD i []))
 wl:s.wr.length=K.length
 hl:c.hd.length=K.length
 nl:c.nds.length=K.length
 km:s.kn=K.map (λl=>l.map En.m)
 dr:∀l∈K,∀e∈l,e.ok w
 nd:Apt (pp S hv kv wv KV WV)
 da:∀k∈ee K,k ∉ cW S hv kv wv KV WV
section
variable {w w':World} {S:Nat} {c:Cd} {c0 hv kv wv:Value} {KV WV:List Value} {K:List (List En)} {s:Sr}
theorem Sh.kvl(h:Sh w S c c0 hv kv wv KV WV K s):KV.length=K.length:=by have:=h.kr.1;omega
theorem Sh.wvl(h:Sh w S c c0 hv kv wv KV WV K s):WV.length=K.length:=by have:=h.wr.1;omega
theorem yd{i:Nat}(hi:i<KV.length):(pp S hv kv wv KV WV)[4+i]?=some (KV.getD i aJ).ownBlock:=by
 unfold pp;rw[show 4+i=i+1+1+1+1 by omega];simp only[getElem?_cons_succ];rw[getElem?_append_left (by simpa using hi)];simp[hi]
theorem AO{i:Nat}(hi:i<WV.length):(pp S hv kv wv KV WV)[4+(KV.length+i)]?=some (WV.getD i aJ).ownBlock:=by
 unfold pp;rw[show 4+(KV.length+i)=(KV.length+i)+1+1+1+1 by omega];simp only[getElem?_cons_succ];rw[getElem?_append_right (by simp)];simp[hi]
theorem Gg{n:Nat}(v:Value)(hn:n<KV.length):pp S hv kv wv (KV.set n v) WV=(pp S hv kv wv KV WV).set (4+n) v.ownBlock:=by
 unfold pp;rw[show 4+n=n+1+1+1+1 by omega];simp only[set_cons_succ];rw[set_append_left _ _ (by simpa using hn),map_set]
theorem Qb{i k:Nat}(h:(pp S hv kv wv KV WV)[i]?=some (some k)):i=0/\k=S\/i=1/\hv.ownBlock=some k\/i=2/\kv.ownBlock=some k\/i=3/\wv.ownBlock=some k\/(∃j,j<KV.length/\i=4+j/\(KV.getD j aJ).ownBlock=some k)\/∃j,j<WV.length/\i=4+(KV.length+j)/\(WV.getD j aJ).ownBlock=some k:=by
 unfold pp at h;match i with
 |0=>left;simpa[eq_comm] using h
 |1=>right;left;simpa using h
 |2=>right;right;left;simpa using h
 |3=>right;right;right;left;simpa using h
 |i+4 =>
  simp only[getElem?_cons_succ]at h;by_cases hl:i<KV.length
  .right;right;right;right;left;rw[getElem?_append_left (by simpa using hl)]at h;refine⟨i,hl,by omega,?_⟩;simpa[hl] using h
  .right;right;right;right;right;rw[getElem?_append_right (by simp;omega)]at h;have vt:i-KV.length<WV.length:=by
    have:=(List.getElem?_eq_some_iff.1 h).1;simpa using this
   refine⟨i-KV.length,vt,by omega,?_⟩;simpa[vt] using h
theorem Sh.lt(h:Sh w S c c0 hv kv wv KV WV K s):∀k∈cW S hv kv wv KV WV,k<w.heap.size:=by
 intro k hk;obtain⟨i,hi⟩:=aT.1 hk;rcases Qb hi with⟨-,rfl⟩|⟨-,e⟩|⟨-,e⟩|⟨-,e⟩|⟨j,hj,-,e⟩|⟨j,hj,-,e⟩
 .exact h.bs.lt
 .exact(h.hr.lt k e).2
 .exact(h.kr.lt k e).2
 .exact(h.wr.lt k e).2
 .exact((h.ke j (by rw[<-h.kvl];exact hj)).lt k e).2
 .exact((h.we j (by rw[<-h.wvl];exact hj)).lt k e).2
theorem Sh.drlt(h:Sh w S c c0 hv kv wv KV WV K s):∀k∈ee K,k<w.heap.size:=by
 intro k hk;obtain⟨l,hl,e,he,hk⟩:=bI.1 hk;exact(h.dr l hl e he).1.lt k hk
theorem bU{i k:Nat}(h:(pp S hv kv wv KV WV)[i]?=some (some k)):k∈cW S hv kv wv KV WV:=aT.2 ⟨i,h⟩
theorem gL:S∈cW S hv kv wv KV WV:=bU (i:=0) rfl
theorem En.ok.of_eq{e:En}(h:e.ok w)(he:∀k∈e.bs,w'.heap[k]?=w.heap[k]?):e.ok w':=⟨h.1.of_eq he,h.2⟩
theorem Sh.of_eq(h:Sh w S c c0 hv kv wv KV WV K s)(he:∀k∈cW S hv kv wv KV WV,w'.heap[k]?=w.heap[k]?)(hd:∀k∈ee K,w'.heap[k]?=w.heap[k]?):Sh w' S c c0 hv kv wv KV WV K s:=by
 have hK:=h.kvl;have hW:=h.wvl;refine⟨h.bs.of_eq (he S gL),ae h.hr (λk hk=>he k (bU (i:=1) (congrArg some hk))),ae h.kr (λk hk=>he k (bU (i:=2) (congrArg some hk))),λi hi=>ae (h.ke i hi) (λk hk=>he k (bU ((yd (by omega)).trans (congrArg some hk)))),ae h.wr (λk hk=>he k (bU (i:=3) (congrArg some hk))),λi hi=>ae (h.we i hi) (λk hk=>he k (bU ((AO (by omega)).trans (congrArg some hk)))),h.wl,h.hl,h.nl,h.km,λl hl e mD=>(h.dr l hl e mD).of_eq (λk hk=>hd k (bI.2 ⟨l,hl,e,mD,hk⟩)),h.nd,h.da⟩
theorem Sh.below(h:Sh w S c c0 hv kv wv KV WV K s)(hb:Below w.heap.size w w'):Sh w' S c c0 hv kv wv KV WV K s:=h.of_eq (λk hk=>hb.block k (h.lt k hk)) (λk hk=>hb.block k (h.drlt k hk))
theorem Sh.stp{F F':List Nat}(h:Sh w S c c0 hv kv wv KV WV K s)(hs:au F w F' w')(h1:∀k∈cW S hv kv wv KV WV,k ∉ F)(h2:∀k∈ee K,k ∉ F):Sh w' S c c0 hv kv wv KV WV K s:=h.of_eq (λk hk=>hs.block k (h.lt k hk) (h1 k hk)) (λk hk=>hs.block k (h.drlt k hk) (h2 k hk))
theorem Sh.own{F F':List Nat}(h:Sh w S c c0 hv kv wv KV WV K s){s':Sr}(hb:Bk w' S 229 (qi c0 hv c.lp kv wv c.bd s'.lf s'.lo s'.fu))(hs:au F w F' w')(hF:∀k∈F,k=S\/k ∉ cW S hv kv wv KV WV/\k ∉ ee K)(e1:s'.kn=s.kn)(e2:s'.wr=s.wr):Sh w' S c c0 hv kv wv KV WV K s':=by
 have aL:∀i k,i≠0->(pp S hv kv wv KV WV)[i]?=some (some k)->w'.heap[k]?=w.heap[k]?:=λi k k9 hi =>
  hs.block k (h.lt k (bU hi)) (λhk=>by
   rcases hF k hk with p|p
   .subst p;exact k9 (h.nd i 0 k hi rfl)
   .exact p.1 (bU hi))
 have hK:=h.kvl;have hW:=h.wvl;refine⟨hb,ae h.hr (λk hk=>aL 1 k (by omega) (congrArg some hk)),ae h.kr (λk hk=>aL 2 k (by omega) (congrArg some hk)),λi hi=>ae (h.ke i hi) (λk hk=>aL _ k (by omega) ((yd (by omega)).trans (congrArg some hk))),ae h.wr (λk hk=>aL 3 k (by omega) (congrArg some hk)),λi hi=>?_,by rw[e2];exact h.wl,h.hl,h.nl,by rw[e1];exact h.km,λl hl e mD=>(h.dr l hl e mD).of_eq (λk hk=>?_),h.nd,h.da⟩
 .rw[e2];exact ae (h.we i hi) (λk hk=>aL _ k (by omega) ((AO (by omega)).trans (congrArg some hk)))
 .have hm:=bI.2 ⟨l,hl,e,mD,hk⟩;refine hs.block k (h.drlt k hm) (λhq=>?_);rcases hF k hq with p|p
  .exact h.da k hm (by rw[p];exact gL)
  .exact p.2 hm
theorem Sh.put (h:Sh w S c c0 hv kv wv KV WV K s) {n:Nat} (hn:n<K.length) {v':Value} {l':List En} (he:∀i k,i≠2->i≠4+n->(pp S hv kv wv KV WV)[i]?=some (some k)->w'.heap[k]?=w.heap[k]?)
  (hk:w'.ownsRow 0 255 1 kv K.length (KV.set n v')) (hr:w'.ownsRow 0 258 2 v' l'.length (ru l')) (hv':∀k,v'.ownBlock=some k->(KV.getD n aJ).ownBlock=some k\/w.heap.size<=k)
  (hd:∀k∈ee K,w'.heap[k]?=w.heap[k]?) (hl:∀e∈l',e.ok w'/\∀k∈e.bs,k ∉ cW S hv kv wv (KV.set n v') WV):Sh w' S c c0 hv kv wv (KV.set n v') WV (K.set n l') { s with kn:=s.kn.set n (l'.map En.m) }:=by
 have hK:=h.kvl;have hW:=h.wvl;have hnK:n<KV.length:=by omega
 have tt:∀k∈cW S hv kv wv (KV.set n v') WV,k∈cW S hv kv wv KV WV\/w.heap.size<=k:=λk hk=>by
  obtain⟨i,hi⟩:=aT.1 hk;rw[Gg v' hnK,getElem?_set]at hi;split at hi
  .rename_i e;split at hi
   .simp only[Option.some.injEq]at hi;rcases hv' k hi with q|q
    .exact zq0 (bU ((yd hnK).trans (congrArg some q)))
    .exact zq1 q
   .simp at hi
  .exact zq0 (bU hi)
 have yK:(K.set n l').length=K.length:=length_set;refine⟨h.bs.of_eq (he 0 S (by omega) (by omega) rfl),ae h.hr (λk hk=>he 1 k (by omega) (by omega) (congrArg some hk)),by rw[yK];exact hk,λi hi=>?_,by rw[yK];exact ae h.wr (λk hk=>he 3 k (by omega) (by omega) (congrArg some hk)),λi hi=>?_,by rw[yK];exact h.wl,by rw[yK];exact h.hl,by rw[yK];exact h.nl,?_,λl vt e mD=>?_,?_,λk hk hm=>?_⟩
 .rw[yK]at hi;by_cases e:i=n
  .subst e;have e1:(KV.set i v').getD i aJ=v':=(by simp[hnK]);have e2:(K.set i l').getD i []=l':=(by simp[hn]);rw[e1,e2];exact hr
  .have e1:(KV.set n v').getD i aJ=KV.getD i aJ:=by
    rw[getD_eq_getElem?_getD,getElem?_set_ne (λe'=>e e'.symm),<-getD_eq_getElem?_getD]
   have e2:(K.set n l').getD i []=K.getD i []:=by
    rw[getD_eq_getElem?_getD,getElem?_set_ne (λe'=>e e'.symm),<-getD_eq_getElem?_getD]
   rw[e1,e2];exact ae (h.ke i hi) (λk hk=>he _ k (by omega) (by omega) ((yd (by omega)).trans (congrArg some hk)))
 .rw[yK]at hi;exact ae (h.we i hi) (λk hk=>he _ k (by omega) (by omega) ((AO (by omega)).trans (congrArg some hk)))
 .show s.kn.set n _=_;rw[h.km,map_set]
 .rcases mem_or_eq_of_mem_set vt with p|p
  .exact(h.dr l p e mD).of_eq (λk hk=>hd k (bI.2 ⟨l,p,e,mD,hk⟩))
  .subst p;exact(hl e mD).1
 .rw[Gg v' hnK];refine h.nd.set (4+n) (λk hk=>?_);rcases hv' k hk with q|q
  .exact zq0 ((yd hnK).trans (congrArg some q))
  .exact zq1 (λj hj=>by have:=h.lt k (bU hj);omega)
 .obtain⟨l,vt,e,mD,mF⟩:=bI.1 hk;rcases mem_or_eq_of_mem_set vt with p|p
  .have hq:=bI.2 ⟨l,p,e,mD,mF⟩;rcases tt k hm with q|q
   .exact h.da k hq q
   .have:=h.drlt k hq;omega
  .subst p;exact(hl e mD).2 k mF hm
theorem Sh.bad(h:Sh w S c c0 hv kv wv KV WV K s){n:Nat}(hn:n<K.length){t:Nat}(ht:t<5){g cap:Nat}(hg:WV.getD n aJ=.slice (some ⟨g,0,none⟩) 5 cap):Sh (w.setCell ⟨g,t,none⟩ (.bool true)) S c c0 hv kv wv KV WV K (mm n t s)/\g∈cW S hv kv wv KV WV:=by
 have hK:=h.kvl;have hW:=h.wvl;have oQ:(pp S hv kv wv KV WV)[4+(KV.length+n)]?=some (some g):=by rw[AO (by omega),hg];rfl
 have aL:∀i k,i≠4+(KV.length+n)->(pp S hv kv wv KV WV)[i]?=some (some k)->(w.setCell ⟨g,t,none⟩ (.bool true)).heap[k]?=w.heap[k]?:=λi k hi hk=>by
  refine heap_setCell _ _ _ _ (λe=>hi ?_);rw[show k=g from e]at hk;exact h.nd i _ g hk oQ
 refine⟨⟨h.bs.of_eq (aL 0 S (by omega) rfl),ae h.hr (λk hk=>aL 1 k (by omega) (congrArg some hk)),ae h.kr (λk hk=>aL 2 k (by omega) (congrArg some hk)),λi hi=>ae (h.ke i hi) (λk hk=>aL _ k (by omega) ((yd (by omega)).trans (congrArg some hk))),ae h.wr (λk hk=>aL 3 k (by omega) (congrArg some hk)),λi hi=>?_,?_,h.hl,h.nl,h.km,λl hl e mD=>(h.dr l hl e mD).of_eq (λk hk=>?_),h.nd,h.da⟩,bU oQ⟩
 .by_cases e:i=n
  .subst e;have h1:=h.we i hi;rw[hg]at h1 ⊢;have h2:=(h1.stored t (.bool true)).1;have e3:(mm i t s).wr.getD i []=(s.wr.getD i []).set t true:=by
    show(s.wr.set i _).getD i []=_;have:i<s.wr.length:=(by rw[h.wl];exact hi);simp[this]
   rw[e3];have e4:dd ((s.wr.getD i []).set t true)=(dd (s.wr.getD i [])).set t (.bool true):=(by unfold dd;rw[map_set]);rw[e4];exact h2
  .have e3:(mm n t s).wr.getD i []=s.wr.getD i []:=by
    show(s.wr.set n _).getD i []=_;rw[getD_eq_getElem?_getD,getElem?_set_ne (λe'=>e e'.symm),<-getD_eq_getElem?_getD]
   rw[e3];exact ae (h.we i hi) (λk hk=>aL _ k (by omega) ((AO (by omega)).trans (congrArg some hk)))
 .show(s.wr.set n _).length=_;rw[length_set];exact h.wl
 .have hm:=bI.2 ⟨l,hl,e,mD,hk⟩;refine heap_setCell _ _ _ _ (λe'=>h.da k hm ?_);rw[show k=g from e'];exact bU oQ
end
section
variable {P:Program} (w:World)
theorem DH (base:Nat) (t ty e:TypeId) (i:TypeInfo) (z:Value) (size bytes:Nat) (ht:P.underlying t=some (.slice e)) (hi:P.info? e=some i) (hz:i.zero=some z)
  (jK:i.size=size) (Ej:i.bytes=bytes) (KW:z.cells.size=size) (nV:0<size)
  (v:Value) (n:Nat) (xs:List Value) (aP:w.ownsRow base e size v n xs)
  (a:Addr) (c:Nat) (news:List Value) (hl:news.length=size) (iD:∀j u,news[j]?=some u->w.cell? (a.add j)=some u) (h1:∀u∈news,u.oneCell'=true)
  (Kj:n+1<=2000000000000) (hb:bytes<=16) (gH:base<=w.heap.size) :
  ∃v' w',(Builtin.append_ #[t,t] ty #[v,.slice (some a) 1 c]).run P w=.ok v' w'/\w'.ownsRow base e size v' (n+1) (xs++news)/\w.grownBy w' v.ownBlock /\
   (v'.ownBlock=v.ownBlock\/v'.ownBlock=some w.heap.size)/\∃g cap,v'=.slice (some ⟨g,0,none⟩) (n+1) cap:=by
 have hbytes:(n+1)*bytes<=140737488355328:=zq3 (Nat.mul_le_mul Kj hb) (by decide);obtain⟨v',w',hr,ho,hg,_⟩:=run_append_own (P:=P) w base t ty e i z size bytes ht hi hz jK Ej KW nV v n xs aP a 1 c news (by omega) iD h1 (by unfold maxLen;omega) hbytes gH;refine⟨v',w',hr,ho,hg,?_,?_⟩
 .subst jK;subst Ej;rcases aP.2 with⟨rfl,rfl⟩|⟨g,cap,cur,rfl,pJ,T7,Md,mC,ts,Pl⟩
  .have mr:=run_append_nil (P:=P) w t ty e i z ht hi hz a 1 c news (by omega) iD (by omega) (by omega) (by omega);rw[hr]at mr;injection mr with e1 e2;subst e1;exact zq1 rfl
  .by_cases C4:n+1<=cap
   .have Fw:n*i.size+news.length<=cur.size:=by
     rw[hl,ts];have:=Nat.mul_le_mul_right i.size C4;rw[Nat.add_mul]at this;omega
    have mr:=run_append_room (P:=P) w t ty e i ht hi g n cap cur T7 a 1 c news (by omega) iD h1 C4 Fw;rw[hr]at mr;injection mr with e1 e2;subst e1;exact zq0 rfl
   .have holds:∀j u,xs[j]?=some u->w.cell? ((⟨g,0,none⟩:Addr).add j)=some u:=aP.cells (g:=g) rfl;have mr:=run_append_grow (P:=P) w t ty e i z ht hi hz ⟨g,0,none⟩ n cap xs aP.1 holds a 1 c news (by omega) iD (by omega) (by omega) (growslice_fits (by omega) hbytes);rw[hr]at mr;injection mr with e1 e2;subst e1;exact zq1 rfl
 .rcases ho.2 with⟨_,h⟩|⟨g,cap,_,h,_⟩
  .omega
  .exact⟨g,cap,h⟩
theorem s7 {ops:Array Oper} {rest:List Oper} {o:Oper} {a:Act} {Q:Exit->Act->World->Prop}
  (hg:o.guard=none) (s x:Operand) (t:TypeId) (nU:o.op=Op.call { callee:=Callee.builtin Builtin.append,args:=#[s,x],argTypes:=#[t,t] })
  (base:Nat) (e:TypeId) (i:TypeInfo) (z:Value) (size bytes:Nat) (ht:P.underlying t=some (.slice e)) (hi:P.info? e=some i) (hz:i.zero=some z)
  (jK:i.size=size) (Ej:i.bytes=bytes) (KW:z.cells.size=size) (nV:0<size)
  (v:Value) (n:Nat) (xs:List Value) (hs:a.eval s=v) (aP:w.ownsRow base e size v n xs)
  (ad:Addr) (c:Nat) (news:List Value) (hx:a.eval x=.slice (some ad) 1 c) (hl:news.length=size) (iD:∀j u,news[j]?=some u->w.cell? (ad.add j)=some u) (h1:∀u∈news,u.oneCell'=true)
  (Kj:n+1<=2000000000000) (hb:bytes<=16) (gH:base<=w.heap.size)
  (hK:∀g cap w',w'.ownsRow base e size (.slice (some ⟨g,0,none⟩) (n+1) cap) (n+1) (xs++news)->w.grownBy w' v.ownBlock->(some g=v.ownBlock\/g=w.heap.size)->wpList P ops Q rest (a.put o.dst (.slice (some ⟨g,0,none⟩) (n+1) cap)) w') :
  wpList P ops Q (o::rest) a w:=by
 refine wpList_plain hg λK hK'=>?_;obtain⟨v',w',FL,r1,r2,r3,g,cap,rfl⟩:=DH (P:=P) w base t o.type e i z size bytes ht hi hz jK Ej KW nV v n xs aP ad c news hl iD h1 Kj hb gH;unfold Oper.wp;simp[execOp,nU,resolve,invoke,builtin,hs,hx,FL,Result.andThen];exact hK' _ _ (hK g cap w' r1 r2 (by simpa[Value.ownBlock] using r3))
end
