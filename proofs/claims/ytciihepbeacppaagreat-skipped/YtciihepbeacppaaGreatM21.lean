import Derived.Test.YtciihepbeacppaaGreatM20
set_option maxRecDepth 100000
set_option maxHeartbeats 0
namespace Go.Proofs.YtciihepbeacppaaGreat
open Tryz Go.RowKit List World Below
set_option linter.unusedVariables false
theorem TY{c:Cd}{r:List CF × Sr}{g:CF}(h:(l7 c r g).2.ok=true)(hl:r.1.length<=il+1):(l7 c r g).1.length<=il+1:=by
 have h2:=(mW h).2;unfold l7;split
 .rename_i hn;have:=h2 hn;simp only[length_append,length_cons,length_nil];omega
 .exact hl
theorem vK{β:Type}(g:List CF × Sr->β->List CF × Sr)(hm:∀r b,(g r b).2.ok=true->r.2.ok=true)(hg:∀r b,(g r b).2.ok=true->r.1.length<=il+1->(g r b).1.length<=il+1):∀(l:List β) {r:List CF × Sr},(l.foldl g r).2.ok=true->r.1.length<=il+1->(l.foldl g r).1.length<=il+1
 |[],_,_,hl=>hl
 |b::l,r,h,hl=>vK g hm hg l h (hg r b (gb g hm l h) hl)
theorem za{c:Cd}{f:CF}(r:List CF × Sr)(i:Nat)(h:(eU c f r i).2.ok=true):r.2.ok=true:=gb (oS c f i) (λr b h=>vI r b h) _ h
theorem TZ{c:Cd}{f:CF}{i:Nat}(r:List CF × Sr)(a:Nat)(h:(oS c f i r a).2.ok=true)(hl:r.1.length<=il+1):(oS c f i r a).1.length<=il+1:=by
 unfold oS at h ⊢;split
 .rename_i hn;rw[if_pos hn]at h;exact vK (l7 c) (λr b h=>(mW h).1) (λr b h=>TY h) _ h hl
 .exact hl
theorem Ou{c:Cd}{f:CF}(r:List CF × Sr)(i:Nat)(h:(eU c f r i).2.ok=true)(hl:r.1.length<=il+1):(eU c f r i).1.length<=il+1 :=
 vK (oS c f i) (λr b h=>vI r b h) (λr b h=>TZ r b h) _ h hl
theorem Of{c:Cd}{g:CF}{r:List CF × Sr}{res:List CF}(h:(ud c g r res).2.2.ok=true):r.2.ok=true:=by
 unfold ud at h;split at h
 .exact h
 .exact gb (eU c g) (λr b h=>za r b h) _ h
theorem vG{c:Cd}:∀(n k:Nat) (res:List CF) (r:List CF × Sr),(ip c n k res r).2.ok=true->r.2.ok=true
 |0,_,_,_,h=>by simp[ip]at h
 |n+1,k,res,r,h=>by
  unfold ip at h;split at h
  .exact Of (vG n _ _ _ h)
  .exact h
theorem ar.wider{F F' G G':List Nat}{a b:World}(h:ar F a F' b)(h1:∀k∈F,k∈G)(h2:∀k∈G',k∈F'\/k∈G\/a.heap.size<=k):ar G a G' b :=
 ⟨h.os,h.tape,h.output,h.size,λk hk hn=>h.block k hk (λe=>hn (h1 k e)),λk hk=>by
  rcases h2 k hk with p|p|p
  .rcases h.foot k p with q|q
   .exact zq0 (h1 k q)
   .exact zq1 q
  .exact zq0 p
  .exact zq1 p⟩
structure Fg(w W:World)(B:Nat)(F0:List Nat)(S:Nat)(cs:List Value)(k:Nat)(vC:Value)(LC:List FE)(vR:Value)(LR:List FE):Prop where
 c:Fl W B vC LC
 r:Fl W B vR LR
 bs:Bk W S 229 cs
 sh:∀x∈LR,x∈LC.take k\/∀q∈x.bs,q ∉ be vC LC
 rv:∀q∈vR.ownBlock.toList,q ∉ be vC LC
 cv:∀q∈vC.ownBlock.toList,q ∉ be vR LR
 sc:S ∉ be vC LC
 sr:S ∉ be vR LR
 st:ar F0 w (S::(be vC LC++be vR LR)) W
 bb:B<=W.heap.size
theorem Ft{v:Value}{L:List FE}(h:(be v L).Nodup):(∀q∈v.ownBlock.toList,∀x∈L,q ∉ x.bs)/\∀{k:Nat} (hk:k<L.length),∀x∈L.take k,∀q∈x.bs,q ∉ L[k].bs:=by
 unfold be at h;rw[nodup_append]at h;refine⟨λq hq x hx hn=>h.2.2 q hq q (mem_flatMap.2 ⟨x,hx,hn⟩) rfl,fun {k} hk x hx q hq hn=>?_⟩;have h2:=h.2.1;rw[<-take_append_drop k L,flatMap_append,nodup_append]at h2;exact h2.2.2 q (mem_flatMap.2 ⟨x,hx,hq⟩) q (mem_flatMap.2 ⟨L[k],by rw[drop_eq_getElem_cons hk];exact mem_cons_self,hn⟩) rfl
section
variable {w W W':World} {B S k:Nat} {F0:List Nat} {cs cs':List Value} {vC vR:Value} {LC LR:List FE}
theorem Fg.below(h:Fg w W B F0 S cs k vC LC vR LR)(hb:Below W.heap.size W W'):Fg w W' B F0 S cs k vC LC vR LR :=
 ⟨h.c.below hb,h.r.below hb,h.bs.below hb,h.sh,h.rv,h.cv,h.sc,h.sr,h.st.trans (ar.ofBw hb),zq3 h.bb hb.size⟩
theorem Fg.app {g1 c1 k':Nat} {o:Obj} {x:FE} {W1:World} (h:Fg w W B F0 S cs k vC LC vR LR) (hk:k<=k') (hx:Fm W x.A x.f x.av x.ov) (hB:∀q∈x.bs,B<=q) (hd:∀q∈x.bs,q ∉ be vR LR/\q≠S/\q ∉ vC.ownBlock.toList) (hs:x∈LC.take k'\/∀q∈x.bs,q ∉ be vC LC) (h0:∀q∈x.bs,q∈be vC LC\/w.heap.size<=q)
  (aL:W1.ownsRow B 126 1 (.slice (some ⟨g1,0,none⟩) (LR.length+1) c1) (LR.length+1) (LR.map FE.p++[x.p])) (hg:(W.alloc o).grownBy W1 vR.ownBlock) (cB:some g1=vR.ownBlock\/g1=(W.alloc o).heap.size) :
  Fg w W1 B F0 S cs k' vC LC (.slice (some ⟨g1,0,none⟩) (LR.length+1) c1) (LR++[x]):=by
 obtain⟨a1,a2,a3⟩:=h.r.app hx hB (λq hq=>(hd q hq).1) h.bb aL hg cB;have hv:∀q∈vR.ownBlock.toList,q∈be vR LR:=λq hq=>mem_append_left _ hq;have Mu:∀q∈[g1],q ∉ be vC LC:=λq hq hn=>by
  rcases a2.foot q hq with p|p
  .exact h.rv q p hn
  .have:=h.c.lt q hn;omega
 refine⟨h.c.stp a2 (λq hq hn=>h.rv q hn hq),a1,h.bs.stp a2 (λhn=>h.sr (hv S hn)),λy hy=>?_,λq hq=>Mu q (by simpa[Value.ownBlock,eq_comm] using hq),λq hq hn=>?_,h.sc,λhn=>?_,?_,zq3 h.bb a2.size⟩
 .rcases mem_append.1 hy with p|p
  .rcases h.sh y p with q|q
   .exact zq0 (take_subset_take_left LC hk q)
   .exact zq1 q
  .rw[mem_singleton]at p;subst p;exact hs
 .rcases a3 q hn with p|p|p
  .exact h.cv q hq p
  .exact(hd q p).2.2 hq
  .have:=h.c.lt q (mem_append_left _ hq);omega
 .rcases a3 S hn with p|p|p
  .exact h.sr p
  .exact(hd S p).2.1 rfl
  .have:=h.bs.lt;omega
 .have h2:=h.st;refine⟨a2.os.trans h2.os,a2.tape.trans h2.tape,a2.output.trans h2.output,zq3 h2.size a2.size,λq hq hn=>?_,λq hq=>?_⟩
  .rw[a2.block q (zq6 hq h2.size) (λhm=>?_)]
   .exact h2.block q hq hn
   .rcases h2.foot q (mem_cons_of_mem _ (mem_append_right _ (hv q hm))) with p|p
    .exact hn p
    .omega
  .rcases mem_cons.1 hq with rfl|hq
   .exact h2.foot q (by simp)
   .rcases mem_append.1 hq with hq|hq
    .exact h2.foot q (mem_cons_of_mem _ (mem_append_left _ hq))
    .rcases a3 q hq with p|p|p
     .exact h2.foot q (mem_cons_of_mem _ (mem_append_right _ p))
     .rcases h0 q p with p|p
      .exact h2.foot q (mem_cons_of_mem _ (mem_append_left _ p))
      .exact zq1 p
     .exact zq1 (zq3 h2.size p)
theorem Fg.more{v':Value}{L':List FE}(h:Fg w W B F0 S cs k vC LC vR LR)(hk:k<=LC.length)(hc:Fl W' B v' (LC++L'))(hb:Bk W' S 229 cs')(hS:S ∉ be v' (LC++L'))(hs:ar (S::be vC LC) W (S::be v' (LC++L')) W'):Fg w W' B F0 S cs' k v' (LC++L') vR LR:=by
 have FU:∀q,q<W.heap.size->q≠S->q ∉ be vC LC->q ∉ be v' (LC++L'):=λq hq h1 h2 hn=>by
  rcases hs.foot q (mem_cons_of_mem _ hn) with p|p
  .rcases mem_cons.1 p with p|p
   .exact h1 p
   .exact h2 p
  .omega
 have pw:∀q∈be vR LR,q<W.heap.size/\q≠S:=λq hq=>⟨h.r.lt q hq,λe=>h.sr (by rw[<-e];exact hq)⟩;have Mu:∀q∈vR.ownBlock.toList,q ∉ be v' (LC++L'):=λq hq=>FU q (pw q (mem_append_left _ hq)).1 (pw q (mem_append_left _ hq)).2 (h.rv q hq);have lQ:∀x∈LR,(∀q∈x.bs,q ∉ be vC LC)->∀q∈x.bs,q ∉ be v' (LC++L'):=λx hx hf q hq=>by
  have hm:q∈be vR LR:=mem_append_right _ (mem_flatMap.2 ⟨x,hx,hq⟩);exact FU q (pw q hm).1 (pw q hm).2 (hf q hq)
 refine⟨hc,⟨ae h.r.row (λq hq=>?_),λx hx=>?_,h.r.ge,h.r.nd⟩,hb,λx hx=>?_,Mu,λq hq hn=>?_,hS,h.sr,?_,zq3 h.bb hs.size⟩
 .have hq':q∈vR.ownBlock.toList:=by simpa using hq
  refine hs.block q (pw q (mem_append_left _ hq')).1 (λhn=>?_);rcases mem_cons.1 hn with p|p
  .exact(pw q (mem_append_left _ hq')).2 p
  .exact h.rv q hq' p
 .rcases h.sh x hx with p|p
  .exact hc.fm x (mem_append_left _ (mem_of_mem_take p))
  .refine(h.r.fm x hx).of_eq (λq hq=>?_);have hm:q∈be vR LR:=mem_append_right _ (mem_flatMap.2 ⟨x,hx,hq⟩);refine hs.block q (pw q hm).1 (λhn=>?_);rcases mem_cons.1 hn with e|e
   .exact(pw q hm).2 e
   .exact p q hq e
 .rcases h.sh x hx with p|p
  .exact zq0 (by rw[take_append_of_le_length hk];exact p)
  .exact zq1 (lQ x hx p)
 .rcases mem_append.1 hn with p|p
  .exact Mu q p (mem_append_left _ hq)
  .obtain⟨x,hx,p⟩:=mem_flatMap.1 p;rcases h.sh x hx with r|r
   .exact(Ft hc.nd).1 q hq x (mem_append_left _ (mem_of_mem_take r)) p
   .exact lQ x hx r q p (mem_append_left _ hq)
 .refine h.st.trans (hs.wider (λq hq=>?_) (λq hq=>?_))
  .rcases mem_cons.1 hq with p|p
   .rw[p];simp
   .exact mem_cons_of_mem _ (mem_append_left _ p)
  .rcases mem_cons.1 hq with p|p
   .rw[p];simp
   .rcases mem_append.1 p with p|p
    .exact zq0 (mem_cons_of_mem _ p)
    .exact zq1 (zq0 (mem_cons_of_mem _ (mem_append_right _ p)))
theorem Fg.apart(h:Fg w W B F0 S cs k vC LC vR LR)(hk:k<LC.length):∀q∈LC[k].bs,q ∉ be vR LR/\q≠S/\q ∉ vC.ownBlock.toList:=by
 intro q hq;have hm:q∈be vC LC:=mem_append_right _ (mem_flatMap.2 ⟨LC[k],getElem_mem hk,hq⟩);refine⟨λhn=>?_,λe=>h.sc (by rw[<-e];exact hm),λhn=>(Ft h.c.nd).1 q hn _ (getElem_mem hk) hq⟩;rcases mem_append.1 hn with p|p
 .exact h.rv q p hm
 .obtain⟨x,hx,p⟩:=mem_flatMap.1 p;rcases h.sh x hx with r|r
  .exact(Ft h.c.nd).2 hk x r q p hq
  .exact r q p hm
end
theorem Lg{W:World}{B:Nat}{v:Value}{l:List Nat}(h:W.ownsRow B 3 1 v l.length (so l)){i:Nat}(hi:i<l.length):∃g cap,v=.slice (some ⟨g,0,none⟩) l.length cap/\W.cell? ⟨g,i,none⟩=some (.int .i64 (l[i]:Nat)):=by
 obtain⟨g,cap,hv,-,-,-⟩:=b8 h (by omega);subst hv;refine⟨g,cap,rfl,?_⟩;have:=h.cellAt i (by omega);rw[this];simp[so,hi]
theorem Zi{c:Cd}{n k:Nat}{res:List CF}{l:List CF}{s:Sr}(hk:k<l.length)(hf:s.fu=false):ip c (n+1) k res (l,s)=ip c n (k+1) (ud c l[k] (l,s) res).1 (ud c l[k] (l,s) res).2:=by
 have e:l.getD k ⟨[],[],[]⟩=l[k]:=by simp[List.getD,hk]
 show(if k<l.length/\s.fu=false then _ else _)=_;rw[if_pos ⟨hk,hf⟩];show ip c n (k+1) (ud c (l.getD k ⟨[],[],[]⟩) (l,s) res).1 (ud c (l.getD k ⟨[],[],[]⟩) (l,s) res).2=_;rw[e]
theorem If{c:Cd}{n k:Nat}{res:List CF}{l:List CF}{s:Sr}(h:¬ (k<l.length/\s.fu=false)):ip c (n+1) k res (l,s)=(res,s):=by
 show(if k<l.length/\s.fu=false then _ else _)=_;rw[if_neg h]
theorem Ii{w W:World}{B S k:Nat}{F0:List Nat}{c0 hv kv wv vC vR:Value}{lp:Bool}{lo:Int}{c:Cd}{s:Sr}{LC LR:List FE}{R:List CF × Sr}(h:Fg w W B F0 S (qt c0 hv lp kv wv c.bd s.lf lo s.fu) k vC LC vR LR)(hT:∀y∈LR,Td y.f)(hR:(LR.map (·.f),s)=R):
  ∃v' L',Ending.returned vR=.returned v'/\Fl W B v' L'/\(∀y∈L',Td y.f)/\L'.map (·.f)=R.1/\Bk W S 229 (qt c0 hv lp kv wv c.bd R.2.lf lo R.2.fu)/\S ∉ be v' L'/\ar F0 w (S::be v' L') W:=by
 subst hR;refine⟨vR,LR,rfl,h.r,hT,rfl,h.bs,h.sr,⟨h.st.os,h.st.tape,h.st.output,h.st.size,h.st.block,λq hq=>h.st.foot q ?_⟩⟩;rcases mem_cons.1 hq with p|p
 .rw[p];simp
 .exact mem_cons_of_mem _ (mem_append_right _ p)
section
variable {w:World} {B S:Nat} {c0 hv kv wv:Value} {lp:Bool} {lo:Int} {x:FE} {c:Cd} {s:Sr}
theorem CV(hS:Bk w S 229 (qt c0 hv lp kv wv c.bd s.lf lo s.fu))(hx:Fm w x.A x.f x.av x.ov)(hT:Td x.f)(cW:∀q∈x.bs,B<=q)(hSx:S ∉ x.bs)(hB:B<=w.heap.size)(n:Nat)(bm:(ip c n 0 [] ([x.f],s)).2.ok=true):
  Calls prog 202 #[.pointer (some ⟨S,0,none⟩),.pointer (some ⟨x.A,0,none⟩)] w λe w'=>∃v' L',e=.returned v'/\Fl w' B v' L'/\(∀y∈L',Td y.f)/\L'.map (·.f)=(ip c n 0 [] ([x.f],s)).1/\Bk w' S 229 (qt c0 hv lp kv wv c.bd (ip c n 0 [] ([x.f],s)).2.lf lo (ip c n 0 [] ([x.f],s)).2.fu)/\S ∉ be v' L'/\ar (S::x.bs) w (S::be v' L') w':=by
 obtain⟨i0,lr,gX,gy,gK⟩:=info_parts infoPF;obtain⟨R,hR⟩:∃R,R=ip c n 0 [] ([x.f],s):=⟨_,rfl⟩;rw[<-hR]at bm ⊢;obtain⟨W2,jt⟩:∃W2,W2=(w.alloc (.cells #[] 126)).alloc (.cells #[Value.pointer (some ⟨x.A,0,none⟩)] 126):=⟨_,rfl⟩;have hFg:Fg w W2 B (S::x.bs) S (qt c0 hv lp kv wv c.bd s.lf lo s.fu) 0 (.slice (some ⟨w.heap.size+1,0,none⟩) 1 1) [x] (.slice (some ⟨w.heap.size,0,none⟩) 0 0) []:=by
  have bz:=ah w (.cells #[] 126);have aW:=ah (w.alloc (.cells #[] 126)) (.cells #[Value.pointer (some ⟨x.A,0,none⟩)] 126);have hb:Below w.heap.size w W2:=by rw[jt];exact bz.trans (aW.mono bz.size)
  have SL:=hx.lt;have yr:=hS.lt;have hfc:∀q,q∈be (.slice (some ⟨w.heap.size+1,0,none⟩) 1 1) [x]↔q=w.heap.size+1\/q∈x.bs:=λq=>by simp[be,Value.ownBlock]
  have lQ:∀q,q∈be (.slice (some ⟨w.heap.size,0,none⟩) 0 0) []↔q=w.heap.size:=λq=>by simp[be,Value.ownBlock]
  have XL:∀q∈x.bs,q<w.heap.size:=λq hq=>hx.lt q hq;refine⟨⟨?_,λy hy=>?_,λy hy=>?_,?_⟩,⟨?_,λy hy=>by simp at hy,λy hy=>by simp at hy,by simp[be,Value.ownBlock]⟩,hS.below hb,λy hy=>by simp at hy,λq hq hn=>?_,λq hq hn=>?_,λhn=>?_,λhn=>?_,?_,zq3 hB hb.size⟩
  .rw[jt];have:=ownsRow_lit (base:=B) (e:=126) (size:=1) (w.alloc (.cells #[] 126)) #[Value.pointer (some ⟨x.A,0,none⟩)] 1 (by simp;omega) (by simp[maxLen]) rfl;simpa[FE.p] using this
  .rw[mem_singleton]at hy;subst hy;exact hx.below hb
  .rw[mem_singleton]at hy;subst hy;exact cW
  .show([w.heap.size+1]++[x].flatMap FE.bs).Nodup;rw[nodup_append];refine⟨by simp,by simpa[FE.bs] using hx.nd,λa ha b hb e=>?_⟩;rw[mem_singleton]at ha;have:=XL b (by simpa using hb);omega
  .rw[jt];exact dY ((ownsRow_lit (base:=w.heap.size) (e:=126) (size:=1) w #[] 0 (zq4 _) (by simp[maxLen]) rfl).alloc _) hB
  .have e:q=w.heap.size:=(by simpa[Value.ownBlock,eq_comm] using hq);rcases(hfc q).1 hn with p|p
   .omega
   .have:=XL q p;omega
  .have e:q=w.heap.size+1:=(by simpa[Value.ownBlock,eq_comm] using hq);have:=(lQ q).1 hn;omega
  .rcases(hfc S).1 hn with p|p
   .omega
   .exact hSx p
  .have:=(lQ S).1 hn;omega
  .refine⟨hb.os,hb.tape,hb.output,hb.size,λq hq hn=>hb.block q hq,λq hq=>?_⟩;rcases mem_cons.1 hq with rfl|hq
   .exact zq0 (by simp)
   .rcases mem_append.1 hq with p|p
    .rcases(hfc q).1 p with p|p
     .exact zq1 (by omega)
     .exact zq0 (mem_cons_of_mem _ p)
    .exact zq1 (by have:=(lQ q).1 p;omega)
 have mq:=ab bm;have hX1:w.heap.size+1=w.heap.size+1:=rfl;obtain⟨X,hX⟩:∃X,X=w.heap.size+1:=⟨_,rfl⟩;have cF:Hid (Fg w W2 B (S::x.bs) S (qt c0 hv lp kv wv c.bd s.lf lo s.fu) 0 (.slice (some ⟨X,0,none⟩) 1 1) [x] (.slice (some ⟨w.heap.size,0,none⟩) 0 0) []/\(∀y∈[x],Td y.f)/\(∀y∈([]:List FE),Td y.f)/\ip c n 0 (([]:List FE).map (·.f)) ([x].map (·.f),s)=R/\[x].length<=il+1/\0<=[x].length/\([]:List FE).length=0):=ab ⟨by rw[hX];exact hFg,λy hy=>by rw[mem_singleton]at hy;subst hy;exact hT,λy hy=>by simp at hy,hR.symm,by simp[il],by simp,rfl⟩;obtain⟨F0,FA⟩:∃F0,F0=S::x.bs:=⟨_,rfl⟩;rw[<-FA]at cF ⊢;clear hFg hS hx hT cW hSx bm hR hX1 FA;obtain⟨xa,xf,xav,xov⟩:=x;simp only at jt;go_enter func202,ntmps202;go_upto_region 3 with fail;rw[show w.heap.size+1=X from hX.symm,<-jt];clear jt hX;go_wp2_with fail
 go_loopg [5,6,7] n (λgn rv cv iv wx=>∃(k:Nat) (LC LR:List FE) (s':Sr),iv=.int .i64 k/\Hid (Fg w wx B F0 S (qt c0 hv lp kv wv c.bd s'.lf lo s'.fu) k cv LC rv LR/\(∀y∈LC,Td y.f)/\(∀y∈LR,Td y.f)/\ip c gn k (LR.map (·.f)) (LC.map (·.f),s')=R/\LC.length<=il+1/\k<=LC.length/\LR.length=k))
 case atStart=>exact⟨0,_,_,s,rfl,cF⟩
 case round =>
  clear cF;obtain⟨k,LC,LR,s',rfl,hI⟩:=hrel;obtain⟨G,hG⟩:∃G,G=gk:=⟨_,rfl⟩;obtain⟨la,lc,it,-,-⟩:=am (uh hI).1.c.row;subst it;obtain⟨ra,rc,Mu,-,-⟩:=am (uh hI).1.r.row;subst Mu;obtain⟨m,hm⟩:∃m,gk=m+1:=by
   cases hz:gk with
   |zero =>
    have h1:=(uh hI).2.2.2.1;have h2:=uh mq;rw[hz]at h1;rw[<-h1]at h2;simp[ip]at h2
   |succ m=>exact⟨m,rfl⟩
  have hlc:LC.length<=900001:=(uh hI).2.2.2.2.1;have gJ:k<=LC.length:=(uh hI).2.2.2.2.2.1;have WI:Hid (LR.length=k):=ab (uh hI).2.2.2.2.2.2;have pw:LR.length<=900001:=by rw[uh WI];omega
  have c8:=(uh hI).1.bs.cell 8 rfl;by_cases au:k<LC.length
  .have hd:decide ((k:Int)<(LC.length:Int))=true:=(by simp;omega);cases dX:s'.fu
   .rw[dX]at c8;have fj:=(uh hI).2.2.2.1;rw[hm,Zi (by rw[length_map];exact au) dX,getElem_map]at fj;obtain⟨g2,cap2,db,ax⟩:=(uh hI).1.c.pend.cell au;simp only[Value.slice.injEq,true_and]at db;obtain⟨rfl,rfl⟩:=db;have hyF:=(uh hI).1.c.fm _ (getElem_mem au);have hyB:=(uh hI).1.c.ge _ (getElem_mem au);have hyT:=(uh hI).2.1 _ (getElem_mem au);have eJ:=(uh hI).1.apart au;have hym:LC[k]∈LC:=getElem_mem au;have hyt:LC[k]∈LC.take (k+1):=(by rw[take_succ_eq_append_getElem au];exact mem_append_right _ mem_cons_self);obtain⟨y,hye⟩:∃y,y=LC[k]:=⟨_,rfl⟩;rw[<-hye]at ax hyF hyB hyT eJ hym hyt fj;have IN:y.p=.pointer (some ⟨y.A,0,none⟩):=rfl;rw[IN]at ax;have B4:=ab (wm hyF.is hyT.ok);have G8:=ab fj;have HYT:=ab hyT;have HYF:=ab hyF;have HYB:=ab hyB;have Ye:=ab eJ;have HYm:=ab hym;have HYt:=ab hyt;have HI:=ab (uh hI);have i1:(0:Int)<=(k:Int):=(by omega);have i2:(k:Int)<(LC.length:Int):=(by omega);clear fj hyF hyB hyT eJ hym hyt hye IN hI;go_wp2_with fail
    refine(uh B4).mono ?_;rintro e w3 ⟨gv,rfl,oU,dx⟩;have uU:=ab ((uh HI).1.below dx);have YF:=ab ((uh HYF).below dx);have hgb:∀q∈gv.ownBlock.toList,wr.heap.size<=q:=λq hq=>(oU.lt q (by simpa using hq)).1;have rK:=ab oU;obtain⟨ga,gc,dE,-,-⟩:=am oU;subst dE;have HGB:=ab hgb;clear oU hgb dx B4 c8 ax;by_cases jN:dc y.f=[]
    .have hl0:(((dc y.f).length:Int)==(0:Int))=true:=(by rw[jN];rfl);have FM:ip c m (k+1) (LR.map (·.f)++[y.f]) (LC.map (·.f),s')=R:=by
      have:=uh G8;unfold ud at this;rw[if_pos jN]at this;exact this
     have Ym:=ab FM;clear jN FM;have L4:Hid (w3.ownsRow B 126 1 (.slice ra LR.length rc) LR.length (LR.map FE.p)):=ab (uh uU).r.row;have KM:=(uh uU).bb;go_wp2_with (at_builtin;refine aS _ rfl (.tmp 37) (.tmp 39) 125 rfl B 126 i0 _ 1 8 underlying125 lr gX gy gK rfl (by decide) _ LR.length (LR.map FE.p) rfl ((uh L4).alloc _) ⟨_,0,none⟩ 1 [.pointer (some ⟨y.A,0,none⟩)] rfl rfl (aN _ _ (by simp) [.pointer (some ⟨y.A,0,none⟩)] _) (by intro u hu;simp only[mem_singleton]at hu;subst hu;rfl) (by omega) (by omega) (by simp;omega) ?_)
     intro g7 cap7 w7 iK dM gh;have KA:=(uh uU).app (x:=y) (k':=k+1) (g1:=g7) (c1:=cap7) (Nat.le_succ k) (uh YF) (uh HYB) (uh Ye) (zq0 (uh HYt)) (λq hq=>zq0 (mem_append_right _ (mem_flatMap.2 ⟨y,uh HYm,hq⟩))) iK dM (by simpa using gh);have HN:=ab (zq2 KA (zq2 (uh HI).2.1 (zq2 (fun(q:FE) (hq:q∈LR++[y])=>(mem_append.1 hq).elim ((uh HI).2.2.1 q) (λp=>(mem_singleton.1 p) ▸ uh HYT)) (zq2 (show ip c m (k+1) ((LR++[y]).map (·.f)) (LC.map (·.f),s')=R by rw[map_append];exact uh Ym) (zq2 (uh HI).2.2.2.2.1 (zq2 (show k+1<=LC.length by omega) (show(LR++[y]).length=k+1 by rw[length_append,uh WI];rfl)))))));clear iK dM gh KA HI;go_wp2_with fail
     go_roundg m
     case rel=>exact⟨k+1,LC,LR++[y],s',by go_num,HN⟩
     case measure=>omega
    .have hl0:(((dc y.f).length:Int)==(0:Int))=false:=by
      have:(dc y.f).length≠0:=λe=>jN (length_eq_zero_iff.1 e);simp;omega
     have FM:ip c m (k+1) (LR.map (·.f)++[RV y.f]) ((dc y.f).foldl (eU c y.f) (LC.map (·.f),s'))=R:=by
      have:=uh G8;unfold ud at this;rw[if_neg jN]at this;exact this
     obtain⟨R1,sZ⟩:∃R1,R1=(dc y.f).foldl (eU c y.f) (LC.map (·.f),s'):=⟨_,rfl⟩;rw[<-sZ]at FM;have Yw:=ab sZ;have Ym:=ab FM;have Yv:Hid (R1.2.ok=true):=ab (vG m (k+1) _ R1 (by rw[FM];exact uh mq));have HWO:=ab (LU (uh YF).is (uh HYT).ok (zq3 (uh HYT).ln (by omega)));clear jN FM sZ;go_wp2_with fail
     refine(uh HWO).mono ?_;rintro e w4 ⟨A4,rfl,av4,ov4,r9,afT,nU⟩;have S7:=ab ((uh uU).below nU);have WH:Hid (w4.ownsRow B 126 1 (.slice ra LR.length rc) LR.length (LR.map FE.p)):=ab (uh S7).r.row;have Z2:=(uh S7).bb;have Yq:=ab (ae (uh rK) (λq hq=>nU.block q ((uh rK).lt q hq).2));have SC:∀q∈aG A4 av4 ov4,(q ∉ be (.slice ra LR.length rc) LR/\q≠S/\q ∉ (Value.slice (some ⟨g2,0,none⟩) LC.length lc).ownBlock.toList)/\q ∉ be (.slice (some ⟨g2,0,none⟩) LC.length lc) LC/\w.heap.size<=q/\B<=q:=λq hq=>by
      have h1:=afT q hq;refine⟨⟨λhn=>?_,λe=>?_,λhn=>?_⟩,λhn=>?_,zq3 (uh uU).st.size h1,zq3 (uh uU).bb h1⟩
      .have:=(uh uU).r.lt q hn;omega
      .have:=(uh uU).bs.lt;omega
      .have:=(uh uU).c.lt q (mem_append_left _ hn);omega
      .have:=(uh uU).c.lt q hn;omega
     have Wy:=ab r9;have MH:=ab SC;clear r9 afT nU SC HWO rK uU YF;go_wp2_with (at_builtin;refine aS _ rfl (.tmp 41) (.tmp 44) 125 rfl B 126 i0 _ 1 8 underlying125 lr gX gy gK rfl (by decide) _ LR.length (LR.map FE.p) rfl ((uh WH).alloc _) ⟨_,0,none⟩ 1 [.pointer (some ⟨A4,0,none⟩)] rfl rfl (aN _ _ (by simp) [.pointer (some ⟨A4,0,none⟩)] _) (by intro u hu;simp only[mem_singleton]at hu;subst hu;rfl) (by omega) (by omega) (by simp;omega) ?_)
     intro g7 cap7 w7 iK dM gh;have zm:=lI dM (by simpa using gh);have KA:=(uh S7).app (x:=⟨A4,RV y.f,av4,ov4⟩) (k':=k+1) (g1:=g7) (c1:=cap7) (Nat.le_succ k) (uh Wy) (λq hq=>(uh MH q hq).2.2.2) (λq hq=>(uh MH q hq).1) (zq1 (λq hq=>(uh MH q hq).2.1)) (λq hq=>zq1 (uh MH q hq).2.2.1) iK dM (by simpa using gh);have ZF:=ae (uh Yq) (λq hq=>zm.block q ((uh Yq).lt q hq).2 (λhn=>by
      have h1:=uh HGB q (by simpa using hq);have h2:=(uh HI).1.r.lt q (mem_append_left _ hn);omega))
     have ae0:∀q∈(Value.slice ga (dc y.f).length gc).ownBlock.toList,q ∉ be (.slice (some ⟨g2,0,none⟩) LC.length lc) LC/\q≠S:=λq hq=>by
      have h1:=uh HGB q hq;exact⟨λhn=>by have:=(uh HI).1.c.lt q hn;omega,λe=>by have:=(uh HI).1.bs.lt;omega⟩
     obtain⟨z,hz⟩:∃z:FE,z=⟨A4,RV y.f,av4,ov4⟩:=⟨_,rfl⟩;rw[<-hz]at KA;have HZ:Hid (z.f=RV y.f):=ab (by rw[hz]);obtain⟨B3,Uf⟩:∃B3,B3=wr.heap.size:=⟨_,rfl⟩;rw[<-Uf]at ZF;have oO:=ab (zq2 KA (zq2 ZF (zq2 ae0 (zq2 (uh HI).2.1 (zq2 (show((dc y.f).drop 0).foldl (eU c y.f) (LC.map (·.f),s')=R1 from (uh Yw).symm) (zq2 (uh HI).2.2.2.2.1 (zq2 (show k+1<=LC.length by omega) (uh HYm))))))));clear iK dM gh zm KA ZF ae0 hz Uf S7 WH Yq Wy MH Ye HYF HYm;have vU:=I8 (uh HYT).ok;go_wp2_with fail
     go_loopg [6,48] (dc y.f).length (λgn cv iv wx=>∃(j:Nat) (LD:List FE) (sa:Sr),j+gn=(dc y.f).length/\iv=.int .i64 j/\Hid (Fg w wx B F0 S (qt c0 hv lp kv wv c.bd sa.lf lo sa.fu) (k+1) cv LD (.slice (some ⟨g7,0,none⟩) (LR.length+1) cap7) (LR++[z])/\wx.ownsRow B3 3 1 (.slice ga (dc y.f).length gc) (dc y.f).length (so (dc y.f))/\(∀q∈(Value.slice ga (dc y.f).length gc).ownBlock.toList,q ∉ be cv LD/\q≠S)/\(∀y∈LD,Td y.f)/\((dc y.f).drop j).foldl (eU c y.f) (LD.map (·.f),sa)=R1/\LD.length<=il+1/\k+1<=LD.length/\y∈LD))
     case atStart=>exact⟨0,LC,s',by omega,rfl,oO⟩
     case round =>
      clear oO;obtain⟨j,LD,sa,Co,rfl,hJ⟩:=hrel;obtain⟨G2,FB⟩:∃G2,G2=gk:=⟨_,rfl⟩;by_cases fT:j<(dc y.f).length
      .have kY:decide ((j:Int)<((dc y.f).length:Int))=true:=(by simp;omega);obtain⟨g3,cap3,afX,ax⟩:=Lg (uh hJ).2.1 fT;simp only[Value.slice.injEq,true_and]at afX;obtain⟨rfl,rfl⟩:=afX;have nX:(dc y.f).drop j=(dc y.f)[j]::(dc y.f).drop (j+1):=drop_eq_getElem_cons fT;have hjo:(dc y.f)[j]<y.f.ow.length:=by
        have:=getElem_mem fT;unfold dc at this;rw[mem_filter,mem_range]at this;exact this.1
       have fj:=(uh hJ).2.2.2.2.1;rw[nX,foldl_cons]at fj;obtain⟨i,hi⟩:∃i,i=(dc y.f)[j]:=⟨_,rfl⟩;rw[<-hi]at fj hjo ax;have aaq:(eU c y.f (LD.map (·.f),sa) i).2.ok=true:=gb (eU c y.f) (λr b h=>za r b h) ((dc y.f).drop (j+1)) (by rw[fj];exact uh Yv);have HFD:=ab (Ku (c:=c) (s:=sa) (x:=y) (i:=i) (L:=LD) (uh hJ).1.bs (uh hJ).1.c (uh hJ).2.2.2.1 (uh hJ).2.2.2.2.2.2.2 (uh hJ).1.sc (uh hJ).1.bb hjo aaq);have alB:(LD.map (λq:FE=>q.f)).length=LD.length:=length_map _;have HLE:Hid ((eU c y.f (LD.map (·.f),sa) i).1.length<=il+1):=ab (by
        refine Ou _ i aaq ?_;show(LD.map (λq:FE=>q.f)).length<=il+1;have h9:=(uh hJ).2.2.2.2.2.1;omega)
       obtain⟨R2,ZQ⟩:∃R2,R2=eU c y.f (LD.map (·.f),sa) i:=⟨_,rfl⟩;rw[<-ZQ]at HFD HLE fj;have HFo:=ab fj;have HJ:=ab (uh hJ);have k1:(0:Int)<=(j:Int):=(by omega);have k2:(j:Int)<((dc y.f).length:Int):=(by omega);clear nX hjo fj hi aaq ZQ hJ alB;go_wp2_with fail
       refine(uh HFD).mono ?_;rintro e w8 ⟨v8,L8,rfl,afP,agQ,Pu,O2,C5,II⟩;have aeY:=(uh HJ).1.more (uh HJ).2.2.2.2.2.2.1 afP O2 C5 II;have Dn:∀q∈(Value.slice (some ⟨g3,0,none⟩) (dc y.f).length gc).ownBlock.toList,q ∉ S::be u6 LD:=λq hq hn=>by
        rcases mem_cons.1 hn with p|p
        .exact((uh HJ).2.2.1 q hq).2 p
        .exact((uh HJ).2.2.1 q hq).1 p
       have ae2:=ae (uh HJ).2.1 (λq hq=>II.block q ((uh HJ).2.1.lt q hq).2 (Dn q (by simpa using hq)));have ae1:∀q∈(Value.slice (some ⟨g3,0,none⟩) (dc y.f).length gc).ownBlock.toList,q ∉ be v8 (LD++L8)/\q≠S:=λq hq=>⟨λhn=>by
        rcases II.foot q (mem_cons_of_mem _ hn) with p|p
        .exact Dn q hq p
        .have:=((uh HJ).2.1.lt q (by simpa using hq)).2;omega,((uh HJ).2.2.1 q hq).2⟩
       have afp:∀q∈LD++L8,Td q.f:=λq hq=>(mem_append.1 hq).elim ((uh HJ).2.2.2.1 q) (agQ q);have agi:(LD++L8).length<=il+1:=by
        have:=uh HLE;rw[<-Pu,length_map]at this;exact this
       have O9:((dc y.f).drop (j+1)).foldl (eU c y.f) ((LD++L8).map (·.f),R2.2)=R1:=(by rw[Pu];exact uh HFo);have HN:=ab (zq2 aeY (zq2 ae2 (zq2 ae1 (zq2 afp (zq2 O9 (zq2 agi (zq2 (show k+1<=(LD++L8).length by rw[length_append];have:=(uh HJ).2.2.2.2.2.2.1;omega) (show y∈LD++L8 from mem_append_left _ (uh HJ).2.2.2.2.2.2.2))))))));clear afP agQ Pu O2 C5 II aeY Dn ae2 ae1 afp agi O9 HJ HFD HLE HFo;go_wp2_with fail
       go_roundg (G2-1)
       case rel=>exact⟨j+1,LD++L8,R2.2,by omega,by go_num,HN⟩
       case measure=>omega
      .have kY:decide ((j:Int)<((dc y.f).length:Int))=false:=(by simp;omega);have K9:(LD.map (·.f),sa)=R1:=by
        have:=(uh hJ).2.2.2.2.1;rw[drop_eq_nil_of_le (by omega)]at this;exact this
       have HN:=ab (zq2 (uh hJ).1 (zq2 (uh hJ).2.2.2.1 (zq2 (fun(q:FE) (hq:q∈LR++[z])=>(mem_append.1 hq).elim ((uh HI).2.2.1 q) (λp=>by rw[mem_singleton.1 p,uh HZ];exact GR (uh HYT).ok)) (zq2 (show ip c m (k+1) ((LR++[z]).map (·.f)) (LD.map (·.f),sa)=R by rw[K9,map_append,map_singleton,uh HZ];exact uh Ym) (zq2 (uh hJ).2.2.2.2.2.1 (zq2 (uh hJ).2.2.2.2.2.2.1 (show(LR++[z]).length=k+1 by rw[length_append,uh WI];rfl)))))));clear K9 hJ;go_wp2_with fail
       go_roundg m
       case rel=>exact⟨k+1,LD,LR++[z],sa,by go_num,HN⟩
       case measure=>omega
   .rw[dX]at c8;have fj:=(uh hI).2.2.2.1;rw[hm,If (λh=>by rw[dX]at h;cases h.2)]at fj;have G8:=ab fj;clear fj;go_wp2_with fail
    go_ret;obtain⟨v',L',h1,h2,h3,h4,h5,h6,h7⟩:=Ii (uh hI).1 (uh hI).2.2.1 (uh G8);exact⟨v',h1,L',h2,h3,h4,h5,h6,h7⟩
  .have hd:decide ((k:Int)<(LC.length:Int))=false:=(by simp;omega);have fj:=(uh hI).2.2.2.1;rw[hm,If (λh=>au (by simpa using h.1))]at fj;have G8:=ab fj;clear fj;go_wp2_with fail
   go_ret;obtain⟨v',L',h1,h2,h3,h4,h5,h6,h7⟩:=Ii (uh hI).1 (uh hI).2.2.1 (uh G8);exact⟨v',h1,L',h2,h3,h4,h5,h6,h7⟩
end
theorem Zo{c:Cd}(r:List CF × Sr)(g:CF):(l7 c r g).2.lo=r.2.lo:=by unfold l7;split <;> rfl
theorem ui{β:Type}(g:List CF × Sr->β->List CF × Sr)(hg:∀r b,(g r b).2.lo=r.2.lo):∀(l:List β) (r:List CF × Sr),(l.foldl g r).2.lo=r.2.lo
 |[],_=>rfl
 |b::l,r=>(ui g hg l (g r b)).trans (hg r b)
theorem Zr{c:Cd}{f:CF}{i:Nat}(r:List CF × Sr)(a:Nat):(oS c f i r a).2.lo=r.2.lo:=by
 unfold oS;split
 .exact ui _ Zo _ _
 .rfl
theorem T1{c:Cd}{f:CF}(r:List CF × Sr)(i:Nat):(eU c f r i).2.lo=r.2.lo:=ui _ Zr _ _
theorem Oc{c:Cd}:∀(n k:Nat) (res:List CF) (r:List CF × Sr),(ip c n k res r).2.lo=r.2.lo
 |0,_,_,_=>rfl
 |n+1,k,res,r=>by
  unfold ip;split
  .rw[Oc n];unfold ud;split
   .rfl
   .exact ui _ T1 _ _
  .rfl
theorem og{c:Cd}{n:Nat}{f:CF}{s:Sr}(h:(bu c n f s).ok=true):s.ok=true/\(bq s n).length<=tD:=by
 have h1:(s.ok&&decide ((bq s n).length<=tD))=true:=by
  unfold bu at h;split at h
  .exact h
  .exact h
 rw[Bool.and_eq_true,decide_eq_true_eq]at h1;exact h1
theorem jw{c:Cd}{n:Nat}:∀(l:List CF) {s:Sr},(l.foldl (λs g=>bu c n g s) s).ok=true->s.ok=true
 |[],_,h=>h
 |_::l,_,h=>(og (jw l h)).1
theorem M9{c:Cd}{fuel a b:Nat}{f:CF}{s:Sr}(h:(dU c fuel a b f s).ok=true):s.ok=true:=by
 unfold dU at h;split at h
 .exact(og h).1
 .have h1:=jw _ h;exact vG fuel 0 [] ([f],kO a 2 s) h1
theorem eR{c:Cd}{fuel a b:Nat}:∀(l:List CF) {s:Sr},(l.foldl (λs g=>dU c fuel a b g s) s).ok=true->s.ok=true
 |[],_,h=>h
 |_::l,_,h=>M9 (eR l h)
def Apt(O:List (Option Nat)):Prop:=∀i j k:Nat,O[i]?=some (some k)->O[j]?=some (some k)->i=j
def T8(O:List (Option Nat)):List Nat:=O.filterMap id
theorem aU{O:List (Option Nat)}{k:Nat}:k∈T8 O↔∃i:Nat,O[i]?=some (some k):=by
 unfold T8;rw[mem_filterMap];constructor
 .rintro⟨a,ha,e⟩;obtain⟨i,hi⟩:=mem_iff_getElem?.1 ha;exact⟨i,by rw[hi];exact congrArg some e⟩
 .rintro⟨i,hi⟩;exact⟨some k,mem_of_getElem? hi,rfl⟩
theorem Apt.set{O:List (Option Nat)}(h:Apt O)(p:Nat){o:Option Nat}(ho:∀k,o=some k->O[p]?=some (some k)\/∀j:Nat,O[j]?≠some (some k)):Apt (O.set p o):=by
 intro i j k hi hj;rw[getElem?_set]at hi hj;by_cases e1:p=i
 .by_cases e2:p=j
  .exact e1.symm.trans e2
  .rw[if_pos e1]at hi;rw[if_neg e2]at hj;split at hi
   .simp only[Option.some.injEq]at hi;rcases ho k hi with q|q
    .exact e1.symm.trans (h _ _ _ q hj)
    .exact absurd hj (q j)
   .simp at hi
 .rw[if_neg e1]at hi;by_cases e2:p=j
  .rw[if_pos e2]at hj;split at hj
   .simp only[Option.some.injEq]at hj;rcases ho k hj with q|q
    .exact(h _ _ _ hi q).trans e2
    .exact absurd hi (q i)
   .simp at hj
  .rw[if_neg e2]at hj;exact h _ _ _ hi hj
def aJ:Value:=.slice none 0 0
structure En where
 D:Nat
 x:FE
 d:Bool
def En.bs(e:En):List Nat:=e.D::e.x.bs
def En.c(e:En):List Value:=[.pointer (some ⟨e.D,0,none⟩),.bool e.d]
def En.m(e:En):ig:=⟨e.x.f,e.d⟩
def rF(L:List En):List Value:=L.flatMap En.c
def En.ok(w:World)(e:En):Prop:=rB w e.D e.x.A e.x.f e.x.av e.x.ov/\Td e.x.f
theorem TQ(L:List En):(rF L).length=L.length*2:=by
 induction L with
 |nil=>rfl
 |cons a L ih =>
  unfold rF at ih ⊢;rw[flatMap_cons,length_append,ih,length_cons];show 2+_=_;omega
theorem TP(L M:List En):rF (L++M)=rF L++rF M:=by unfold rF;rw[flatMap_append]
theorem NZ(L:List En)(k:Nat):(rF L).take (k*2)=rF (L.take k):=by
 induction L generalizing k with
 |nil=>simp[rF]
 |cons a L ih =>
  cases k with
  |zero=>simp[rF]
  |succ k =>
   have:=ih k;unfold rF at this ⊢;rw[take_succ_cons,flatMap_cons,flatMap_cons,<-this,show(k+1)*2=(k*2)+1+1 by omega];rfl
theorem qC{L:List En}{i:Nat}(hi:i<L.length):(rF L)[i*2]?=some (.pointer (some ⟨L[i].D,0,none⟩))/\(rF L)[i*2+1]?=some (.bool L[i].d):=by
 induction L generalizing i with
 |nil=>simp at hi
 |cons a L ih =>
  cases i with
  |zero=>exact⟨rfl,rfl⟩
  |succ i =>
   have:=ih (i:=i) (by simpa using hi);unfold rF at this ⊢;rw[flatMap_cons,show(i+1)*2=(i*2)+1+1 by omega,show i*2+1+1+1=(i*2+1)+1+1 by omega];exact this
theorem Id{L:List En}{i:Nat}(hi:i<L.length)(e:En):((rF L).set (i*2) (.pointer (some ⟨e.D,0,none⟩))).set (i*2+1) (.bool e.d)=rF (L.set i e):=by
 induction L generalizing i with
 |nil=>simp at hi
 |cons a L ih =>
  cases i with
  |zero=>rfl
  |succ i =>
   have:=ih (i:=i) (by simpa using hi);unfold rF at this ⊢;rw[set_cons_succ,flatMap_cons,flatMap_cons,<-this,show(i+1)*2=(i*2)+1+1 by omega,show i*2+1+1+1=(i*2+1)+1+1 by omega];rfl
def pA(S:Nat)(hv kv wv:Value)(KV WV:List Value):List (Option Nat):=some S::hv.ownBlock::kv.ownBlock::wv.ownBlock::(KV.map Value.ownBlock++WV.map Value.ownBlock)
def cY(S:Nat)(hv kv wv:Value)(KV WV:List Value):List Nat:=T8 (pA S hv kv wv KV WV)
def er(K:List (List En)):List Nat:=K.flatMap (λl=>l.flatMap En.bs)
theorem bB{K:List (List En)}{k:Nat}:k∈er K↔∃l∈K,∃e∈l,k∈e.bs:=by
 unfold er;simp only[mem_flatMap]
structure Sh(w:World)(S:Nat)(c:Cd)(c0 hv kv wv:Value)(KV WV:List Value)(K:List (List En))(s:Sr):Prop where
 bs:Bk w S 229 (qt c0 hv c.lp kv wv c.bd s.lf s.lo s.fu)
 hr:w.ownsRow 0 4 1 hv c.hd.length (dl c.hd)
 kr:w.ownsRow 0 255 1 kv K.length KV
 ke:∀i,i<K.length->w.ownsRow 0 258 2 (KV.getD i aJ) (K.getD i []).length (rF (K.getD i []))
 wr:w.ownsRow 0 200 1 wv K.length WV
 we:∀i,i<K.length->w.ownsRow 0 4 1 (WV.getD i aJ) 5 (dl (s.wr.getD i []))
 wl:s.wr.length=K.length
 hl:c.hd.length=K.length
 nl:c.nds.length=K.length
 km:s.kn=K.map (λl=>l.map En.m)
 dr:∀l∈K,∀e∈l,e.ok w
 nd:Apt (pA S hv kv wv KV WV)
 da:∀k∈er K,k ∉ cY S hv kv wv KV WV
section
variable {w w':World} {S:Nat} {c:Cd} {c0 hv kv wv:Value} {KV WV:List Value} {K:List (List En)} {s:Sr}
theorem Sh.kvl(h:Sh w S c c0 hv kv wv KV WV K s):KV.length=K.length:=by have:=h.kr.1;omega
theorem Sh.wvl(h:Sh w S c c0 hv kv wv KV WV K s):WV.length=K.length:=by have:=h.wr.1;omega
theorem yx{i:Nat}(hi:i<KV.length):(pA S hv kv wv KV WV)[4+i]?=some (KV.getD i aJ).ownBlock:=by
 unfold pA;rw[show 4+i=i+1+1+1+1 by omega];simp only[getElem?_cons_succ];rw[getElem?_append_left (by simpa using hi)];simp[hi]
theorem Bw{i:Nat}(hi:i<WV.length):(pA S hv kv wv KV WV)[4+(KV.length+i)]?=some (WV.getD i aJ).ownBlock:=by
 unfold pA;rw[show 4+(KV.length+i)=(KV.length+i)+1+1+1+1 by omega];simp only[getElem?_cons_succ];rw[getElem?_append_right (by simp)];simp[hi]
theorem Gt{n:Nat}(v:Value)(hn:n<KV.length):pA S hv kv wv (KV.set n v) WV=(pA S hv kv wv KV WV).set (4+n) v.ownBlock:=by
 unfold pA;rw[show 4+n=n+1+1+1+1 by omega];simp only[set_cons_succ];rw[set_append_left _ _ (by simpa using hn),map_set]
theorem Qv{i k:Nat}(h:(pA S hv kv wv KV WV)[i]?=some (some k)):i=0/\k=S\/i=1/\hv.ownBlock=some k\/i=2/\kv.ownBlock=some k\/i=3/\wv.ownBlock=some k\/(∃j,j<KV.length/\i=4+j/\(KV.getD j aJ).ownBlock=some k)\/∃j,j<WV.length/\i=4+(KV.length+j)/\(WV.getD j aJ).ownBlock=some k:=by
 unfold pA at h;match i with
 |0=>left;simpa[eq_comm] using h
 |1=>right;left;simpa using h
 |2=>right;right;left;simpa using h
 |3=>right;right;right;left;simpa using h
 |i+4 =>
  simp only[getElem?_cons_succ]at h;by_cases hl:i<KV.length
  .right;right;right;right;left;rw[getElem?_append_left (by simpa using hl)]at h;refine⟨i,hl,by omega,?_⟩;simpa[hl] using h
  .right;right;right;right;right;rw[getElem?_append_right (by simp;omega)]at h;have ym:i-KV.length<WV.length:=by
    have:=(List.getElem?_eq_some_iff.1 h).1;simpa using this
   refine⟨i-KV.length,ym,by omega,?_⟩;simpa[ym] using h
theorem Sh.lt(h:Sh w S c c0 hv kv wv KV WV K s):∀k∈cY S hv kv wv KV WV,k<w.heap.size:=by
 intro k hk;obtain⟨i,hi⟩:=aU.1 hk;rcases Qv hi with⟨-,rfl⟩|⟨-,e⟩|⟨-,e⟩|⟨-,e⟩|⟨j,hj,-,e⟩|⟨j,hj,-,e⟩
 .exact h.bs.lt
 .exact(h.hr.lt k e).2
 .exact(h.kr.lt k e).2
 .exact(h.wr.lt k e).2
 .exact((h.ke j (by rw[<-h.kvl];exact hj)).lt k e).2
 .exact((h.we j (by rw[<-h.wvl];exact hj)).lt k e).2
theorem Sh.drlt(h:Sh w S c c0 hv kv wv KV WV K s):∀k∈er K,k<w.heap.size:=by
 intro k hk;obtain⟨l,hl,e,he,hk⟩:=bB.1 hk;exact(h.dr l hl e he).1.lt k hk
theorem bP{i k:Nat}(h:(pA S hv kv wv KV WV)[i]?=some (some k)):k∈cY S hv kv wv KV WV:=aU.2 ⟨i,h⟩
theorem gN:S∈cY S hv kv wv KV WV:=bP (i:=0) rfl
theorem En.ok.of_eq{e:En}(h:e.ok w)(he:∀k∈e.bs,w'.heap[k]?=w.heap[k]?):e.ok w':=⟨h.1.of_eq he,h.2⟩
theorem Sh.of_eq(h:Sh w S c c0 hv kv wv KV WV K s)(he:∀k∈cY S hv kv wv KV WV,w'.heap[k]?=w.heap[k]?)(hd:∀k∈er K,w'.heap[k]?=w.heap[k]?):Sh w' S c c0 hv kv wv KV WV K s:=by
 have hK:=h.kvl;have hW:=h.wvl;refine⟨h.bs.of_eq (he S gN),ae h.hr (λk hk=>he k (bP (i:=1) (congrArg some hk))),ae h.kr (λk hk=>he k (bP (i:=2) (congrArg some hk))),λi hi=>ae (h.ke i hi) (λk hk=>he k (bP ((yx (by omega)).trans (congrArg some hk)))),ae h.wr (λk hk=>he k (bP (i:=3) (congrArg some hk))),λi hi=>ae (h.we i hi) (λk hk=>he k (bP ((Bw (by omega)).trans (congrArg some hk)))),h.wl,h.hl,h.nl,h.km,λl hl e mI=>(h.dr l hl e mI).of_eq (λk hk=>hd k (bB.2 ⟨l,hl,e,mI,hk⟩)),h.nd,h.da⟩
theorem Sh.below(h:Sh w S c c0 hv kv wv KV WV K s)(hb:Below w.heap.size w w'):Sh w' S c c0 hv kv wv KV WV K s:=h.of_eq (λk hk=>hb.block k (h.lt k hk)) (λk hk=>hb.block k (h.drlt k hk))
theorem Sh.stp{F F':List Nat}(h:Sh w S c c0 hv kv wv KV WV K s)(hs:ar F w F' w')(h1:∀k∈cY S hv kv wv KV WV,k ∉ F)(h2:∀k∈er K,k ∉ F):Sh w' S c c0 hv kv wv KV WV K s:=h.of_eq (λk hk=>hs.block k (h.lt k hk) (h1 k hk)) (λk hk=>hs.block k (h.drlt k hk) (h2 k hk))
theorem Sh.own{F F':List Nat}(h:Sh w S c c0 hv kv wv KV WV K s){s':Sr}(hb:Bk w' S 229 (qt c0 hv c.lp kv wv c.bd s'.lf s'.lo s'.fu))(hs:ar F w F' w')(hF:∀k∈F,k=S\/k ∉ cY S hv kv wv KV WV/\k ∉ er K)(e1:s'.kn=s.kn)(e2:s'.wr=s.wr):Sh w' S c c0 hv kv wv KV WV K s':=by
 have aH:∀i k,i≠0->(pA S hv kv wv KV WV)[i]?=some (some k)->w'.heap[k]?=w.heap[k]?:=λi k lr hi =>
  hs.block k (h.lt k (bP hi)) (λhk=>by
   rcases hF k hk with p|p
   .subst p;exact lr (h.nd i 0 k hi rfl)
   .exact p.1 (bP hi))
 have hK:=h.kvl;have hW:=h.wvl;refine⟨hb,ae h.hr (λk hk=>aH 1 k (by omega) (congrArg some hk)),ae h.kr (λk hk=>aH 2 k (by omega) (congrArg some hk)),λi hi=>ae (h.ke i hi) (λk hk=>aH _ k (by omega) ((yx (by omega)).trans (congrArg some hk))),ae h.wr (λk hk=>aH 3 k (by omega) (congrArg some hk)),λi hi=>?_,by rw[e2];exact h.wl,h.hl,h.nl,by rw[e1];exact h.km,λl hl e mI=>(h.dr l hl e mI).of_eq (λk hk=>?_),h.nd,h.da⟩
 .rw[e2];exact ae (h.we i hi) (λk hk=>aH _ k (by omega) ((Bw (by omega)).trans (congrArg some hk)))
 .have hm:=bB.2 ⟨l,hl,e,mI,hk⟩;refine hs.block k (h.drlt k hm) (λhq=>?_);rcases hF k hq with p|p
  .exact h.da k hm (by rw[p];exact gN)
  .exact p.2 hm
theorem Sh.put (h:Sh w S c c0 hv kv wv KV WV K s) {n:Nat} (hn:n<K.length) {v':Value} {l':List En} (he:∀i k,i≠2->i≠4+n->(pA S hv kv wv KV WV)[i]?=some (some k)->w'.heap[k]?=w.heap[k]?)
  (hk:w'.ownsRow 0 255 1 kv K.length (KV.set n v')) (hr:w'.ownsRow 0 258 2 v' l'.length (rF l')) (hv':∀k,v'.ownBlock=some k->(KV.getD n aJ).ownBlock=some k\/w.heap.size<=k)
  (hd:∀k∈er K,w'.heap[k]?=w.heap[k]?) (hl:∀e∈l',e.ok w'/\∀k∈e.bs,k ∉ cY S hv kv wv (KV.set n v') WV):Sh w' S c c0 hv kv wv (KV.set n v') WV (K.set n l') { s with kn:=s.kn.set n (l'.map En.m) }:=by
 have hK:=h.kvl;have hW:=h.wvl;have hnK:n<KV.length:=by omega
 have uo:∀k∈cY S hv kv wv (KV.set n v') WV,k∈cY S hv kv wv KV WV\/w.heap.size<=k:=λk hk=>by
  obtain⟨i,hi⟩:=aU.1 hk;rw[Gt v' hnK,getElem?_set]at hi;split at hi
  .rename_i e;split at hi
   .simp only[Option.some.injEq]at hi;rcases hv' k hi with q|q
    .exact zq0 (bP ((yx hnK).trans (congrArg some q)))
    .exact zq1 q
   .simp at hi
  .exact zq0 (bP hi)
 have zg:(K.set n l').length=K.length:=length_set;refine⟨h.bs.of_eq (he 0 S (by omega) (by omega) rfl),ae h.hr (λk hk=>he 1 k (by omega) (by omega) (congrArg some hk)),by rw[zg];exact hk,λi hi=>?_,by rw[zg];exact ae h.wr (λk hk=>he 3 k (by omega) (by omega) (congrArg some hk)),λi hi=>?_,by rw[zg];exact h.wl,by rw[zg];exact h.hl,by rw[zg];exact h.nl,?_,λl ym e mI=>?_,?_,λk hk hm=>?_⟩
 .rw[zg]at hi;by_cases e:i=n
  .subst e;have e1:(KV.set i v').getD i aJ=v':=(by simp[hnK]);have e2:(K.set i l').getD i []=l':=(by simp[hn]);rw[e1,e2];exact hr
  .have e1:(KV.set n v').getD i aJ=KV.getD i aJ:=by
    rw[getD_eq_getElem?_getD,getElem?_set_ne (λe'=>e e'.symm),<-getD_eq_getElem?_getD]
   have e2:(K.set n l').getD i []=K.getD i []:=by
    rw[getD_eq_getElem?_getD,getElem?_set_ne (λe'=>e e'.symm),<-getD_eq_getElem?_getD]
   rw[e1,e2];exact ae (h.ke i hi) (λk hk=>he _ k (by omega) (by omega) ((yx (by omega)).trans (congrArg some hk)))
 .rw[zg]at hi;exact ae (h.we i hi) (λk hk=>he _ k (by omega) (by omega) ((Bw (by omega)).trans (congrArg some hk)))
 .show s.kn.set n _=_;rw[h.km,map_set]
 .rcases mem_or_eq_of_mem_set ym with p|p
  .exact(h.dr l p e mI).of_eq (λk hk=>hd k (bB.2 ⟨l,p,e,mI,hk⟩))
  .subst p;exact(hl e mI).1
 .rw[Gt v' hnK];refine h.nd.set (4+n) (λk hk=>?_);rcases hv' k hk with q|q
  .exact zq0 ((yx hnK).trans (congrArg some q))
  .exact zq1 (λj hj=>by have:=h.lt k (bP hj);omega)
 .obtain⟨l,ym,e,mI,mK⟩:=bB.1 hk;rcases mem_or_eq_of_mem_set ym with p|p
  .have hq:=bB.2 ⟨l,p,e,mI,mK⟩;rcases uo k hm with q|q
   .exact h.da k hq q
   .have:=h.drlt k hq;omega
  .subst p;exact(hl e mI).2 k mK hm
theorem Sh.bad(h:Sh w S c c0 hv kv wv KV WV K s){n:Nat}(hn:n<K.length){t:Nat}(ht:t<5){g cap:Nat}(hg:WV.getD n aJ=.slice (some ⟨g,0,none⟩) 5 cap):Sh (w.setCell ⟨g,t,none⟩ (.bool true)) S c c0 hv kv wv KV WV K (kO n t s)/\g∈cY S hv kv wv KV WV:=by
 have hK:=h.kvl;have hW:=h.wvl;have oU:(pA S hv kv wv KV WV)[4+(KV.length+n)]?=some (some g):=by rw[Bw (by omega),hg];rfl
 have aH:∀i k,i≠4+(KV.length+n)->(pA S hv kv wv KV WV)[i]?=some (some k)->(w.setCell ⟨g,t,none⟩ (.bool true)).heap[k]?=w.heap[k]?:=λi k hi hk=>by
  refine heap_setCell _ _ _ _ (λe=>hi ?_);rw[show k=g from e]at hk;exact h.nd i _ g hk oU
 refine⟨⟨h.bs.of_eq (aH 0 S (by omega) rfl),ae h.hr (λk hk=>aH 1 k (by omega) (congrArg some hk)),ae h.kr (λk hk=>aH 2 k (by omega) (congrArg some hk)),λi hi=>ae (h.ke i hi) (λk hk=>aH _ k (by omega) ((yx (by omega)).trans (congrArg some hk))),ae h.wr (λk hk=>aH 3 k (by omega) (congrArg some hk)),λi hi=>?_,?_,h.hl,h.nl,h.km,λl hl e mI=>(h.dr l hl e mI).of_eq (λk hk=>?_),h.nd,h.da⟩,bP oU⟩
 .by_cases e:i=n
  .subst e;have h1:=h.we i hi;rw[hg]at h1 ⊢;have h2:=(h1.stored t (.bool true)).1;have e3:(kO i t s).wr.getD i []=(s.wr.getD i []).set t true:=by
    show(s.wr.set i _).getD i []=_;have:i<s.wr.length:=(by rw[h.wl];exact hi);simp[this]
   rw[e3];have e4:dl ((s.wr.getD i []).set t true)=(dl (s.wr.getD i [])).set t (.bool true):=(by unfold dl;rw[map_set]);rw[e4];exact h2
  .have e3:(kO n t s).wr.getD i []=s.wr.getD i []:=by
    show(s.wr.set n _).getD i []=_;rw[getD_eq_getElem?_getD,getElem?_set_ne (λe'=>e e'.symm),<-getD_eq_getElem?_getD]
   rw[e3];exact ae (h.we i hi) (λk hk=>aH _ k (by omega) ((Bw (by omega)).trans (congrArg some hk)))
 .show(s.wr.set n _).length=_;rw[length_set];exact h.wl
 .have hm:=bB.2 ⟨l,hl,e,mI,hk⟩;refine heap_setCell _ _ _ _ (λe'=>h.da k hm ?_);rw[show k=g from e'];exact bP oU
end
section
variable {P:Program} (w:World)
theorem D4 (base:Nat) (t ty e:TypeId) (i:TypeInfo) (z:Value) (size bytes:Nat) (ht:P.underlying t=some (.slice e)) (hi:P.info? e=some i) (hz:i.zero=some z)
  (jQ:i.size=size) (FI:i.bytes=bytes) (Le:z.cells.size=size) (mO:0<size)
  (v:Value) (n:Nat) (xs:List Value) (aL:w.ownsRow base e size v n xs)
  (a:Addr) (c:Nat) (news:List Value) (hl:news.length=size) (iG:∀j u,news[j]?=some u->w.cell? (a.add j)=some u) (h1:∀u∈news,u.oneCell'=true)
  (Ky:n+1<=2000000000000) (hb:bytes<=16) (gI:base<=w.heap.size) :
  ∃v' w',(Builtin.append_ #[t,t] ty #[v,.slice (some a) 1 c]).run P w=.ok v' w'/\w'.ownsRow base e size v' (n+1) (xs++news)/\w.grownBy w' v.ownBlock /\
   (v'.ownBlock=v.ownBlock\/v'.ownBlock=some w.heap.size)/\∃g cap,v'=.slice (some ⟨g,0,none⟩) (n+1) cap:=by
 have hbytes:(n+1)*bytes<=140737488355328:=zq3 (Nat.mul_le_mul Ky hb) (by decide);obtain⟨v',w',hr,ho,hg,_⟩:=run_append_own (P:=P) w base t ty e i z size bytes ht hi hz jQ FI Le mO v n xs aL a 1 c news (by omega) iG h1 (by unfold maxLen;omega) hbytes gI;refine⟨v',w',hr,ho,hg,?_,?_⟩
 .subst jQ;subst FI;rcases aL.2 with⟨rfl,rfl⟩|⟨g,cap,cur,rfl,nV,UA,Mq,oT,Dc,PK⟩
  .have j9:=run_append_nil (P:=P) w t ty e i z ht hi hz a 1 c news (by omega) iG (by omega) (by omega) (by omega);rw[hr]at j9;injection j9 with e1 e2;subst e1;exact zq1 rfl
  .by_cases Ds:n+1<=cap
   .have FL:n*i.size+news.length<=cur.size:=by
     rw[hl,Dc];have:=Nat.mul_le_mul_right i.size Ds;rw[Nat.add_mul]at this;omega
    have j9:=run_append_room (P:=P) w t ty e i ht hi g n cap cur UA a 1 c news (by omega) iG h1 Ds FL;rw[hr]at j9;injection j9 with e1 e2;subst e1;exact zq0 rfl
   .have holds:∀j u,xs[j]?=some u->w.cell? ((⟨g,0,none⟩:Addr).add j)=some u:=aL.cells (g:=g) rfl;have j9:=run_append_grow (P:=P) w t ty e i z ht hi hz ⟨g,0,none⟩ n cap xs aL.1 holds a 1 c news (by omega) iG (by omega) (by omega) (growslice_fits (by omega) hbytes);rw[hr]at j9;injection j9 with e1 e2;subst e1;exact zq1 rfl
 .rcases ho.2 with⟨_,h⟩|⟨g,cap,_,h,_⟩
  .omega
  .exact⟨g,cap,h⟩
theorem tz {ops:Array Oper} {rest:List Oper} {o:Oper} {a:Act} {Q:Exit->Act->World->Prop}
  (hg:o.guard=none) (s x:Operand) (t:TypeId) (pq:o.op=Op.call { callee:=Callee.builtin Builtin.append,args:=#[s,x],argTypes:=#[t,t] })
  (base:Nat) (e:TypeId) (i:TypeInfo) (z:Value) (size bytes:Nat) (ht:P.underlying t=some (.slice e)) (hi:P.info? e=some i) (hz:i.zero=some z)
  (jQ:i.size=size) (FI:i.bytes=bytes) (Le:z.cells.size=size) (mO:0<size)
  (v:Value) (n:Nat) (xs:List Value) (hs:a.eval s=v) (aL:w.ownsRow base e size v n xs)
  (ad:Addr) (c:Nat) (news:List Value) (hx:a.eval x=.slice (some ad) 1 c) (hl:news.length=size) (iG:∀j u,news[j]?=some u->w.cell? (ad.add j)=some u) (h1:∀u∈news,u.oneCell'=true)
  (Ky:n+1<=2000000000000) (hb:bytes<=16) (gI:base<=w.heap.size)
  (hK:∀g cap w',w'.ownsRow base e size (.slice (some ⟨g,0,none⟩) (n+1) cap) (n+1) (xs++news)->w.grownBy w' v.ownBlock->(some g=v.ownBlock\/g=w.heap.size)->wpList P ops Q rest (a.put o.dst (.slice (some ⟨g,0,none⟩) (n+1) cap)) w') :
  wpList P ops Q (o::rest) a w:=by
 refine wpList_plain hg λK hK'=>?_;obtain⟨v',w',F9,r1,r2,r3,g,cap,rfl⟩:=D4 (P:=P) w base t o.type e i z size bytes ht hi hz jQ FI Le mO v n xs aL ad c news hl iG h1 Ky hb gI;unfold Oper.wp;simp[execOp,pq,resolve,invoke,builtin,hs,hx,F9,Result.andThen];exact hK' _ _ (hK g cap w' r1 r2 (by simpa[Value.ownBlock] using r3))
end
