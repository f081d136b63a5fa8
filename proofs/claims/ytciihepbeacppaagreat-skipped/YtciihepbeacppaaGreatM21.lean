import Derived.Test.YtciihepbeacppaaGreatM20
set_option maxRecDepth 100000
set_option maxHeartbeats 0
namespace Go.Proofs.YtciihepbeacppaaGreat
open Tryz Go.RowKit List World Below
set_option linter.unusedVariables false
theorem T1{c:Cd}{r:List CF × Sr}{g:CF}(h:(l8 c r g).2.ok=true)(hl:r.1.length<=im+1):(l8 c r g).1.length<=im+1:=by
 have h2:=(mX h).2;unfold l8;split
 .rename_i hn;have:=h2 hn;simp only[length_append,length_cons,length_nil];omega
 .exact hl
theorem vN{β:Type}(g:List CF × Sr->β->List CF × Sr)(hm:∀r b,(g r b).2.ok=true->r.2.ok=true)(hg:∀r b,(g r b).2.ok=true->r.1.length<=im+1->(g r b).1.length<=im+1):∀(l:List β) {r:List CF × Sr},(l.foldl g r).2.ok=true->r.1.length<=im+1->(l.foldl g r).1.length<=im+1
 |[],_,_,hl=>hl
 |b::l,r,h,hl=>vN g hm hg l h (hg r b (gf g hm l h) hl)
theorem zd{c:Cd}{f:CF}(r:List CF × Sr)(i:Nat)(h:(eW c f r i).2.ok=true):r.2.ok=true:=gf (oT c f i) (λr b h=>vL r b h) _ h
theorem T4{c:Cd}{f:CF}{i:Nat}(r:List CF × Sr)(a:Nat)(h:(oT c f i r a).2.ok=true)(hl:r.1.length<=im+1):(oT c f i r a).1.length<=im+1:=by
 unfold oT at h ⊢;split
 .rename_i hn;rw[if_pos hn]at h;exact vN (l8 c) (λr b h=>(mX h).1) (λr b h=>T1 h) _ h hl
 .exact hl
theorem Ow{c:Cd}{f:CF}(r:List CF × Sr)(i:Nat)(h:(eW c f r i).2.ok=true)(hl:r.1.length<=im+1):(eW c f r i).1.length<=im+1 :=
 vN (oT c f i) (λr b h=>vL r b h) (λr b h=>T4 r b h) _ h hl
theorem Oh{c:Cd}{g:CF}{r:List CF × Sr}{res:List CF}(h:(ug c g r res).2.2.ok=true):r.2.ok=true:=by
 unfold ug at h;split at h
 .exact h
 .exact gf (eW c g) (λr b h=>zd r b h) _ h
theorem vJ{c:Cd}:∀(n k:Nat) (res:List CF) (r:List CF × Sr),(iq c n k res r).2.ok=true->r.2.ok=true
 |0,_,_,_,h=>by simp[iq]at h
 |n+1,k,res,r,h=>by
  unfold iq at h;split at h
  .exact Oh (vJ n _ _ _ h)
  .exact h
theorem ar.wider{F F' G G':List Nat}{a b:World}(h:ar F a F' b)(h1:∀k∈F,k∈G)(h2:∀k∈G',k∈F'\/k∈G\/a.heap.size<=k):ar G a G' b :=
 ⟨h.os,h.tape,h.output,h.size,λk hk hn=>h.block k hk (λe=>hn (h1 k e)),λk hk=>by
  rcases h2 k hk with p|p|p
  .rcases h.foot k p with q|q
   .exact zq0 (h1 k q)
   .exact zq1 q
  .exact zq0 p
  .exact zq1 p⟩
structure Fg(w W:World)(B:Nat)(F0:List Nat)(S:Nat)(cs:List Value)(k:Nat)(vC:Value)(LC:List FE)(vR:Value)(LR:List FE):Prop where
 c:Fl W B vC LC
 r:Fl W B vR LR
 bs:Bk W S 229 cs
 sh:∀x∈LR,x∈LC.take k\/∀q∈x.bs,q ∉ bf vC LC
 rv:∀q∈vR.ownBlock.toList,q ∉ bf vC LC
 cv:∀q∈vC.ownBlock.toList,q ∉ bf vR LR
 sc:S ∉ bf vC LC
 sr:S ∉ bf vR LR
 st:ar F0 w (S::(bf vC LC++bf vR LR)) W
 bb:B<=W.heap.size
theorem Fv{v:Value}{L:List FE}(h:(bf v L).Nodup):(∀q∈v.ownBlock.toList,∀x∈L,q ∉ x.bs)/\∀{k:Nat} (hk:k<L.length),∀x∈L.take k,∀q∈x.bs,q ∉ L[k].bs:=by
 unfold bf at h;rw[nodup_append]at h;refine⟨λq hq x hx hn=>h.2.2 q hq q (mem_flatMap.2 ⟨x,hx,hn⟩) rfl,fun {k} hk x hx q hq hn=>?_⟩;have h2:=h.2.1;rw[<-take_append_drop k L,flatMap_append,nodup_append]at h2;exact h2.2.2 q (mem_flatMap.2 ⟨x,hx,hq⟩) q (mem_flatMap.2 ⟨L[k],by rw[drop_eq_getElem_cons hk];exact mem_cons_self,hn⟩) rfl
section
variable {w W W':World} {B S k:Nat} {F0:List Nat} {cs cs':List Value} {vC vR:Value} {LC LR:List FE}
theorem Fg.below(h:Fg w W B F0 S cs k vC LC vR LR)(hb:Below W.heap.size W W'):Fg w W' B F0 S cs k vC LC vR LR :=
 ⟨h.c.below hb,h.r.below hb,h.bs.below hb,h.sh,h.rv,h.cv,h.sc,h.sr,h.st.trans (ar.ofBw hb),zq3 h.bb hb.size⟩
theorem Fg.app {g1 c1 k':Nat} {o:Obj} {x:FE} {W1:World} (h:Fg w W B F0 S cs k vC LC vR LR) (hk:k<=k') (hx:Fm W x.A x.f x.av x.ov) (hB:∀q∈x.bs,B<=q) (hd:∀q∈x.bs,q ∉ bf vR LR/\q≠S/\q ∉ vC.ownBlock.toList) (hs:x∈LC.take k'\/∀q∈x.bs,q ∉ bf vC LC) (h0:∀q∈x.bs,q∈bf vC LC\/w.heap.size<=q)
  (aL:W1.ownsRow B 126 1 (.slice (some ⟨g1,0,none⟩) (LR.length+1) c1) (LR.length+1) (LR.map FE.p++[x.p])) (hg:(W.alloc o).grownBy W1 vR.ownBlock) (cC:some g1=vR.ownBlock\/g1=(W.alloc o).heap.size) :
  Fg w W1 B F0 S cs k' vC LC (.slice (some ⟨g1,0,none⟩) (LR.length+1) c1) (LR++[x]):=by
 obtain⟨a1,a2,a3⟩:=h.r.app hx hB (λq hq=>(hd q hq).1) h.bb aL hg cC;have hv:∀q∈vR.ownBlock.toList,q∈bf vR LR:=λq hq=>mem_append_left _ hq;have Mw:∀q∈[g1],q ∉ bf vC LC:=λq hq hn=>by
  rcases a2.foot q hq with p|p
  .exact h.rv q p hn
  .have:=h.c.lt q hn;omega
 refine⟨h.c.stp a2 (λq hq hn=>h.rv q hn hq),a1,h.bs.stp a2 (λhn=>h.sr (hv S hn)),λy hy=>?_,λq hq=>Mw q (by simpa[Value.ownBlock,eq_comm] using hq),λq hq hn=>?_,h.sc,λhn=>?_,?_,zq3 h.bb a2.size⟩
 .rcases mem_append.1 hy with p|p
  .rcases h.sh y p with q|q
   .exact zq0 (take_subset_take_left LC hk q)
   .exact zq1 q
  .rw[mem_singleton]at p;subst p;exact hs
 .rcases a3 q hn with p|p|p
  .exact h.cv q hq p
  .exact(hd q p).2.2 hq
  .have:=h.c.lt q (mem_append_left _ hq);omega
 .rcases a3 S hn with p|p|p
  .exact h.sr p
  .exact(hd S p).2.1 rfl
  .have:=h.bs.lt;omega
 .have h2:=h.st;refine⟨a2.os.trans h2.os,a2.tape.trans h2.tape,a2.output.trans h2.output,zq3 h2.size a2.size,λq hq hn=>?_,λq hq=>?_⟩
  .rw[a2.block q (zq6 hq h2.size) (λhm=>?_)]
   .exact h2.block q hq hn
   .rcases h2.foot q (mem_cons_of_mem _ (mem_append_right _ (hv q hm))) with p|p
    .exact hn p
    .omega
  .rcases mem_cons.1 hq with rfl|hq
   .exact h2.foot q (by simp)
   .rcases mem_append.1 hq with hq|hq
    .exact h2.foot q (mem_cons_of_mem _ (mem_append_left _ hq))
    .rcases a3 q hq with p|p|p
     .exact h2.foot q (mem_cons_of_mem _ (mem_append_right _ p))
     .rcases h0 q p with p|p
      .exact h2.foot q (mem_cons_of_mem _ (mem_append_left _ p))
      .exact zq1 p
     .exact zq1 (zq3 h2.size p)
theorem Fg.more{v':Value}{L':List FE}(h:Fg w W B F0 S cs k vC LC vR LR)(hk:k<=LC.length)(hc:Fl W' B v' (LC++L'))(hb:Bk W' S 229 cs')(hS:S ∉ bf v' (LC++L'))(hs:ar (S::bf vC LC) W (S::bf v' (LC++L')) W'):Fg w W' B F0 S cs' k v' (LC++L') vR LR:=by
 have FX:∀q,q<W.heap.size->q≠S->q ∉ bf vC LC->q ∉ bf v' (LC++L'):=λq hq h1 h2 hn=>by
  rcases hs.foot q (mem_cons_of_mem _ hn) with p|p
  .rcases mem_cons.1 p with p|p
   .exact h1 p
   .exact h2 p
  .omega
 have px:∀q∈bf vR LR,q<W.heap.size/\q≠S:=λq hq=>⟨h.r.lt q hq,λe=>h.sr (by rw[<-e];exact hq)⟩;have Mw:∀q∈vR.ownBlock.toList,q ∉ bf v' (LC++L'):=λq hq=>FX q (px q (mem_append_left _ hq)).1 (px q (mem_append_left _ hq)).2 (h.rv q hq);have lR:∀x∈LR,(∀q∈x.bs,q ∉ bf vC LC)->∀q∈x.bs,q ∉ bf v' (LC++L'):=λx hx hf q hq=>by
  have hm:q∈bf vR LR:=mem_append_right _ (mem_flatMap.2 ⟨x,hx,hq⟩);exact FX q (px q hm).1 (px q hm).2 (hf q hq)
 refine⟨hc,⟨ae h.r.row (λq hq=>?_),λx hx=>?_,h.r.ge,h.r.nd⟩,hb,λx hx=>?_,Mw,λq hq hn=>?_,hS,h.sr,?_,zq3 h.bb hs.size⟩
 .have hq':q∈vR.ownBlock.toList:=by simpa using hq
  refine hs.block q (px q (mem_append_left _ hq')).1 (λhn=>?_);rcases mem_cons.1 hn with p|p
  .exact(px q (mem_append_left _ hq')).2 p
  .exact h.rv q hq' p
 .rcases h.sh x hx with p|p
  .exact hc.fm x (mem_append_left _ (mem_of_mem_take p))
  .refine(h.r.fm x hx).of_eq (λq hq=>?_);have hm:q∈bf vR LR:=mem_append_right _ (mem_flatMap.2 ⟨x,hx,hq⟩);refine hs.block q (px q hm).1 (λhn=>?_);rcases mem_cons.1 hn with e|e
   .exact(px q hm).2 e
   .exact p q hq e
 .rcases h.sh x hx with p|p
  .exact zq0 (by rw[take_append_of_le_length hk];exact p)
  .exact zq1 (lR x hx p)
 .rcases mem_append.1 hn with p|p
  .exact Mw q p (mem_append_left _ hq)
  .obtain⟨x,hx,p⟩:=mem_flatMap.1 p;rcases h.sh x hx with r|r
   .exact(Fv hc.nd).1 q hq x (mem_append_left _ (mem_of_mem_take r)) p
   .exact lR x hx r q p (mem_append_left _ hq)
 .refine h.st.trans (hs.wider (λq hq=>?_) (λq hq=>?_))
  .rcases mem_cons.1 hq with p|p
   .rw[p];simp
   .exact mem_cons_of_mem _ (mem_append_left _ p)
  .rcases mem_cons.1 hq with p|p
   .rw[p];simp
   .rcases mem_append.1 p with p|p
    .exact zq0 (mem_cons_of_mem _ p)
    .exact zq1 (zq0 (mem_cons_of_mem _ (mem_append_right _ p)))
theorem Fg.apart(h:Fg w W B F0 S cs k vC LC vR LR)(hk:k<LC.length):∀q∈LC[k].bs,q ∉ bf vR LR/\q≠S/\q ∉ vC.ownBlock.toList:=by
 intro q hq;have hm:q∈bf vC LC:=mem_append_right _ (mem_flatMap.2 ⟨LC[k],getElem_mem hk,hq⟩);refine⟨λhn=>?_,λe=>h.sc (by rw[<-e];exact hm),λhn=>(Fv h.c.nd).1 q hn _ (getElem_mem hk) hq⟩;rcases mem_append.1 hn with p|p
 .exact h.rv q p hm
 .obtain⟨x,hx,p⟩:=mem_flatMap.1 p;rcases h.sh x hx with r|r
  .exact(Fv h.c.nd).2 hk x r q p hq
  .exact r q p hm
end
theorem Li{W:World}{B:Nat}{v:Value}{l:List Nat}(h:W.ownsRow B 3 1 v l.length (su l)){i:Nat}(hi:i<l.length):∃g cap,v=.slice (some ⟨g,0,none⟩) l.length cap/\W.cell? ⟨g,i,none⟩=some (.int .i64 (l[i]:Nat)):=by
 obtain⟨g,cap,hv,-,-,-⟩:=b9 h (by omega);subst hv;refine⟨g,cap,rfl,?_⟩;have:=h.cellAt i (by omega);rw[this];simp[su,hi]
theorem Zk{c:Cd}{n k:Nat}{res:List CF}{l:List CF}{s:Sr}(hk:k<l.length)(hf:s.fu=false):iq c (n+1) k res (l,s)=iq c n (k+1) (ug c l[k] (l,s) res).1 (ug c l[k] (l,s) res).2:=by
 have e:l.getD k ⟨[],[],[]⟩=l[k]:=by simp[List.getD,hk]
 show(if k<l.length/\s.fu=false then _ else _)=_;rw[if_pos ⟨hk,hf⟩];show iq c n (k+1) (ug c (l.getD k ⟨[],[],[]⟩) (l,s) res).1 (ug c (l.getD k ⟨[],[],[]⟩) (l,s) res).2=_;rw[e]
theorem Ih{c:Cd}{n k:Nat}{res:List CF}{l:List CF}{s:Sr}(h:¬ (k<l.length/\s.fu=false)):iq c (n+1) k res (l,s)=(res,s):=by
 show(if k<l.length/\s.fu=false then _ else _)=_;rw[if_neg h]
theorem Ik{w W:World}{B S k:Nat}{F0:List Nat}{c0 hv kv wv vC vR:Value}{lp:Bool}{lo:Int}{c:Cd}{s:Sr}{LC LR:List FE}{R:List CF × Sr}(h:Fg w W B F0 S (qt c0 hv lp kv wv c.bd s.lf lo s.fu) k vC LC vR LR)(hT:∀y∈LR,Td y.f)(hR:(LR.map (·.f),s)=R):
  ∃v' L',Ending.returned vR=.returned v'/\Fl W B v' L'/\(∀y∈L',Td y.f)/\L'.map (·.f)=R.1/\Bk W S 229 (qt c0 hv lp kv wv c.bd R.2.lf lo R.2.fu)/\S ∉ bf v' L'/\ar F0 w (S::bf v' L') W:=by
 subst hR;refine⟨vR,LR,rfl,h.r,hT,rfl,h.bs,h.sr,⟨h.st.os,h.st.tape,h.st.output,h.st.size,h.st.block,λq hq=>h.st.foot q ?_⟩⟩;rcases mem_cons.1 hq with p|p
 .rw[p];simp
 .exact mem_cons_of_mem _ (mem_append_right _ p)
section
variable {w:World} {B S:Nat} {c0 hv kv wv:Value} {lp:Bool} {lo:Int} {x:FE} {c:Cd} {s:Sr}
theorem CX(hS:Bk w S 229 (qt c0 hv lp kv wv c.bd s.lf lo s.fu))(hx:Fm w x.A x.f x.av x.ov)(hT:Td x.f)(cX:∀q∈x.bs,B<=q)(hSx:S ∉ x.bs)(hB:B<=w.heap.size)(n:Nat)(bn:(iq c n 0 [] ([x.f],s)).2.ok=true):
  Calls prog 202 #[.pointer (some ⟨S,0,none⟩),.pointer (some ⟨x.A,0,none⟩)] w λe w'=>∃v' L',e=.returned v'/\Fl w' B v' L'/\(∀y∈L',Td y.f)/\L'.map (·.f)=(iq c n 0 [] ([x.f],s)).1/\Bk w' S 229 (qt c0 hv lp kv wv c.bd (iq c n 0 [] ([x.f],s)).2.lf lo (iq c n 0 [] ([x.f],s)).2.fu)/\S ∉ bf v' L'/\ar (S::x.bs) w (S::bf v' L') w':=by
 obtain⟨i0,lw,gY,gz,gL⟩:=info_parts infoPF;obtain⟨R,hR⟩:∃R,R=iq c n 0 [] ([x.f],s):=⟨_,rfl⟩;rw[<-hR]at bn ⊢;obtain⟨W2,jw⟩:∃W2,W2=(w.alloc (.cells #[] 126)).alloc (.cells #[Value.pointer (some ⟨x.A,0,none⟩)] 126):=⟨_,rfl⟩;have hFg:Fg w W2 B (S::x.bs) S (qt c0 hv lp kv wv c.bd s.lf lo s.fu) 0 (.slice (some ⟨w.heap.size+1,0,none⟩) 1 1) [x] (.slice (some ⟨w.heap.size,0,none⟩) 0 0) []:=by
  have bB:=ah w (.cells #[] 126);have aW:=ah (w.alloc (.cells #[] 126)) (.cells #[Value.pointer (some ⟨x.A,0,none⟩)] 126);have hb:Below w.heap.size w W2:=by rw[jw];exact bB.trans (aW.mono bB.size)
  have SN:=hx.lt;have yv:=hS.lt;have hfc:∀q,q∈bf (.slice (some ⟨w.heap.size+1,0,none⟩) 1 1) [x]↔q=w.heap.size+1\/q∈x.bs:=λq=>by simp[bf,Value.ownBlock]
  have lR:∀q,q∈bf (.slice (some ⟨w.heap.size,0,none⟩) 0 0) []↔q=w.heap.size:=λq=>by simp[bf,Value.ownBlock]
  have XN:∀q∈x.bs,q<w.heap.size:=λq hq=>hx.lt q hq;refine⟨⟨?_,λy hy=>?_,λy hy=>?_,?_⟩,⟨?_,λy hy=>by simp at hy,λy hy=>by simp at hy,by simp[bf,Value.ownBlock]⟩,hS.below hb,λy hy=>by simp at hy,λq hq hn=>?_,λq hq hn=>?_,λhn=>?_,λhn=>?_,?_,zq3 hB hb.size⟩
  .rw[jw];have:=ownsRow_lit (base:=B) (e:=126) (size:=1) (w.alloc (.cells #[] 126)) #[Value.pointer (some ⟨x.A,0,none⟩)] 1 (by simp;omega) (by simp[maxLen]) rfl;simpa[FE.p] using this
  .rw[mem_singleton]at hy;subst hy;exact hx.below hb
  .rw[mem_singleton]at hy;subst hy;exact cX
  .show([w.heap.size+1]++[x].flatMap FE.bs).Nodup;rw[nodup_append];refine⟨by simp,by simpa[FE.bs] using hx.nd,λa ha b hb e=>?_⟩;rw[mem_singleton]at ha;have:=XN b (by simpa using hb);omega
  .rw[jw];exact dZ ((ownsRow_lit (base:=w.heap.size) (e:=126) (size:=1) w #[] 0 (zq4 _) (by simp[maxLen]) rfl).alloc _) hB
  .have e:q=w.heap.size:=(by simpa[Value.ownBlock,eq_comm] using hq);rcases(hfc q).1 hn with p|p
   .omega
   .have:=XN q p;omega
  .have e:q=w.heap.size+1:=(by simpa[Value.ownBlock,eq_comm] using hq);have:=(lR q).1 hn;omega
  .rcases(hfc S).1 hn with p|p
   .omega
   .exact hSx p
  .have:=(lR S).1 hn;omega
  .refine⟨hb.os,hb.tape,hb.output,hb.size,λq hq hn=>hb.block q hq,λq hq=>?_⟩;rcases mem_cons.1 hq with rfl|hq
   .exact zq0 (by simp)
   .rcases mem_append.1 hq with p|p
    .rcases(hfc q).1 p with p|p
     .exact zq1 (by omega)
     .exact zq0 (mem_cons_of_mem _ p)
    .exact zq1 (by have:=(lR q).1 p;omega)
 have mr:=ab bn;have hX1:w.heap.size+1=w.heap.size+1:=rfl;obtain⟨X,hX⟩:∃X,X=w.heap.size+1:=⟨_,rfl⟩;have cG:Hid (Fg w W2 B (S::x.bs) S (qt c0 hv lp kv wv c.bd s.lf lo s.fu) 0 (.slice (some ⟨X,0,none⟩) 1 1) [x] (.slice (some ⟨w.heap.size,0,none⟩) 0 0) []/\(∀y∈[x],Td y.f)/\(∀y∈([]:List FE),Td y.f)/\iq c n 0 (([]:List FE).map (·.f)) ([x].map (·.f),s)=R/\[x].length<=im+1/\0<=[x].length/\([]:List FE).length=0):=ab ⟨by rw[hX];exact hFg,λy hy=>by rw[mem_singleton]at hy;subst hy;exact hT,λy hy=>by simp at hy,hR.symm,by simp[im],by simp,rfl⟩;obtain⟨F0,FC⟩:∃F0,F0=S::x.bs:=⟨_,rfl⟩;rw[<-FC]at cG ⊢;clear hFg hS hx hT cX hSx bn hR hX1 FC;obtain⟨xa,xf,xav,xov⟩:=x;simp only at jw;go_enter func202,ntmps202;go_upto_region 3 with fail;rw[show w.heap.size+1=X from hX.symm,<-jw];clear jw hX;go_wp2_with fail
 go_loopg [5,6,7] n (λgn rv cv iv wx=>∃(k:Nat) (LC LR:List FE) (s':Sr),iv=.int .i64 k/\Hid (Fg w wx B F0 S (qt c0 hv lp kv wv c.bd s'.lf lo s'.fu) k cv LC rv LR/\(∀y∈LC,Td y.f)/\(∀y∈LR,Td y.f)/\iq c gn k (LR.map (·.f)) (LC.map (·.f),s')=R/\LC.length<=im+1/\k<=LC.length/\LR.length=k))
 case atStart=>exact⟨0,_,_,s,rfl,cG⟩
 case round =>
  clear cG;obtain⟨k,LC,LR,s',rfl,hI⟩:=hrel;obtain⟨G,hG⟩:∃G,G=gk:=⟨_,rfl⟩;obtain⟨la,lc,iw,-,-⟩:=am (uh hI).1.c.row;subst iw;obtain⟨ra,rc,Mw,-,-⟩:=am (uh hI).1.r.row;subst Mw;obtain⟨m,hm⟩:∃m,gk=m+1:=by
   cases hz:gk with
   |zero =>
    have h1:=(uh hI).2.2.2.1;have h2:=uh mr;rw[hz]at h1;rw[<-h1]at h2;simp[iq]at h2
   |succ m=>exact⟨m,rfl⟩
  have hlc:LC.length<=900001:=(uh hI).2.2.2.2.1;have gK:k<=LC.length:=(uh hI).2.2.2.2.2.1;have WK:Hid (LR.length=k):=ab (uh hI).2.2.2.2.2.2;have px:LR.length<=900001:=by rw[uh WK];omega
  have c8:=(uh hI).1.bs.cell 8 rfl;by_cases au:k<LC.length
  .have hd:decide ((k:Int)<(LC.length:Int))=true:=(by simp;omega);cases dY:s'.fu
   .rw[dY]at c8;have fq:=(uh hI).2.2.2.1;rw[hm,Zk (by rw[length_map];exact au) dY,getElem_map]at fq;obtain⟨g2,cap2,dc,ax⟩:=(uh hI).1.c.pend.cell au;simp only[Value.slice.injEq,true_and]at dc;obtain⟨rfl,rfl⟩:=dc;have hyF:=(uh hI).1.c.fm _ (getElem_mem au);have hyB:=(uh hI).1.c.ge _ (getElem_mem au);have hyT:=(uh hI).2.1 _ (getElem_mem au);have eK:=(uh hI).1.apart au;have hym:LC[k]∈LC:=getElem_mem au;have hyt:LC[k]∈LC.take (k+1):=(by rw[take_succ_eq_append_getElem au];exact mem_append_right _ mem_cons_self);obtain⟨y,hye⟩:∃y,y=LC[k]:=⟨_,rfl⟩;rw[<-hye]at ax hyF hyB hyT eK hym hyt fq;have IQ:y.p=.pointer (some ⟨y.A,0,none⟩):=rfl;rw[IQ]at ax;have B7:=ab (wq hyF.is hyT.ok);have Ha:=ab fq;have HYT:=ab hyT;have HYF:=ab hyF;have HYB:=ab hyB;have Yg:=ab eK;have HYm:=ab hym;have HYt:=ab hyt;have HI:=ab (uh hI);have i1:(0:Int)<=(k:Int):=(by omega);have i2:(k:Int)<(LC.length:Int):=(by omega);clear fq hyF hyB hyT eK hym hyt hye IQ hI;go_wp2_with fail
    refine(uh B7).mono ?_;rintro e w3 ⟨gv,rfl,oW,dy⟩;have uX:=ab ((uh HI).1.below dy);have YH:=ab ((uh HYF).below dy);have hgb:∀q∈gv.ownBlock.toList,wr.heap.size<=q:=λq hq=>(oW.lt q (by simpa using hq)).1;have rM:=ab oW;obtain⟨ga,gc,dF,-,-⟩:=am oW;subst dF;have HGB:=ab hgb;clear oW hgb dy B7 c8 ax;by_cases jP:dd y.f=[]
    .have hl0:(((dd y.f).length:Int)==(0:Int))=true:=(by rw[jP];rfl);have FO:iq c m (k+1) (LR.map (·.f)++[y.f]) (LC.map (·.f),s')=R:=by
      have:=uh Ha;unfold ug at this;rw[if_pos jP]at this;exact this
     have Yo:=ab FO;clear jP FO;have L6:Hid (w3.ownsRow B 126 1 (.slice ra LR.length rc) LR.length (LR.map FE.p)):=ab (uh uX).r.row;have KO:=(uh uX).bb;go_wp2_with (at_builtin;refine aS _ rfl (.tmp 37) (.tmp 39) 125 rfl B 126 i0 _ 1 8 underlying125 lw gY gz gL rfl (by decide) _ LR.length (LR.map FE.p) rfl ((uh L6).alloc _) ⟨_,0,none⟩ 1 [.pointer (some ⟨y.A,0,none⟩)] rfl rfl (aN _ _ (by simp) [.pointer (some ⟨y.A,0,none⟩)] _) (by intro u hu;simp only[mem_singleton]at hu;subst hu;rfl) (by omega) (by omega) (by simp;omega) ?_)
     intro g7 cap7 w7 iM dN gi;have KC:=(uh uX).app (x:=y) (k':=k+1) (g1:=g7) (c1:=cap7) (Nat.le_succ k) (uh YH) (uh HYB) (uh Yg) (zq0 (uh HYt)) (λq hq=>zq0 (mem_append_right _ (mem_flatMap.2 ⟨y,uh HYm,hq⟩))) iM dN (by simpa using gi);have HN:=ab (zq2 KC (zq2 (uh HI).2.1 (zq2 (fun(q:FE) (hq:q∈LR++[y])=>(mem_append.1 hq).elim ((uh HI).2.2.1 q) (λp=>(mem_singleton.1 p) ▸ uh HYT)) (zq2 (show iq c m (k+1) ((LR++[y]).map (·.f)) (LC.map (·.f),s')=R by rw[map_append];exact uh Yo) (zq2 (uh HI).2.2.2.2.1 (zq2 (show k+1<=LC.length by omega) (show(LR++[y]).length=k+1 by rw[length_append,uh WK];rfl)))))));clear iM dN gi KC HI;go_wp2_with fail
     go_roundg m
     case rel=>exact⟨k+1,LC,LR++[y],s',by go_num,HN⟩
     case measure=>omega
    .have hl0:(((dd y.f).length:Int)==(0:Int))=false:=by
      have:(dd y.f).length≠0:=λe=>jP (length_eq_zero_iff.1 e);simp;omega
     have FO:iq c m (k+1) (LR.map (·.f)++[RX y.f]) ((dd y.f).foldl (eW c y.f) (LC.map (·.f),s'))=R:=by
      have:=uh Ha;unfold ug at this;rw[if_neg jP]at this;exact this
     obtain⟨R1,s8⟩:∃R1,R1=(dd y.f).foldl (eW c y.f) (LC.map (·.f),s'):=⟨_,rfl⟩;rw[<-s8]at FO;have Yy:=ab s8;have Yo:=ab FO;have Yx:Hid (R1.2.ok=true):=ab (vJ m (k+1) _ R1 (by rw[FO];exact uh mr));have HWO:=ab (LX (uh YH).is (uh HYT).ok (zq3 (uh HYT).ln (by omega)));clear jP FO s8;go_wp2_with fail
     refine(uh HWO).mono ?_;rintro e w4 ⟨A4,rfl,av4,ov4,se,afV,nV⟩;have S9:=ab ((uh uX).below nV);have WJ:Hid (w4.ownsRow B 126 1 (.slice ra LR.length rc) LR.length (LR.map FE.p)):=ab (uh S9).r.row;have Z4:=(uh S9).bb;have Ys:=ab (ae (uh rM) (λq hq=>nV.block q ((uh rM).lt q hq).2));have SE:∀q∈aG A4 av4 ov4,(q ∉ bf (.slice ra LR.length rc) LR/\q≠S/\q ∉ (Value.slice (some ⟨g2,0,none⟩) LC.length lc).ownBlock.toList)/\q ∉ bf (.slice (some ⟨g2,0,none⟩) LC.length lc) LC/\w.heap.size<=q/\B<=q:=λq hq=>by
      have h1:=afV q hq;refine⟨⟨λhn=>?_,λe=>?_,λhn=>?_⟩,λhn=>?_,zq3 (uh uX).st.size h1,zq3 (uh uX).bb h1⟩
      .have:=(uh uX).r.lt q hn;omega
      .have:=(uh uX).bs.lt;omega
      .have:=(uh uX).c.lt q (mem_append_left _ hn);omega
      .have:=(uh uX).c.lt q hn;omega
     have WA:=ab se;have MJ:=ab SE;clear se afV nV SE HWO rM uX YH;go_wp2_with (at_builtin;refine aS _ rfl (.tmp 41) (.tmp 44) 125 rfl B 126 i0 _ 1 8 underlying125 lw gY gz gL rfl (by decide) _ LR.length (LR.map FE.p) rfl ((uh WJ).alloc _) ⟨_,0,none⟩ 1 [.pointer (some ⟨A4,0,none⟩)] rfl rfl (aN _ _ (by simp) [.pointer (some ⟨A4,0,none⟩)] _) (by intro u hu;simp only[mem_singleton]at hu;subst hu;rfl) (by omega) (by omega) (by simp;omega) ?_)
     intro g7 cap7 w7 iM dN gi;have zp:=lK dN (by simpa using gi);have KC:=(uh S9).app (x:=⟨A4,RX y.f,av4,ov4⟩) (k':=k+1) (g1:=g7) (c1:=cap7) (Nat.le_succ k) (uh WA) (λq hq=>(uh MJ q hq).2.2.2) (λq hq=>(uh MJ q hq).1) (zq1 (λq hq=>(uh MJ q hq).2.1)) (λq hq=>zq1 (uh MJ q hq).2.2.1) iM dN (by simpa using gi);have ZH:=ae (uh Ys) (λq hq=>zp.block q ((uh Ys).lt q hq).2 (λhn=>by
      have h1:=uh HGB q (by simpa using hq);have h2:=(uh HI).1.r.lt q (mem_append_left _ hn);omega))
     have ae2:∀q∈(Value.slice ga (dd y.f).length gc).ownBlock.toList,q ∉ bf (.slice (some ⟨g2,0,none⟩) LC.length lc) LC/\q≠S:=λq hq=>by
      have h1:=uh HGB q hq;exact⟨λhn=>by have:=(uh HI).1.c.lt q hn;omega,λe=>by have:=(uh HI).1.bs.lt;omega⟩
     obtain⟨z,hz⟩:∃z:FE,z=⟨A4,RX y.f,av4,ov4⟩:=⟨_,rfl⟩;rw[<-hz]at KC;have HZ:Hid (z.f=RX y.f):=ab (by rw[hz]);obtain⟨B3,Uh⟩:∃B3,B3=wr.heap.size:=⟨_,rfl⟩;rw[<-Uh]at ZH;have oP:=ab (zq2 KC (zq2 ZH (zq2 ae2 (zq2 (uh HI).2.1 (zq2 (show((dd y.f).drop 0).foldl (eW c y.f) (LC.map (·.f),s')=R1 from (uh Yy).symm) (zq2 (uh HI).2.2.2.2.1 (zq2 (show k+1<=LC.length by omega) (uh HYm))))))));clear iM dN gi zp KC ZH ae2 hz Uh S9 WJ Ys WA MJ Yg HYF HYm;have vX:=Ja (uh HYT).ok;go_wp2_with fail
     go_loopg [6,48] (dd y.f).length (λgn cv iv wx=>∃(j:Nat) (LD:List FE) (sa:Sr),j+gn=(dd y.f).length/\iv=.int .i64 j/\Hid (Fg w wx B F0 S (qt c0 hv lp kv wv c.bd sa.lf lo sa.fu) (k+1) cv LD (.slice (some ⟨g7,0,none⟩) (LR.length+1) cap7) (LR++[z])/\wx.ownsRow B3 3 1 (.slice ga (dd y.f).length gc) (dd y.f).length (su (dd y.f))/\(∀q∈(Value.slice ga (dd y.f).length gc).ownBlock.toList,q ∉ bf cv LD/\q≠S)/\(∀y∈LD,Td y.f)/\((dd y.f).drop j).foldl (eW c y.f) (LD.map (·.f),sa)=R1/\LD.length<=im+1/\k+1<=LD.length/\y∈LD))
     case atStart=>exact⟨0,LC,s',by omega,rfl,oP⟩
     case round =>
      clear oP;obtain⟨j,LD,sa,Cs,rfl,hJ⟩:=hrel;obtain⟨G2,FD⟩:∃G2,G2=gk:=⟨_,rfl⟩;by_cases fU:j<(dd y.f).length
      .have k6:decide ((j:Int)<((dd y.f).length:Int))=true:=(by simp;omega);obtain⟨g3,cap3,afZ,ax⟩:=Li (uh hJ).2.1 fU;simp only[Value.slice.injEq,true_and]at afZ;obtain⟨rfl,rfl⟩:=afZ;have nY:(dd y.f).drop j=(dd y.f)[j]::(dd y.f).drop (j+1):=drop_eq_getElem_cons fU;have hjo:(dd y.f)[j]<y.f.ow.length:=by
        have:=getElem_mem fU;unfold dd at this;rw[mem_filter,mem_range]at this;exact this.1
       have fq:=(uh hJ).2.2.2.2.1;rw[nY,foldl_cons]at fq;obtain⟨i,hi⟩:∃i,i=(dd y.f)[j]:=⟨_,rfl⟩;rw[<-hi]at fq hjo ax;have aas:(eW c y.f (LD.map (·.f),sa) i).2.ok=true:=gf (eW c y.f) (λr b h=>zd r b h) ((dd y.f).drop (j+1)) (by rw[fq];exact uh Yx);have HFD:=ab (Kw (c:=c) (s:=sa) (x:=y) (i:=i) (L:=LD) (uh hJ).1.bs (uh hJ).1.c (uh hJ).2.2.2.1 (uh hJ).2.2.2.2.2.2.2 (uh hJ).1.sc (uh hJ).1.bb hjo aas);have alE:(LD.map (λq:FE=>q.f)).length=LD.length:=length_map _;have HLE:Hid ((eW c y.f (LD.map (·.f),sa) i).1.length<=im+1):=ab (by
        refine Ow _ i aas ?_;show(LD.map (λq:FE=>q.f)).length<=im+1;have h9:=(uh hJ).2.2.2.2.2.1;omega)
       obtain⟨R2,ZS⟩:∃R2,R2=eW c y.f (LD.map (·.f),sa) i:=⟨_,rfl⟩;rw[<-ZS]at HFD HLE fq;have HFo:=ab fq;have HJ:=ab (uh hJ);have k1:(0:Int)<=(j:Int):=(by omega);have k2:(j:Int)<((dd y.f).length:Int):=(by omega);clear nY hjo fq hi aas ZS hJ alE;go_wp2_with fail
       refine(uh HFD).mono ?_;rintro e w8 ⟨v8,L8,rfl,afR,agS,Pw,O4,C7,IK⟩;have ae0:=(uh HJ).1.more (uh HJ).2.2.2.2.2.2.1 afR O4 C7 IK;have Dp:∀q∈(Value.slice (some ⟨g3,0,none⟩) (dd y.f).length gc).ownBlock.toList,q ∉ S::bf u6 LD:=λq hq hn=>by
        rcases mem_cons.1 hn with p|p
        .exact((uh HJ).2.2.1 q hq).2 p
        .exact((uh HJ).2.2.1 q hq).1 p
       have ae4:=ae (uh HJ).2.1 (λq hq=>IK.block q ((uh HJ).2.1.lt q hq).2 (Dp q (by simpa using hq)));have ae3:∀q∈(Value.slice (some ⟨g3,0,none⟩) (dd y.f).length gc).ownBlock.toList,q ∉ bf v8 (LD++L8)/\q≠S:=λq hq=>⟨λhn=>by
        rcases IK.foot q (mem_cons_of_mem _ hn) with p|p
        .exact Dp q hq p
        .have:=((uh HJ).2.1.lt q (by simpa using hq)).2;omega,((uh HJ).2.2.1 q hq).2⟩
       have afr:∀q∈LD++L8,Td q.f:=λq hq=>(mem_append.1 hq).elim ((uh HJ).2.2.2.1 q) (agS q);have agk:(LD++L8).length<=im+1:=by
        have:=uh HLE;rw[<-Pw,length_map]at this;exact this
       have Pc:((dd y.f).drop (j+1)).foldl (eW c y.f) ((LD++L8).map (·.f),R2.2)=R1:=(by rw[Pw];exact uh HFo);have HN:=ab (zq2 ae0 (zq2 ae4 (zq2 ae3 (zq2 afr (zq2 Pc (zq2 agk (zq2 (show k+1<=(LD++L8).length by rw[length_append];have:=(uh HJ).2.2.2.2.2.2.1;omega) (show y∈LD++L8 from mem_append_left _ (uh HJ).2.2.2.2.2.2.2))))))));clear afR agS Pw O4 C7 IK ae0 Dp ae4 ae3 afr agk Pc HJ HFD HLE HFo;go_wp2_with fail
       go_roundg (G2-1)
       case rel=>exact⟨j+1,LD++L8,R2.2,by omega,by go_num,HN⟩
       case measure=>omega
      .have k6:decide ((j:Int)<((dd y.f).length:Int))=false:=(by simp;omega);have Lc:(LD.map (·.f),sa)=R1:=by
        have:=(uh hJ).2.2.2.2.1;rw[drop_eq_nil_of_le (by omega)]at this;exact this
       have HN:=ab (zq2 (uh hJ).1 (zq2 (uh hJ).2.2.2.1 (zq2 (fun(q:FE) (hq:q∈LR++[z])=>(mem_append.1 hq).elim ((uh HI).2.2.1 q) (λp=>by rw[mem_singleton.1 p,uh HZ];exact GT (uh HYT).ok)) (zq2 (show iq c m (k+1) ((LR++[z]).map (·.f)) (LD.map (·.f),sa)=R by rw[Lc,map_append,map_singleton,uh HZ];exact uh Yo) (zq2 (uh hJ).2.2.2.2.2.1 (zq2 (uh hJ).2.2.2.2.2.2.1 (show(LR++[z]).length=k+1 by rw[length_append,uh WK];rfl)))))));clear Lc hJ;go_wp2_with fail
       go_roundg m
       case rel=>exact⟨k+1,LD,LR++[z],sa,by go_num,HN⟩
       case measure=>omega
   .rw[dY]at c8;have fq:=(uh hI).2.2.2.1;rw[hm,Ih (λh=>by rw[dY]at h;cases h.2)]at fq;have Ha:=ab fq;clear fq;go_wp2_with fail
    go_ret;obtain⟨v',L',h1,h2,h3,h4,h5,h6,h7⟩:=Ik (uh hI).1 (uh hI).2.2.1 (uh Ha);exact⟨v',h1,L',h2,h3,h4,h5,h6,h7⟩
  .have hd:decide ((k:Int)<(LC.length:Int))=false:=(by simp;omega);have fq:=(uh hI).2.2.2.1;rw[hm,Ih (λh=>au (by simpa using h.1))]at fq;have Ha:=ab fq;clear fq;go_wp2_with fail
   go_ret;obtain⟨v',L',h1,h2,h3,h4,h5,h6,h7⟩:=Ik (uh hI).1 (uh hI).2.2.1 (uh Ha);exact⟨v',h1,L',h2,h3,h4,h5,h6,h7⟩
end
theorem Zq{c:Cd}(r:List CF × Sr)(g:CF):(l8 c r g).2.lo=r.2.lo:=by unfold l8;split <;> rfl
theorem ul{β:Type}(g:List CF × Sr->β->List CF × Sr)(hg:∀r b,(g r b).2.lo=r.2.lo):∀(l:List β) (r:List CF × Sr),(l.foldl g r).2.lo=r.2.lo
 |[],_=>rfl
 |b::l,r=>(ul g hg l (g r b)).trans (hg r b)
theorem Zt{c:Cd}{f:CF}{i:Nat}(r:List CF × Sr)(a:Nat):(oT c f i r a).2.lo=r.2.lo:=by
 unfold oT;split
 .exact ul _ Zq _ _
 .rfl
theorem T5{c:Cd}{f:CF}(r:List CF × Sr)(i:Nat):(eW c f r i).2.lo=r.2.lo:=ul _ Zt _ _
theorem Oe{c:Cd}:∀(n k:Nat) (res:List CF) (r:List CF × Sr),(iq c n k res r).2.lo=r.2.lo
 |0,_,_,_=>rfl
 |n+1,k,res,r=>by
  unfold iq;split
  .rw[Oe n];unfold ug;split
   .rfl
   .exact ul _ T5 _ _
  .rfl
theorem oh{c:Cd}{n:Nat}{f:CF}{s:Sr}(h:(bz c n f s).ok=true):s.ok=true/\(br s n).length<=tH:=by
 have h1:(s.ok&&decide ((br s n).length<=tH))=true:=by
  unfold bz at h;split at h
  .exact h
  .exact h
 rw[Bool.and_eq_true,decide_eq_true_eq]at h1;exact h1
theorem jy{c:Cd}{n:Nat}:∀(l:List CF) {s:Sr},(l.foldl (λs g=>bz c n g s) s).ok=true->s.ok=true
 |[],_,h=>h
 |_::l,_,h=>(oh (jy l h)).1
theorem Nb{c:Cd}{fuel a b:Nat}{f:CF}{s:Sr}(h:(dV c fuel a b f s).ok=true):s.ok=true:=by
 unfold dV at h;split at h
 .exact(oh h).1
 .have h1:=jy _ h;exact vJ fuel 0 [] ([f],kQ a 2 s) h1
theorem eT{c:Cd}{fuel a b:Nat}:∀(l:List CF) {s:Sr},(l.foldl (λs g=>dV c fuel a b g s) s).ok=true->s.ok=true
 |[],_,h=>h
 |_::l,_,h=>Nb (eT l h)
def Apt(O:List (Option Nat)):Prop:=∀i j k:Nat,O[i]?=some (some k)->O[j]?=some (some k)->i=j
def Ua(O:List (Option Nat)):List Nat:=O.filterMap id
theorem aU{O:List (Option Nat)}{k:Nat}:k∈Ua O↔∃i:Nat,O[i]?=some (some k):=by
 unfold Ua;rw[mem_filterMap];constructor
 .rintro⟨a,ha,e⟩;obtain⟨i,hi⟩:=mem_iff_getElem?.1 ha;exact⟨i,by rw[hi];exact congrArg some e⟩
 .rintro⟨i,hi⟩;exact⟨some k,mem_of_getElem? hi,rfl⟩
theorem Apt.set{O:List (Option Nat)}(h:Apt O)(p:Nat){o:Option Nat}(ho:∀k,o=some k->O[p]?=some (some k)\/∀j:Nat,O[j]?≠some (some k)):Apt (O.set p o):=by
 intro i j k hi hj;rw[getElem?_set]at hi hj;by_cases e1:p=i
 .by_cases e2:p=j
  .exact e1.symm.trans e2
  .rw[if_pos e1]at hi;rw[if_neg e2]at hj;split at hi
   .simp only[Option.some.injEq]at hi;rcases ho k hi with q|q
    .exact e1.symm.trans (h _ _ _ q hj)
    .exact absurd hj (q j)
   .simp at hi
 .rw[if_neg e1]at hi;by_cases e2:p=j
  .rw[if_pos e2]at hj;split at hj
   .simp only[Option.some.injEq]at hj;rcases ho k hj with q|q
    .exact(h _ _ _ hi q).trans e2
    .exact absurd hi (q i)
   .simp at hj
  .rw[if_neg e2]at hj;exact h _ _ _ hi hj
def aJ:Value:=.slice none 0 0
structure En where
 D:Nat
 x:FE
 d:Bool
def En.bs(e:En):List Nat:=e.D::e.x.bs
def En.c(e:En):List Value:=[.pointer (some ⟨e.D,0,none⟩),.bool e.d]
def En.m(e:En):ii:=⟨e.x.f,e.d⟩
def rG(L:List En):List Value:=L.flatMap En.c
def En.ok(w:World)(e:En):Prop:=rC w e.D e.x.A e.x.f e.x.av e.x.ov/\Td e.x.f
theorem TS(L:List En):(rG L).length=L.length*2:=by
 induction L with
 |nil=>rfl
 |cons a L ih =>
  unfold rG at ih ⊢;rw[flatMap_cons,length_append,ih,length_cons];show 2+_=_;omega
theorem TR(L M:List En):rG (L++M)=rG L++rG M:=by unfold rG;rw[flatMap_append]
theorem N1(L:List En)(k:Nat):(rG L).take (k*2)=rG (L.take k):=by
 induction L generalizing k with
 |nil=>simp[rG]
 |cons a L ih =>
  cases k with
  |zero=>simp[rG]
  |succ k =>
   have:=ih k;unfold rG at this ⊢;rw[take_succ_cons,flatMap_cons,flatMap_cons,<-this,show(k+1)*2=(k*2)+1+1 by omega];rfl
theorem qC{L:List En}{i:Nat}(hi:i<L.length):(rG L)[i*2]?=some (.pointer (some ⟨L[i].D,0,none⟩))/\(rG L)[i*2+1]?=some (.bool L[i].d):=by
 induction L generalizing i with
 |nil=>simp at hi
 |cons a L ih =>
  cases i with
  |zero=>exact⟨rfl,rfl⟩
  |succ i =>
   have:=ih (i:=i) (by simpa using hi);unfold rG at this ⊢;rw[flatMap_cons,show(i+1)*2=(i*2)+1+1 by omega,show i*2+1+1+1=(i*2+1)+1+1 by omega];exact this
theorem If{L:List En}{i:Nat}(hi:i<L.length)(e:En):((rG L).set (i*2) (.pointer (some ⟨e.D,0,none⟩))).set (i*2+1) (.bool e.d)=rG (L.set i e):=by
 induction L generalizing i with
 |nil=>simp at hi
 |cons a L ih =>
  cases i with
  |zero=>rfl
  |succ i =>
   have:=ih (i:=i) (by simpa using hi);unfold rG at this ⊢;rw[set_cons_succ,flatMap_cons,flatMap_cons,<-this,show(i+1)*2=(i*2)+1+1 by omega,show i*2+1+1+1=(i*2+1)+1+1 by omega];rfl
def pB(S:Nat)(hv kv wv:Value)(KV WV:List Value):List (Option Nat):=some S::hv.ownBlock::kv.ownBlock::wv.ownBlock::(KV.map Value.ownBlock++WV.map Value.ownBlock)
def cZ(S:Nat)(hv kv wv:Value)(KV WV:List Value):List Nat:=Ua (pB S hv kv wv KV WV)
def et(K:List (List En)):List Nat:=K.flatMap (λl=>l.flatMap En.bs)
theorem bC{K:List (List En)}{k:Nat}:k∈et K↔∃l∈K,∃e∈l,k∈e.bs:=by
 unfold et;simp only[mem_flatMap]
structure Sh(w:World)(S:Nat)(c:Cd)(c0 hv kv wv:Value)(KV WV:List Value)(K:List (List En))(s:Sr):Prop where
 bs:Bk w S 229 (qt c0 hv c.lp kv wv c.bd s.lf s.lo s.fu)
 hr:w.ownsRow 0 4 1 hv c.hd.length (dp c.hd)
 kr:w.ownsRow 0 255 1 kv K.length KV
 ke:∀i,i<K.length->w.ownsRow 0 258 2 (KV.getD i aJ) (K.getD i []).length (rG (K.getD i []))
 wr:w.ownsRow 0 200 1 wv K.length WV
 we:∀i,i<K.length->w.ownsRow 0 4 1 (WV.getD i aJ) 5 (dp (s.wr.getD i []))
 wl:s.wr.length=K.length
 hl:c.hd.length=K.length
 nl:c.nds.length=K.length
 km:s.kn=K.map (λl=>l.map En.m)
 dr:∀l∈K,∀e∈l,e.ok w
 nd:Apt (pB S hv kv wv KV WV)
 da:∀k∈et K,k ∉ cZ S hv kv wv KV WV
section
variable {w w':World} {S:Nat} {c:Cd} {c0 hv kv wv:Value} {KV WV:List Value} {K:List (List En)} {s:Sr}
theorem Sh.kvl(h:Sh w S c c0 hv kv wv KV WV K s):KV.length=K.length:=by have:=h.kr.1;omega
theorem Sh.wvl(h:Sh w S c c0 hv kv wv KV WV K s):WV.length=K.length:=by have:=h.wr.1;omega
theorem yA{i:Nat}(hi:i<KV.length):(pB S hv kv wv KV WV)[4+i]?=some (KV.getD i aJ).ownBlock:=by
 unfold pB;rw[show 4+i=i+1+1+1+1 by omega];simp only[getElem?_cons_succ];rw[getElem?_append_left (by simpa using hi)];simp[hi]
theorem Bz{i:Nat}(hi:i<WV.length):(pB S hv kv wv KV WV)[4+(KV.length+i)]?=some (WV.getD i aJ).ownBlock:=by
 unfold pB;rw[show 4+(KV.length+i)=(KV.length+i)+1+1+1+1 by omega];simp only[getElem?_cons_succ];rw[getElem?_append_right (by simp)];simp[hi]
theorem Gv{n:Nat}(v:Value)(hn:n<KV.length):pB S hv kv wv (KV.set n v) WV=(pB S hv kv wv KV WV).set (4+n) v.ownBlock:=by
 unfold pB;rw[show 4+n=n+1+1+1+1 by omega];simp only[set_cons_succ];rw[set_append_left _ _ (by simpa using hn),map_set]
theorem Qx{i k:Nat}(h:(pB S hv kv wv KV WV)[i]?=some (some k)):i=0/\k=S\/i=1/\hv.ownBlock=some k\/i=2/\kv.ownBlock=some k\/i=3/\wv.ownBlock=some k\/(∃j,j<KV.length/\i=4+j/\(KV.getD j aJ).ownBlock=some k)\/∃j,j<WV.length/\i=4+(KV.length+j)/\(WV.getD j aJ).ownBlock=some k:=by
 unfold pB at h;match i with
 |0=>left;simpa[eq_comm] using h
 |1=>right;left;simpa using h
 |2=>right;right;left;simpa using h
 |3=>right;right;right;left;simpa using h
 |i+4 =>
  simp only[getElem?_cons_succ]at h;by_cases hl:i<KV.length
  .right;right;right;right;left;rw[getElem?_append_left (by simpa using hl)]at h;refine⟨i,hl,by omega,?_⟩;simpa[hl] using h
  .right;right;right;right;right;rw[getElem?_append_right (by simp;omega)]at h;have yq:i-KV.length<WV.length:=by
    have:=(List.getElem?_eq_some_iff.1 h).1;simpa using this
   refine⟨i-KV.length,yq,by omega,?_⟩;simpa[yq] using h
theorem Sh.lt(h:Sh w S c c0 hv kv wv KV WV K s):∀k∈cZ S hv kv wv KV WV,k<w.heap.size:=by
 intro k hk;obtain⟨i,hi⟩:=aU.1 hk;rcases Qx hi with⟨-,rfl⟩|⟨-,e⟩|⟨-,e⟩|⟨-,e⟩|⟨j,hj,-,e⟩|⟨j,hj,-,e⟩
 .exact h.bs.lt
 .exact(h.hr.lt k e).2
 .exact(h.kr.lt k e).2
 .exact(h.wr.lt k e).2
 .exact((h.ke j (by rw[<-h.kvl];exact hj)).lt k e).2
 .exact((h.we j (by rw[<-h.wvl];exact hj)).lt k e).2
theorem Sh.drlt(h:Sh w S c c0 hv kv wv KV WV K s):∀k∈et K,k<w.heap.size:=by
 intro k hk;obtain⟨l,hl,e,he,hk⟩:=bC.1 hk;exact(h.dr l hl e he).1.lt k hk
theorem bQ{i k:Nat}(h:(pB S hv kv wv KV WV)[i]?=some (some k)):k∈cZ S hv kv wv KV WV:=aU.2 ⟨i,h⟩
theorem gO:S∈cZ S hv kv wv KV WV:=bQ (i:=0) rfl
theorem En.ok.of_eq{e:En}(h:e.ok w)(he:∀k∈e.bs,w'.heap[k]?=w.heap[k]?):e.ok w':=⟨h.1.of_eq he,h.2⟩
theorem Sh.of_eq(h:Sh w S c c0 hv kv wv KV WV K s)(he:∀k∈cZ S hv kv wv KV WV,w'.heap[k]?=w.heap[k]?)(hd:∀k∈et K,w'.heap[k]?=w.heap[k]?):Sh w' S c c0 hv kv wv KV WV K s:=by
 have hK:=h.kvl;have hW:=h.wvl;refine⟨h.bs.of_eq (he S gO),ae h.hr (λk hk=>he k (bQ (i:=1) (congrArg some hk))),ae h.kr (λk hk=>he k (bQ (i:=2) (congrArg some hk))),λi hi=>ae (h.ke i hi) (λk hk=>he k (bQ ((yA (by omega)).trans (congrArg some hk)))),ae h.wr (λk hk=>he k (bQ (i:=3) (congrArg some hk))),λi hi=>ae (h.we i hi) (λk hk=>he k (bQ ((Bz (by omega)).trans (congrArg some hk)))),h.wl,h.hl,h.nl,h.km,λl hl e mJ=>(h.dr l hl e mJ).of_eq (λk hk=>hd k (bC.2 ⟨l,hl,e,mJ,hk⟩)),h.nd,h.da⟩
theorem Sh.below(h:Sh w S c c0 hv kv wv KV WV K s)(hb:Below w.heap.size w w'):Sh w' S c c0 hv kv wv KV WV K s:=h.of_eq (λk hk=>hb.block k (h.lt k hk)) (λk hk=>hb.block k (h.drlt k hk))
theorem Sh.stp{F F':List Nat}(h:Sh w S c c0 hv kv wv KV WV K s)(hs:ar F w F' w')(h1:∀k∈cZ S hv kv wv KV WV,k ∉ F)(h2:∀k∈et K,k ∉ F):Sh w' S c c0 hv kv wv KV WV K s:=h.of_eq (λk hk=>hs.block k (h.lt k hk) (h1 k hk)) (λk hk=>hs.block k (h.drlt k hk) (h2 k hk))
theorem Sh.own{F F':List Nat}(h:Sh w S c c0 hv kv wv KV WV K s){s':Sr}(hb:Bk w' S 229 (qt c0 hv c.lp kv wv c.bd s'.lf s'.lo s'.fu))(hs:ar F w F' w')(hF:∀k∈F,k=S\/k ∉ cZ S hv kv wv KV WV/\k ∉ et K)(e1:s'.kn=s.kn)(e2:s'.wr=s.wr):Sh w' S c c0 hv kv wv KV WV K s':=by
 have aH:∀i k,i≠0->(pB S hv kv wv KV WV)[i]?=some (some k)->w'.heap[k]?=w.heap[k]?:=λi k lw hi =>
  hs.block k (h.lt k (bQ hi)) (λhk=>by
   rcases hF k hk with p|p
   .subst p;exact lw (h.nd i 0 k hi rfl)
   .exact p.1 (bQ hi))
 have hK:=h.kvl;have hW:=h.wvl;refine⟨hb,ae h.hr (λk hk=>aH 1 k (by omega) (congrArg some hk)),ae h.kr (λk hk=>aH 2 k (by omega) (congrArg some hk)),λi hi=>ae (h.ke i hi) (λk hk=>aH _ k (by omega) ((yA (by omega)).trans (congrArg some hk))),ae h.wr (λk hk=>aH 3 k (by omega) (congrArg some hk)),λi hi=>?_,by rw[e2];exact h.wl,h.hl,h.nl,by rw[e1];exact h.km,λl hl e mJ=>(h.dr l hl e mJ).of_eq (λk hk=>?_),h.nd,h.da⟩
 .rw[e2];exact ae (h.we i hi) (λk hk=>aH _ k (by omega) ((Bz (by omega)).trans (congrArg some hk)))
 .have hm:=bC.2 ⟨l,hl,e,mJ,hk⟩;refine hs.block k (h.drlt k hm) (λhq=>?_);rcases hF k hq with p|p
  .exact h.da k hm (by rw[p];exact gO)
  .exact p.2 hm
theorem Sh.put (h:Sh w S c c0 hv kv wv KV WV K s) {n:Nat} (hn:n<K.length) {v':Value} {l':List En} (he:∀i k,i≠2->i≠4+n->(pB S hv kv wv KV WV)[i]?=some (some k)->w'.heap[k]?=w.heap[k]?)
  (hk:w'.ownsRow 0 255 1 kv K.length (KV.set n v')) (hr:w'.ownsRow 0 258 2 v' l'.length (rG l')) (hv':∀k,v'.ownBlock=some k->(KV.getD n aJ).ownBlock=some k\/w.heap.size<=k)
  (hd:∀k∈et K,w'.heap[k]?=w.heap[k]?) (hl:∀e∈l',e.ok w'/\∀k∈e.bs,k ∉ cZ S hv kv wv (KV.set n v') WV):Sh w' S c c0 hv kv wv (KV.set n v') WV (K.set n l') { s with kn:=s.kn.set n (l'.map En.m) }:=by
 have hK:=h.kvl;have hW:=h.wvl;have hnK:n<KV.length:=by omega
 have us:∀k∈cZ S hv kv wv (KV.set n v') WV,k∈cZ S hv kv wv KV WV\/w.heap.size<=k:=λk hk=>by
  obtain⟨i,hi⟩:=aU.1 hk;rw[Gv v' hnK,getElem?_set]at hi;split at hi
  .rename_i e;split at hi
   .simp only[Option.some.injEq]at hi;rcases hv' k hi with q|q
    .exact zq0 (bQ ((yA hnK).trans (congrArg some q)))
    .exact zq1 q
   .simp at hi
  .exact zq0 (bQ hi)
 have zj:(K.set n l').length=K.length:=length_set;refine⟨h.bs.of_eq (he 0 S (by omega) (by omega) rfl),ae h.hr (λk hk=>he 1 k (by omega) (by omega) (congrArg some hk)),by rw[zj];exact hk,λi hi=>?_,by rw[zj];exact ae h.wr (λk hk=>he 3 k (by omega) (by omega) (congrArg some hk)),λi hi=>?_,by rw[zj];exact h.wl,by rw[zj];exact h.hl,by rw[zj];exact h.nl,?_,λl yq e mJ=>?_,?_,λk hk hm=>?_⟩
 .rw[zj]at hi;by_cases e:i=n
  .subst e;have e1:(KV.set i v').getD i aJ=v':=(by simp[hnK]);have e2:(K.set i l').getD i []=l':=(by simp[hn]);rw[e1,e2];exact hr
  .have e1:(KV.set n v').getD i aJ=KV.getD i aJ:=by
    rw[getD_eq_getElem?_getD,getElem?_set_ne (λe'=>e e'.symm),<-getD_eq_getElem?_getD]
   have e2:(K.set n l').getD i []=K.getD i []:=by
    rw[getD_eq_getElem?_getD,getElem?_set_ne (λe'=>e e'.symm),<-getD_eq_getElem?_getD]
   rw[e1,e2];exact ae (h.ke i hi) (λk hk=>he _ k (by omega) (by omega) ((yA (by omega)).trans (congrArg some hk)))
 .rw[zj]at hi;exact ae (h.we i hi) (λk hk=>he _ k (by omega) (by omega) ((Bz (by omega)).trans (congrArg some hk)))
 .show s.kn.set n _=_;rw[h.km,map_set]
 .rcases mem_or_eq_of_mem_set yq with p|p
  .exact(h.dr l p e mJ).of_eq (λk hk=>hd k (bC.2 ⟨l,p,e,mJ,hk⟩))
  .subst p;exact(hl e mJ).1
 .rw[Gv v' hnK];refine h.nd.set (4+n) (λk hk=>?_);rcases hv' k hk with q|q
  .exact zq0 ((yA hnK).trans (congrArg some q))
  .exact zq1 (λj hj=>by have:=h.lt k (bQ hj);omega)
 .obtain⟨l,yq,e,mJ,mL⟩:=bC.1 hk;rcases mem_or_eq_of_mem_set yq with p|p
  .have hq:=bC.2 ⟨l,p,e,mJ,mL⟩;rcases us k hm with q|q
   .exact h.da k hq q
   .have:=h.drlt k hq;omega
  .subst p;exact(hl e mJ).2 k mL hm
theorem Sh.bad(h:Sh w S c c0 hv kv wv KV WV K s){n:Nat}(hn:n<K.length){t:Nat}(ht:t<5){g cap:Nat}(hg:WV.getD n aJ=.slice (some ⟨g,0,none⟩) 5 cap):Sh (w.setCell ⟨g,t,none⟩ (.bool true)) S c c0 hv kv wv KV WV K (kQ n t s)/\g∈cZ S hv kv wv KV WV:=by
 have hK:=h.kvl;have hW:=h.wvl;have oW:(pB S hv kv wv KV WV)[4+(KV.length+n)]?=some (some g):=by rw[Bz (by omega),hg];rfl
 have aH:∀i k,i≠4+(KV.length+n)->(pB S hv kv wv KV WV)[i]?=some (some k)->(w.setCell ⟨g,t,none⟩ (.bool true)).heap[k]?=w.heap[k]?:=λi k hi hk=>by
  refine heap_setCell _ _ _ _ (λe=>hi ?_);rw[show k=g from e]at hk;exact h.nd i _ g hk oW
 refine⟨⟨h.bs.of_eq (aH 0 S (by omega) rfl),ae h.hr (λk hk=>aH 1 k (by omega) (congrArg some hk)),ae h.kr (λk hk=>aH 2 k (by omega) (congrArg some hk)),λi hi=>ae (h.ke i hi) (λk hk=>aH _ k (by omega) ((yA (by omega)).trans (congrArg some hk))),ae h.wr (λk hk=>aH 3 k (by omega) (congrArg some hk)),λi hi=>?_,?_,h.hl,h.nl,h.km,λl hl e mJ=>(h.dr l hl e mJ).of_eq (λk hk=>?_),h.nd,h.da⟩,bQ oW⟩
 .by_cases e:i=n
  .subst e;have h1:=h.we i hi;rw[hg]at h1 ⊢;have h2:=(h1.stored t (.bool true)).1;have e3:(kQ i t s).wr.getD i []=(s.wr.getD i []).set t true:=by
    show(s.wr.set i _).getD i []=_;have:i<s.wr.length:=(by rw[h.wl];exact hi);simp[this]
   rw[e3];have e4:dp ((s.wr.getD i []).set t true)=(dp (s.wr.getD i [])).set t (.bool true):=(by unfold dp;rw[map_set]);rw[e4];exact h2
  .have e3:(kQ n t s).wr.getD i []=s.wr.getD i []:=by
    show(s.wr.set n _).getD i []=_;rw[getD_eq_getElem?_getD,getElem?_set_ne (λe'=>e e'.symm),<-getD_eq_getElem?_getD]
   rw[e3];exact ae (h.we i hi) (λk hk=>aH _ k (by omega) ((Bz (by omega)).trans (congrArg some hk)))
 .show(s.wr.set n _).length=_;rw[length_set];exact h.wl
 .have hm:=bC.2 ⟨l,hl,e,mJ,hk⟩;refine heap_setCell _ _ _ _ (λe'=>h.da k hm ?_);rw[show k=g from e'];exact bQ oW
end
section
variable {P:Program} (w:World)
theorem D6 (base:Nat) (t ty e:TypeId) (i:TypeInfo) (z:Value) (size bytes:Nat) (ht:P.underlying t=some (.slice e)) (hi:P.info? e=some i) (hz:i.zero=some z)
  (jS:i.size=size) (FK:i.bytes=bytes) (Lg:z.cells.size=size) (mP:0<size)
  (v:Value) (n:Nat) (xs:List Value) (aL:w.ownsRow base e size v n xs)
  (a:Addr) (c:Nat) (news:List Value) (hl:news.length=size) (iI:∀j u,news[j]?=some u->w.cell? (a.add j)=some u) (h1:∀u∈news,u.oneCell'=true)
  (KA:n+1<=2000000000000) (hb:bytes<=16) (gJ:base<=w.heap.size) :
  ∃v' w',(Builtin.append_ #[t,t] ty #[v,.slice (some a) 1 c]).run P w=.ok v' w'/\w'.ownsRow base e size v' (n+1) (xs++news)/\w.grownBy w' v.ownBlock /\
   (v'.ownBlock=v.ownBlock\/v'.ownBlock=some w.heap.size)/\∃g cap,v'=.slice (some ⟨g,0,none⟩) (n+1) cap:=by
 have hbytes:(n+1)*bytes<=140737488355328:=zq3 (Nat.mul_le_mul KA hb) (by decide);obtain⟨v',w',hr,ho,hg,_⟩:=run_append_own (P:=P) w base t ty e i z size bytes ht hi hz jS FK Lg mP v n xs aL a 1 c news (by omega) iI h1 (by unfold maxLen;omega) hbytes gJ;refine⟨v',w',hr,ho,hg,?_,?_⟩
 .subst jS;subst FK;rcases aL.2 with⟨rfl,rfl⟩|⟨g,cap,cur,rfl,nX,UC,Mt,oU,De,PM⟩
  .have ki:=run_append_nil (P:=P) w t ty e i z ht hi hz a 1 c news (by omega) iI (by omega) (by omega) (by omega);rw[hr]at ki;injection ki with e1 e2;subst e1;exact zq1 rfl
  .by_cases Du:n+1<=cap
   .have FN:n*i.size+news.length<=cur.size:=by
     rw[hl,De];have:=Nat.mul_le_mul_right i.size Du;rw[Nat.add_mul]at this;omega
    have ki:=run_append_room (P:=P) w t ty e i ht hi g n cap cur UC a 1 c news (by omega) iI h1 Du FN;rw[hr]at ki;injection ki with e1 e2;subst e1;exact zq0 rfl
   .have holds:∀j u,xs[j]?=some u->w.cell? ((⟨g,0,none⟩:Addr).add j)=some u:=aL.cells (g:=g) rfl;have ki:=run_append_grow (P:=P) w t ty e i z ht hi hz ⟨g,0,none⟩ n cap xs aL.1 holds a 1 c news (by omega) iI (by omega) (by omega) (growslice_fits (by omega) hbytes);rw[hr]at ki;injection ki with e1 e2;subst e1;exact zq1 rfl
 .rcases ho.2 with⟨_,h⟩|⟨g,cap,_,h,_⟩
  .omega
  .exact⟨g,cap,h⟩
theorem tB {ops:Array Oper} {rest:List Oper} {o:Oper} {a:Act} {Q:Exit->Act->World->Prop}
  (hg:o.guard=none) (s x:Operand) (t:TypeId) (pw:o.op=Op.call { callee:=Callee.builtin Builtin.append,args:=#[s,x],argTypes:=#[t,t] })
  (base:Nat) (e:TypeId) (i:TypeInfo) (z:Value) (size bytes:Nat) (ht:P.underlying t=some (.slice e)) (hi:P.info? e=some i) (hz:i.zero=some z)
  (jS:i.size=size) (FK:i.bytes=bytes) (Lg:z.cells.size=size) (mP:0<size)
  (v:Value) (n:Nat) (xs:List Value) (hs:a.eval s=v) (aL:w.ownsRow base e size v n xs)
  (ad:Addr) (c:Nat) (news:List Value) (hx:a.eval x=.slice (some ad) 1 c) (hl:news.length=size) (iI:∀j u,news[j]?=some u->w.cell? (ad.add j)=some u) (h1:∀u∈news,u.oneCell'=true)
  (KA:n+1<=2000000000000) (hb:bytes<=16) (gJ:base<=w.heap.size)
  (hK:∀g cap w',w'.ownsRow base e size (.slice (some ⟨g,0,none⟩) (n+1) cap) (n+1) (xs++news)->w.grownBy w' v.ownBlock->(some g=v.ownBlock\/g=w.heap.size)->wpList P ops Q rest (a.put o.dst (.slice (some ⟨g,0,none⟩) (n+1) cap)) w') :
  wpList P ops Q (o::rest) a w:=by
 refine wpList_plain hg λK hK'=>?_;obtain⟨v',w',Gb,r1,r2,r3,g,cap,rfl⟩:=D6 (P:=P) w base t o.type e i z size bytes ht hi hz jS FK Lg mP v n xs aL ad c news hl iI h1 KA hb gJ;unfold Oper.wp;simp[execOp,pw,resolve,invoke,builtin,hs,hx,Gb,Result.andThen];exact hK' _ _ (hK g cap w' r1 r2 (by simpa[Value.ownBlock] using r3))
end
