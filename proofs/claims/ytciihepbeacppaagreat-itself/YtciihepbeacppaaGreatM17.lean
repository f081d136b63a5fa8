import Derived.Test.YtciihepbeacppaaGreatM16
set_option maxRecDepth 100000
set_option maxHeartbeats 0
namespace Go.Proofs.YtciihepbeacppaaGreat
open Tryz Go.RowKit List World Below
set_option linter.unusedVariables false
section
variable {w:World} {v1 v2:Value} {l1 l2:List Pr}
theorem wP(h1:w.ownsRow 0 182 3 v1 l1.length (af l1))(h2:w.ownsRow 0 182 3 v2 l2.length (af l2))(hl:l1.length<=100000)(sP:l2.length<=100000):Calls prog 267 #[v1,v2] w λe w'=>e=.returned (.bool (pS l1 l2))/\∃n,w'=w.drewN n:=by
 obtain⟨a1,c1,WO,-,-⟩:=aj h1;subst WO;obtain⟨a2,c2,GS,-,-⟩:=aj h2;subst GS;by_cases sQ:l1.length=l2.length
 .have d0:((l1.length:Int) != (l2.length:Int))=false:=by simp[sQ]
  have I1:=ab sQ;obtain⟨B,hB⟩:∃B,B=pS l1 l2:=⟨_,rfl⟩;have HB:=ab hB;rw[<-hB];have H1:=ab h1;have H2:=ab h2;have bX:Hid ((∃n,w=w.drewN n)/\∀i,i<0->CC (l1.getD i au) (l2.getD i au)=true):=ab ⟨⟨0,rfl⟩,λi hi=>by omega⟩;clear h1 h2 hB sQ;go_enter func267,ntmps267;go_wp2_with fail
  go_loopw [5] (λiv wx=>∃(k:Nat),k<=l1.length/\iv=.int .i64 k/\Hid ((∃n,wx=w.drewN n)/\∀i,i<k->CC (l1.getD i au) (l2.getD i au)=true)) (λiv _=>l1.length-(intOf iv).toNat)
  case atStart=>exact⟨0,zq5 _,rfl,bX⟩
  case round =>
   clear bX;obtain⟨k,hk,rfl,hI⟩:=hrel;obtain⟨n0,oq⟩:=(uh hI).1;subst oq;by_cases aq:k<l1.length
   .have hd:decide ((k:Int)<(l1.length:Int))=true:=(by simp;omega);have bI:k<l2.length:=(by have:=uh I1;omega);obtain⟨g1,cap1,JP,-,-⟩:=az (uh H1) aq;simp only[Value.slice.injEq,true_and]at JP;obtain⟨rfl,rfl⟩:=JP;obtain⟨g2,cap2,NL,-,-⟩:=az (uh H2) bI;simp only[Value.slice.injEq,true_and]at NL;obtain⟨rfl,rfl⟩:=NL;obtain⟨x0,x1,x2⟩:=ax (uh H1) aq;obtain⟨y0,y1,y2⟩:=ax (uh H2) bI;obtain⟨p,hp⟩:∃p,p=l1.getD k au:=⟨_,rfl⟩;obtain⟨q,hq⟩:∃q,q=l2.getD k au:=⟨_,rfl⟩;rw[<-hp]at x0 x1 x2;rw[<-hq]at y0 y1 y2;have hgd:=M9;have yU:∀W:World,(binOp .neq 182 (.agg #[.int .i64 (p.k:Int),.int .i64 (p.l:Int),.int .i64 (p.r:Int)]) (.agg #[.int .i64 (q.k:Int),.int .i64 (q.l:Int),.int .i64 (q.r:Int)])).run prog W=.ok (.bool (!CC p q)) W:=λW=>by rw[agP,Ik]
    have HPQ:Hid (CC p q=CC (l1.getD k au) (l2.getD k au)):=ab (by rw[hp,hq]);have i1:(0:Int)<=(k:Int):=(by omega);have i2:(k:Int)<(l1.length:Int):=(by omega);have i3:(k:Int)<(l2.length:Int):=(by omega);clear hp hq;cases TG:CC p q
    .rw[TG]at yU HPQ;rw[show(!false)=true from rfl]at yU;have HF:Hid (B=false):=ab (by
      rw[uh HB];unfold pS;rw[Bool.and_eq_false_iff];right;rw[all_eq_false];exact⟨k,mem_range.2 aq,by rw[<-uh HPQ];simp⟩)
     clear TG;go_wp2_with fail
     go_quiet (fail)
     go_wp2_with fail
     go_ret;exact⟨aB (uh HF).symm,_,drewN_drewN _ _ _⟩
    .rw[TG]at yU HPQ;rw[show(!true)=false from rfl]at yU;clear TG;go_wp2_with fail
     go_quiet (fail)
     go_wp2_with fail
     go_roundw
     case rel=>exact⟨k+1,by omega,by go_num,ab ⟨⟨_,rfl⟩,λi hi=>by
      by_cases e:i=k
      .rw[e];exact(uh HPQ).symm
      .exact(uh hI).2 i (by omega)⟩⟩
     case measure=>simp[intOf];omega
   .have hd:decide ((k:Int)<(l1.length:Int))=false:=(by simp;omega);have HT:Hid (B=true):=ab (by
     rw[uh HB];unfold pS;rw[Bool.and_eq_true,all_eq_true];exact⟨by simpa using uh I1,λi hi=>(uh hI).2 i (by have:=mem_range.1 hi;omega)⟩)
    go_wp2_with fail
    go_ret;exact⟨aB (uh HT).symm,n0,rfl⟩
 .have d0:((l1.length:Int) != (l2.length:Int))=true:=by rw[bne_iff_ne];omega
  have HF:Hid (pS l1 l2=false):=ab (by unfold pS;simp[sQ]);clear h1 h2;go_enter func267,ntmps267;go_wp2_with fail
  go_ret;exact⟨aB (uh HF).symm,0,rfl⟩
end
theorem Yk(a b c d e a' b' c' d' e':Int)(w:World):(Op.equalIn 10000 176 (.agg #[.int .i64 a,.int .i64 b,.int .i64 c,.int .i64 d,.int .i64 e]) (.agg #[.int .i64 a',.int .i64 b',.int .i64 c',.int .i64 d',.int .i64 e'])).run prog w=.ok (a==a'&&(b==b'&&(c==c'&&(d==d'&&e==e')))) w:=by
 have u3:=underlying3;have a3:=Tryz.isAgg3;have z3:=sizeOf3;rw[show(10000:Nat)=9999+1 from rfl,Op.equalIn];simp only[Sem.run_bind,run_underlying underlying176,Result.andThen_ok];simp only[Std.Legacy.Range.forIn_eq_forIn_range',Std.Legacy.Range.size,Nat.sub_zero,Nat.add_sub_cancel,Nat.div_one,range'_succ,range'_zero,forIn_cons,forIn_nil];go_simp
 by_cases h1:a=a' <;> by_cases h2:b=b' <;> by_cases h3:c=c' <;> by_cases h4:d=d' <;> by_cases h5:e=e' <;> simp[h1,h2,h3,h4,h5]
theorem ajM(a b c d e a' b' c' d' e':Int)(w:World):(binOp .eql 176 (.agg #[.int .i64 a,.int .i64 b,.int .i64 c,.int .i64 d,.int .i64 e]) (.agg #[.int .i64 a',.int .i64 b',.int .i64 c',.int .i64 d',.int .i64 e'])).run prog w=.ok (.bool (a==a'&&(b==b'&&(c==c'&&(d==d'&&e==e'))))) w:=by
 rw[run_eql_struct,Yk];rfl
theorem YF:prog.eqGuardType prog.depth 176=false:=by kernel_rfl
theorem Sc(f g:CF):((f.cl.getD 0 0:Int)==(g.cl.getD 0 0:Int)&&((f.cl.getD 1 0:Int)==(g.cl.getD 1 0:Int)&&((f.cl.getD 2 0:Int)==(g.cl.getD 2 0:Int)&&((f.cl.getD 3 0:Int)==(g.cl.getD 3 0:Int)&&(f.cl.getD 4 0:Int)==(g.cl.getD 4 0:Int)))))=decide (jJ f=jJ g):=by
 unfold jJ;rw[bi,bi,bi,bi,bi];simp only[List.cons.injEq,and_true,Bool.decide_and]
section
variable {w:World} {A A':Nat} {f f':CF} {av ov av' ov':Value}
theorem P0(h:dF w A f av ov)(h':dF w A' f' av' ov')(ha:f.ap.length<=100000)(ho:f.ow.length<=100000)(BJ:f'.ap.length<=100000)(ho':f'.ow.length<=100000):Calls prog 263 #[.pointer (some ⟨A,0,none⟩),.pointer (some ⟨A',0,none⟩)] w λe w'=>e=.returned (.bool (UK f f'))/\Below w.heap.size w w':=by
 have kU:Hid (∀m:Nat,Calls prog 267 #[av,av'] (w.drewN m) λe w'=>e=.returned (.bool (pS f.ap f'.ap))/\∃j,w'=w.drewN j):=ab (λm=>(wP (w:=w.drewN m) h.ap h'.ap ha BJ).mono (λe w' hw=>⟨hw.1,by obtain⟨n,rfl⟩:=hw.2;exact⟨_,drewN_drewN _ _ _⟩⟩));have lA:Hid (∀m:Nat,Calls prog 267 #[ov,ov'] (w.drewN m) λe w'=>e=.returned (.bool (pS f.ow f'.ow))/\∃j,w'=w.drewN j):=ab (λm=>(wP (w:=w.drewN m) h.ow h'.ow ho ho').mono (λe w' hw=>⟨hw.1,by obtain⟨n,rfl⟩:=hw.2;exact⟨_,drewN_drewN _ _ _⟩⟩));obtain⟨oa,oc,d7,-,-⟩:=aj h.ow;subst d7;obtain⟨aa,ac,jO,-,-⟩:=aj h.ap;subst jO;obtain⟨oa',oc',B9,-,-⟩:=aj h'.ow;subst B9;obtain⟨aa',ac',akq,-,-⟩:=aj h'.ap;subst akq;have p0:=h.cls (i:=0) (by omega);have p1:=h.cls (i:=1) (by omega);have p2:=h.cls (i:=2) (by omega);have p3:=h.cls (i:=3) (by omega);have p4:=h.cls (i:=4) (by omega);have p5:=h'.cls (i:=0) (by omega);have p6:=h'.cls (i:=1) (by omega);have p7:=h'.cls (i:=2) (by omega);have p8:=h'.cls (i:=3) (by omega);have p9:=h'.cls (i:=4) (by omega);have pa:=h.c5;have pb:=h'.c5;have pc:=h.c6;have pd:=h'.c6;have hcd:=Sc f f';have EF:UK f f'=(decide (jJ f=jJ f')&&pS f.ap f'.ap&&pS f.ow f'.ow):=rfl;have FI:=ab EF;have hgd:=YF;have k8:∀W:World,(binOp .eql 176 (.agg #[fH f 0,fH f 1,fH f 2,fH f 3,fH f 4]) (.agg #[fH f' 0,fH f' 1,fH f' 2,fH f' 3,fH f' 4])).run prog W=.ok (.bool (decide (jJ f=jJ f'))) W:=λW=>by unfold fH;rw[ajM,hcd]
 obtain⟨B,hB⟩:∃B,B=UK f f':=⟨_,rfl⟩;rw[<-hB]at FI ⊢;clear EF hcd h h' hB;obtain⟨bc,hbc⟩:∃b,b=decide (jJ f=jJ f'):=⟨_,rfl⟩;obtain⟨b1,a7⟩:∃b,b=pS f.ap f'.ap:=⟨_,rfl⟩;obtain⟨b2,aL⟩:∃b,b=pS f.ow f'.ow:=⟨_,rfl⟩;rw[<-hbc]at k8;rw[<-a7]at kU;rw[<-aL]at lA;rw[<-hbc,<-a7,<-aL]at FI;clear hbc a7 aL;go_enter func263,ntmps263;go_upto_region 1 with fail;cases bc
 .go_quiet (fail)
  go_wp2_with fail
  go_ret;exact⟨aB (uh FI).symm,⟨rfl,rfl,rfl,zq4 _,λ_ _=>rfl⟩⟩
 .cases b1
  .go_quiet ((go_at_call 267;exact uh kU _))
   go_wp2_with fail
   go_ret;exact⟨aB (uh FI).symm,⟨rfl,rfl,rfl,zq4 _,λ_ _=>rfl⟩⟩
  .go_quiet (first|(go_at_call 267;with_reducible exact uh kU _)|(go_at_call 267;with_reducible exact uh lA _))
   go_wp2_with fail
   go_ret;exact⟨aB (by rw[uh FI];rfl),⟨rfl,rfl,rfl,zq4 _,λ_ _=>rfl⟩⟩
end
structure FE where
 A:Nat
 f:CF
 av:Value
 ov:Value
def FE.bs(x:FE):List Nat:=aD x.A x.av x.ov
def FE.p(x:FE):Value:=.pointer (some ⟨x.A,0,none⟩)
def a9(v:Value)(L:List FE):List Nat:=v.ownBlock.toList++L.flatMap FE.bs
structure Fl(w:World)(B:Nat)(v:Value)(L:List FE):Prop where
 row:w.ownsRow B 126 1 v L.length (L.map FE.p)
 fm:∀x∈L,Fm w x.A x.f x.av x.ov
 ge:∀x∈L,∀k∈x.bs,B<=k
 nd:(a9 v L).Nodup
theorem infoPF:(prog.info? 126).map (λi=>(i.zero,i.size,i.bytes))=some (some (.pointer none),1,8):=by kernel_rfl
section
variable {w w' w1:World} {B:Nat} {v:Value} {L:List FE}
theorem Fl.lt(h:Fl w B v L):∀k∈a9 v L,k<w.heap.size:=by
 intro k hk;rcases mem_append.1 hk with hk|hk
 .exact(h.row.lt k (by simpa using hk)).2
 .obtain⟨x,hx,hk⟩:=mem_flatMap.1 hk;exact(h.fm x hx).lt k hk
theorem Fl.geB(h:Fl w B v L):∀k∈a9 v L,B<=k:=by
 intro k hk;rcases mem_append.1 hk with hk|hk
 .exact(h.row.lt k (by simpa using hk)).1
 .obtain⟨x,hx,hk⟩:=mem_flatMap.1 hk;exact h.ge x hx k hk
theorem Fl.of_eq(h:Fl w B v L)(he:∀k∈a9 v L,w'.heap[k]?=w.heap[k]?):Fl w' B v L :=
 ⟨ae h.row (λk hk=>he k (mem_append_left _ (by simpa using hk))),λx hx=>(h.fm x hx).of_eq (λk hk=>he k (mem_append_right _ (mem_flatMap.2 ⟨x,hx,hk⟩))),h.ge,h.nd⟩
theorem Fl.stp{F F':List Nat}(h:Fl w B v L)(hs:ar F w F' w')(hd:∀k∈a9 v L,k ∉ F):Fl w' B v L:=h.of_eq (λk hk=>hs.block k (h.lt k hk) (hd k hk))
theorem Fl.below(h:Fl w B v L)(hb:Below w.heap.size w w'):Fl w' B v L:=h.of_eq (λk hk=>hb.block k (h.lt k hk))
theorem Fl.nil0(w:World)(B:Nat):Fl w B (.slice none 0 0) []:=⟨⟨rfl,.inl ⟨rfl,rfl⟩⟩,λx hx=>by simp at hx,λx hx=>by simp at hx,by simp[a9,Value.ownBlock]⟩
theorem Fl.app {g1 c1:Nat} {o:Obj} {x:FE} (h:Fl w B v L) (hx:Fm w x.A x.f x.av x.ov) (hB:∀k∈x.bs,B<=k) (hd:∀k∈x.bs,k ∉ a9 v L) (S1:B<=w.heap.size)
  (aN:w1.ownsRow B 126 1 (.slice (some ⟨g1,0,none⟩) (L.length+1) c1) (L.length+1) (L.map FE.p++[x.p])) (hg:(w.alloc o).grownBy w1 v.ownBlock) (cd:some g1=v.ownBlock\/g1=(w.alloc o).heap.size) :
  Fl w1 B (.slice (some ⟨g1,0,none⟩) (L.length+1) c1) (L++[x])/\ar v.ownBlock.toList w [g1] w1/\(∀k∈a9 (.slice (some ⟨g1,0,none⟩) (L.length+1) c1) (L++[x]),k∈a9 v L\/k∈x.bs\/w.heap.size<=k):=by
 have hs:=kf hg cd;have c9:=h.nd;unfold a9 at c9;rw[nodup_append]at c9;have key:∀y:FE,Fm w y.A y.f y.av y.ov->(∀k∈y.bs,v.ownBlock≠some k)->Fm w1 y.A y.f y.av y.ov:=λy hy hv=>hy.of_eq (λk hk=>hs.block k (hy.lt k hk) (by simpa using hv k hk));have JP:∀k∈(L++[x]).flatMap FE.bs,g1≠k:=by
  intro k hk e;subst e;have aq:g1<w.heap.size:=by
   obtain⟨y,hy,Dn⟩:=mem_flatMap.1 hk;rcases mem_append.1 hy with hy|hy
   .exact(h.fm y hy).lt _ Dn
   .rw[mem_singleton]at hy;subst hy;exact hx.lt _ Dn
  rcases cd with e|e
  .rw[flatMap_append,mem_append]at hk;rcases hk with hk|hk
   .exact c9.2.2 g1 (by rw[<-e];simp) g1 hk rfl
   .simp only[flatMap_cons,flatMap_nil,append_nil]at hk;exact hd g1 hk (mem_append_left _ (by rw[<-e];simp))
  .rw[e]at aq;simp at aq;omega
 refine⟨⟨?_,?_,?_,?_⟩,hs,?_⟩
 .rw[length_append,length_singleton,map_append];exact aN
 .intro y hy;rcases mem_append.1 hy with hy|hy
  .exact key y (h.fm y hy) (λk hk e=>c9.2.2 k (by rw[e];simp) k (mem_flatMap.2 ⟨y,hy,hk⟩) rfl)
  .rw[mem_singleton]at hy;subst hy;exact key y hx (λk hk e=>hd k hk (mem_append_left _ (by rw[e];simp)))
 .intro y hy;rcases mem_append.1 hy with hy|hy
  .exact h.ge y hy
  .rw[mem_singleton]at hy;subst hy;exact hB
 .show([g1]++(L++[x]).flatMap FE.bs).Nodup;rw[nodup_append];refine⟨by simp,?_,λa ha b hb e=>JP b hb (by rw[mem_singleton]at ha;rw[<-ha];exact e)⟩;rw[flatMap_append,nodup_append];refine⟨c9.2.1,by simpa[FE.bs] using hx.nd,?_⟩;intro a ha b hb e;simp only[flatMap_cons,flatMap_nil,append_nil]at hb;subst e;exact hd a hb (mem_append_right _ ha)
 .intro k hk;rcases mem_append.1 hk with hk|hk
  .have e:k=g1:=(by simpa[Value.ownBlock,eq_comm] using hk);subst e;rcases cd with e|e
   .exact zq0 (mem_append_left _ (by rw[<-e];simp))
   .right;right;rw[e];simp
  .rw[flatMap_append,mem_append]at hk;rcases hk with hk|hk
   .exact zq0 (mem_append_right _ hk)
   .simp only[flatMap_cons,flatMap_nil,append_nil]at hk;exact zq1 (zq0 hk)
end
section
variable {w:World} {A:Nat} {f:CF} {av ov:Value}
theorem qz(h:dF w A f av ov)(k i:Nat)(hi:i<4):Calls prog 236 #[.pointer (some ⟨A,0,none⟩),.agg #[.int .i64 k,.int .i64 i]] w λe w'=>e=.returned (.int .i64 (nV f k i:Nat))/\Below w.heap.size w w':=by
 obtain⟨W1,dI⟩:∃W1,W1=w.alloc (.cells #[Value.int .i64 (k:Int),.int .i64 (i:Int)] 184):=⟨_,rfl⟩;have bQ:Below w.heap.size w W1:=by rw[dI];exact ah w _
 have hX:Bk W1 w.heap.size 184 [Value.int .i64 (k:Int),.int .i64 (i:Int)]:=by rw[dI];exact Bk.new w _ _
 have b0:=hX.cell 0 rfl;have b1:=hX.cell 1 rfl;have x0:=(h.below bQ).cls (i:=0) (by omega);have x1:=(h.below bQ).cls (i:=1+i) (by omega);unfold fH at x0 x1;obtain⟨c,hc⟩:∃c,c=nV f k i:=⟨_,rfl⟩;rw[<-hc];have HB:=ab bQ;have i1:(0:Int)<=1+(i:Int):=by omega
 have i2:1+(i:Int)<5:=by omega
 have i3:(1+(i:Int)).toNat=1+i:=by omega
 obtain⟨c0,Dl⟩:∃c0,c0=f.cl.getD 0 0:=⟨_,rfl⟩;obtain⟨c1,JM⟩:∃c1,c1=f.cl.getD (1+i) 0:=⟨_,rfl⟩;rw[<-Dl]at x0;rw[<-JM]at x1;unfold nV at hc;rw[<-Dl,<-JM]at hc;by_cases hk:k=1
 .have d0:((k:Int)==1)=true:=by simp[hk]
  rw[if_pos hk]at hc;have HC:=ab hc;clear h bQ hX hc hk Dl JM;go_enter func236,ntmps236;go_upto_region 1 with fail;rw[<-dI];clear dI;go_wp2_with fail
  go_quiet (fail)
  go_wp2_with fail
  go_ret;exact⟨by rw[uh HC];rfl,⟨(uh HB).os,(uh HB).tape,(uh HB).output,(uh HB).size,(uh HB).block⟩⟩
 .have d0:((k:Int)==1)=false:=by simp;omega
  rw[if_neg hk]at hc;have HC:=ab hc;clear h bQ hX hc hk Dl JM;go_enter func236,ntmps236;go_upto_region 1 with fail;rw[<-dI];clear dI;go_wp2_with fail
  go_ret;exact⟨by rw[uh HC];rfl,uh HB⟩
end
structure Oo(w:World)(O:Nat)(nu da fu:Bool)(nv tv:Value)(Ln Lt:List FE):Prop where
 bk:Bk w O 280 [nv,tv,.bool nu,.bool da,.bool fu]
 nx:Fl w 0 nv Ln
 ot:Fl w 0 tv Lt
 nd:(O::(a9 nv Ln++a9 tv Lt)).Nodup
def dV(O:Nat)(nv tv:Value)(Ln Lt:List FE):List Nat:=O::(a9 nv Ln++a9 tv Lt)
section
variable {w w':World} {O:Nat} {nu da fu:Bool} {nv tv:Value} {Ln Lt:List FE}
theorem Oo.lt(h:Oo w O nu da fu nv tv Ln Lt):∀k∈dV O nv tv Ln Lt,k<w.heap.size:=by
 intro k hk;rcases mem_cons.1 hk with rfl|hk
 .exact h.bk.lt
 .rcases mem_append.1 hk with hk|hk
  .exact h.nx.lt k hk
  .exact h.ot.lt k hk
theorem Oo.of_eq(h:Oo w O nu da fu nv tv Ln Lt)(he:∀k∈dV O nv tv Ln Lt,w'.heap[k]?=w.heap[k]?):Oo w' O nu da fu nv tv Ln Lt :=
 ⟨h.bk.of_eq (he O (by simp[dV])),h.nx.of_eq (λk hk=>he k (by simp only[dV,mem_cons,mem_append];exact zq1 (zq0 hk))),h.ot.of_eq (λk hk=>he k (by simp only[dV,mem_cons,mem_append];exact zq1 (zq1 hk))),h.nd⟩
theorem Oo.stp{F F':List Nat}(h:Oo w O nu da fu nv tv Ln Lt)(hs:ar F w F' w')(hd:∀k∈dV O nv tv Ln Lt,k ∉ F):Oo w' O nu da fu nv tv Ln Lt:=h.of_eq (λk hk=>hs.block k (h.lt k hk) (hd k hk))
theorem Oo.below(h:Oo w O nu da fu nv tv Ln Lt)(hb:Below w.heap.size w w'):Oo w' O nu da fu nv tv Ln Lt:=h.of_eq (λk hk=>hb.block k (h.lt k hk))
theorem Oo.flag(h:Oo w O nu da fu nv tv Ln Lt){nu' da' fu':Bool}(j:Nat)(hj:2<=j/\j<=4)(he:[nv,tv,.bool nu,.bool da,.bool fu].set j (.bool true)=[nv,tv,Value.bool nu',.bool da',.bool fu']):Oo (w.setCell ⟨O,j,none⟩ (.bool true)) O nu' da' fu' nv tv Ln Lt:=by
 have c9:=nodup_cons.1 h.nd;refine⟨?_,h.nx.of_eq (λk hk=>heap_setCell _ _ _ _ ?_),h.ot.of_eq (λk hk=>heap_setCell _ _ _ _ ?_),h.nd⟩
 .have:=h.bk.set j (.bool true);rw[he]at this;exact this
 .rintro rfl;exact c9.1 (mem_append_left _ hk)
 .rintro rfl;exact c9.1 (mem_append_right _ hk)
theorem Oo.addN {g1 c1:Nat} {o:Obj} {x:FE} {w1:World} (h:Oo w O nu da fu nv tv Ln Lt) (hx:Fm w x.A x.f x.av x.ov) (hd:∀k∈x.bs,k ∉ dV O nv tv Ln Lt)
  (aN:w1.ownsRow 0 126 1 (.slice (some ⟨g1,0,none⟩) (Ln.length+1) c1) (Ln.length+1) (Ln.map FE.p++[x.p])) (hg:(w.alloc o).grownBy w1 nv.ownBlock) (cd:some g1=nv.ownBlock\/g1=(w.alloc o).heap.size) :
  Oo (w1.setCell ⟨O,0,none⟩ (.slice (some ⟨g1,0,none⟩) (Ln.length+1) c1)) O nu da fu (.slice (some ⟨g1,0,none⟩) (Ln.length+1) c1) tv (Ln++[x]) Lt /\
  ar (dV O nv tv Ln Lt++x.bs) w (dV O (.slice (some ⟨g1,0,none⟩) (Ln.length+1) c1) tv (Ln++[x]) Lt) (w1.setCell ⟨O,0,none⟩ (.slice (some ⟨g1,0,none⟩) (Ln.length+1) c1)) /\
  (∃u,w1.cell? ⟨O,0,none⟩=some u)/\w1.frozen? ⟨O,0,none⟩=false:=by
 have c9:=nodup_cons.1 h.nd;have ug:=nodup_append.1 c9.2;obtain⟨a1,a2,a3⟩:=h.nx.app hx (λk _=>zq5 _) (λk hk hn=>hd k hk (by simp only[dV,mem_cons,mem_append];exact zq1 (zq0 hn))) (zq5 _) aN hg cd;have hOv:nv.ownBlock≠some O:=λe=>c9.1 (mem_append_left _ (mem_append_left _ (by rw[e];simp)));have a7:Bk w1 O 280 [nv,tv,.bool nu,.bool da,.bool fu]:=h.bk.of_eq (a2.block O h.bk.lt (by simpa using hOv));have wm:Fl w1 0 tv Lt:=h.ot.stp a2 (λk hk hn=>ug.2.2 k (mem_append_left _ hn) k hk rfl);have t0:∀k∈a9 (.slice (some ⟨g1,0,none⟩) (Ln.length+1) c1) (Ln++[x]),k≠O:=by
  intro k hk e;subst e;rcases a3 k hk with q|q|q
  .exact c9.1 (mem_append_left _ q)
  .exact hd k q (by simp[dV])
  .have:=h.bk.lt;omega
 have hOt:∀k∈a9 tv Lt,k≠O:=λk hk e=>c9.1 (by subst e;exact mem_append_right _ hk);refine⟨⟨a7.set 0 _,a1.of_eq (λk hk=>heap_setCell _ _ _ _ (t0 k hk)),wm.of_eq (λk hk=>heap_setCell _ _ _ _ (hOt k hk)),?_⟩,?_,⟨_,a7.cell 0 rfl⟩,a7.frz 0⟩
 .rw[nodup_cons,nodup_append];refine⟨λhm=>?_,a1.nd,h.ot.nd,λa ha b hb e=>?_⟩
  .rcases mem_append.1 hm with hm|hm
   .exact t0 O hm rfl
   .exact hOt O hm rfl
  .subst e;rcases a3 a ha with q|q|q
   .exact ug.2.2 a q a hb rfl
   .exact hd a q (by simp only[dV,mem_cons,mem_append];exact zq1 (zq1 hb))
   .have:=h.ot.lt a hb;omega
 .refine((a2.wide (G:=dV O nv tv Ln Lt++x.bs) (λk hk=>mem_append_left _ (by simp only[dV,a9,mem_cons,mem_append];exact zq1 (zq0 (zq0 hk))))).setCell (p:=⟨O,0,none⟩) (zq0 (by simp[dV])) _).foots (λk hk=>?_);rcases mem_cons.1 hk with rfl|hk
  .exact zq0 (by simp[dV])
  .rcases mem_append.1 hk with hk|hk
   .rcases a3 k hk with q|q|q
    .exact zq0 (mem_append_left _ (by simp only[dV,mem_cons,mem_append];exact zq1 (zq0 q)))
    .exact zq0 (mem_append_right _ q)
    .exact zq1 q
   .exact zq0 (mem_append_left _ (by simp only[dV,mem_cons,mem_append];exact zq1 (zq1 hk)))
theorem Oo.addT {g1 c1:Nat} {o:Obj} {x:FE} {w1:World} (h:Oo w O nu da fu nv tv Ln Lt) (hx:Fm w x.A x.f x.av x.ov) (hd:∀k∈x.bs,k ∉ dV O nv tv Ln Lt)
  (aN:w1.ownsRow 0 126 1 (.slice (some ⟨g1,0,none⟩) (Lt.length+1) c1) (Lt.length+1) (Lt.map FE.p++[x.p])) (hg:(w.alloc o).grownBy w1 tv.ownBlock) (cd:some g1=tv.ownBlock\/g1=(w.alloc o).heap.size) :
  Oo (w1.setCell ⟨O,1,none⟩ (.slice (some ⟨g1,0,none⟩) (Lt.length+1) c1)) O nu da fu nv (.slice (some ⟨g1,0,none⟩) (Lt.length+1) c1) Ln (Lt++[x]) /\
  ar (dV O nv tv Ln Lt++x.bs) w (dV O nv (.slice (some ⟨g1,0,none⟩) (Lt.length+1) c1) Ln (Lt++[x])) (w1.setCell ⟨O,1,none⟩ (.slice (some ⟨g1,0,none⟩) (Lt.length+1) c1)) /\
  (∃u,w1.cell? ⟨O,1,none⟩=some u)/\w1.frozen? ⟨O,1,none⟩=false:=by
 have c9:=nodup_cons.1 h.nd;have ug:=nodup_append.1 c9.2;obtain⟨a1,a2,a3⟩:=h.ot.app hx (λk _=>zq5 _) (λk hk hn=>hd k hk (by simp only[dV,mem_cons,mem_append];exact zq1 (zq1 hn))) (zq5 _) aN hg cd;have hOv:tv.ownBlock≠some O:=λe=>c9.1 (mem_append_right _ (mem_append_left _ (by rw[e];simp)));have a7:Bk w1 O 280 [nv,tv,.bool nu,.bool da,.bool fu]:=h.bk.of_eq (a2.block O h.bk.lt (by simpa using hOv));have wm:Fl w1 0 nv Ln:=h.nx.stp a2 (λk hk hn=>ug.2.2 k hk k (mem_append_left _ hn) rfl);have t0:∀k∈a9 (.slice (some ⟨g1,0,none⟩) (Lt.length+1) c1) (Lt++[x]),k≠O:=by
  intro k hk e;subst e;rcases a3 k hk with q|q|q
  .exact c9.1 (mem_append_right _ q)
  .exact hd k q (by simp[dV])
  .have:=h.bk.lt;omega
 have hOt:∀k∈a9 nv Ln,k≠O:=λk hk e=>c9.1 (by subst e;exact mem_append_left _ hk);refine⟨⟨a7.set 1 _,wm.of_eq (λk hk=>heap_setCell _ _ _ _ (hOt k hk)),a1.of_eq (λk hk=>heap_setCell _ _ _ _ (t0 k hk)),?_⟩,?_,⟨_,a7.cell 1 rfl⟩,a7.frz 1⟩
 .rw[nodup_cons,nodup_append];refine⟨λhm=>?_,h.nx.nd,a1.nd,λa ha b hb e=>?_⟩
  .rcases mem_append.1 hm with hm|hm
   .exact hOt O hm rfl
   .exact t0 O hm rfl
  .subst e;rcases a3 a hb with q|q|q
   .exact ug.2.2 a ha a q rfl
   .exact hd a q (by simp only[dV,mem_cons,mem_append];exact zq1 (zq0 ha))
   .have:=h.nx.lt a ha;omega
 .refine((a2.wide (G:=dV O nv tv Ln Lt++x.bs) (λk hk=>mem_append_left _ (by simp only[dV,a9,mem_cons,mem_append];exact zq1 (zq1 (zq0 hk))))).setCell (p:=⟨O,1,none⟩) (zq0 (by simp[dV])) _).foots (λk hk=>?_);rcases mem_cons.1 hk with rfl|hk
  .exact zq0 (by simp[dV])
  .rcases mem_append.1 hk with hk|hk
   .exact zq0 (mem_append_left _ (by simp only[dV,mem_cons,mem_append];exact zq1 (zq0 hk)))
   .rcases a3 k hk with q|q|q
    .exact zq0 (mem_append_left _ (by simp only[dV,mem_cons,mem_append];exact zq1 (zq1 q)))
    .exact zq0 (mem_append_right _ q)
    .exact zq1 q
theorem gI{A:Nat}{f:CF}{av ov:Value}(h:Oo w O nu da fu nv tv Ln Lt)(hF:Fm w A f av ov)(hO:am f)(ha:f.ap.length<=100000)(hd:∀k∈aD A av ov,k ∉ dV O nv tv Ln Lt)(hn:Ln.length<=900000):
  Calls prog 242 #[.pointer (some ⟨O,0,none⟩),.pointer (some ⟨A,0,none⟩)] w λe w'=>e=.returned (.tuple #[])/\∃nv' x,x.A=A/\x.f=bz f/\Oo w' O nu da fu nv' tv (Ln++[x]) Lt/\ar (dV O nv tv Ln Lt++aD A av ov) w (dV O nv' tv (Ln++[x]) Lt) w':=by
 obtain⟨i0,hi,eo,ep,eK⟩:=info_parts infoPF;have HT:=ab (kh hF hO ha);have H:=ab h;have HD:=ab hd;clear h hF hO hd;go_enter func242,ntmps242;go_wp2_with fail
 refine(uh HT).mono ?_;rintro e w1 ⟨rfl,av1,ov1,jk,cY⟩;have h1:=(uh H).stp cY (λk hk hn=>uh HD k hn hk);have Q5:∀k∈aD A av1 ov1,k ∉ dV O nv tv Ln Lt:=by
  intro k hk hn;rcases cY.foot k hk with q|q
  .exact uh HD k q hn
  .have:=(uh H).lt k hn;omega
 obtain⟨na,nc,AD,-,-⟩:=aj h1.nx.row;subst AD;have c0:=h1.bk.cell 0 rfl;have HS:=ab h1.nx.row;have H1:=ab h1;have vO:=ab jk;have FB:=ab Q5;have bT:=ab cY;clear h1 jk Q5 cY HT;go_wp2_with (at_builtin;refine aH _ rfl (.tmp 10) (.tmp 12) 125 rfl 0 126 i0 _ 1 8 underlying125 hi eo ep eK rfl (by decide) _ Ln.length (Ln.map FE.p) rfl ((uh HS).alloc _) ⟨_,0,none⟩ 1 [.pointer (some ⟨A,0,none⟩)] rfl rfl (aP _ _ (by simp) [.pointer (some ⟨A,0,none⟩)] _) (by intro u hu;simp only[mem_singleton]at hu;subst hu;rfl) (by omega) (by omega) (zq5 _) ?_)
 intro g1 cap1 w2 aT aO dq;obtain⟨q1,q2,⟨u,q3⟩,q4⟩:=(uh H1).addN (x:=⟨A,bz f,av1,ov1⟩) (uh vO) (uh FB) aT aO (by simpa using dq);have HN:=ab q1;have QO:=ab q2;clear aT aO dq q1 q2 c0;go_wp2_with fail
 go_end0
 refine⟨rfl,_,⟨A,bz f,av1,ov1⟩,rfl,rfl,uh HN,?_⟩;have h1:=(uh bT).wide (G:=dV O (.slice na Ln.length nc) tv Ln Lt++aD A av ov) (λk hk=>mem_append_right _ hk);have h2:=uh QO;refine⟨h2.os.trans h1.os,h2.tape.trans h1.tape,h2.output.trans h1.output,zq3 h1.size h2.size,λk hk hn=>?_,λk hk=>?_⟩
 .rw[h2.block k (zq6 hk h1.size) (λhm=>?_)]
  .exact h1.block k hk hn
  .rcases mem_append.1 hm with hm|hm
   .exact hn (mem_append_left _ hm)
   .rcases(uh bT).foot k hm with q|q
    .exact hn (mem_append_right _ q)
    .omega
 .rcases h2.foot k hk with q|q
  .rcases mem_append.1 q with q|q
   .exact zq0 (mem_append_left _ q)
   .rcases(uh bT).foot k q with q|q
    .exact zq0 (mem_append_right _ q)
    .exact zq1 q
  .exact zq1 (zq3 h1.size q)
theorem vh{A:Nat}{f:CF}{av ov:Value}(h:Oo w O nu da fu nv tv Ln Lt)(hF:Fm w A f av ov)(hO:am f)(ha:f.ap.length<=100000)(hd:∀k∈aD A av ov,k ∉ dV O nv tv Ln Lt)(hn:Lt.length<=900000):
  Calls prog 243 #[.pointer (some ⟨O,0,none⟩),.pointer (some ⟨A,0,none⟩)] w λe w'=>e=.returned (.tuple #[])/\∃tv' x,x.A=A/\x.f=bz f/\Oo w' O nu da fu nv tv' Ln (Lt++[x])/\ar (dV O nv tv Ln Lt++aD A av ov) w (dV O nv tv' Ln (Lt++[x])) w':=by
 obtain⟨i0,hi,eo,ep,eK⟩:=info_parts infoPF;have HT:=ab (kh hF hO ha);have H:=ab h;have HD:=ab hd;clear h hF hO hd;go_enter func243,ntmps243;go_wp2_with fail
 refine(uh HT).mono ?_;rintro e w1 ⟨rfl,av1,ov1,jk,cY⟩;have h1:=(uh H).stp cY (λk hk hn=>uh HD k hn hk);have Q5:∀k∈aD A av1 ov1,k ∉ dV O nv tv Ln Lt:=by
  intro k hk hn;rcases cY.foot k hk with q|q
  .exact uh HD k q hn
  .have:=(uh H).lt k hn;omega
 obtain⟨na,nc,AD,-,-⟩:=aj h1.ot.row;subst AD;have c0:=h1.bk.cell 1 rfl;have HS:=ab h1.ot.row;have H1:=ab h1;have vO:=ab jk;have FB:=ab Q5;have bT:=ab cY;clear h1 jk Q5 cY HT;go_wp2_with (at_builtin;refine aH _ rfl (.tmp 10) (.tmp 12) 125 rfl 0 126 i0 _ 1 8 underlying125 hi eo ep eK rfl (by decide) _ Lt.length (Lt.map FE.p) rfl ((uh HS).alloc _) ⟨_,0,none⟩ 1 [.pointer (some ⟨A,0,none⟩)] rfl rfl (aP _ _ (by simp) [.pointer (some ⟨A,0,none⟩)] _) (by intro u hu;simp only[mem_singleton]at hu;subst hu;rfl) (by omega) (by omega) (zq5 _) ?_)
 intro g1 cap1 w2 aT aO dq;obtain⟨q1,q2,⟨u,q3⟩,q4⟩:=(uh H1).addT (x:=⟨A,bz f,av1,ov1⟩) (uh vO) (uh FB) aT aO (by simpa using dq);have HN:=ab q1;have QO:=ab q2;clear aT aO dq q1 q2 c0;go_wp2_with fail
 go_end0
 refine⟨rfl,_,⟨A,bz f,av1,ov1⟩,rfl,rfl,uh HN,?_⟩;have h1:=(uh bT).wide (G:=dV O nv (.slice na Lt.length nc) Ln Lt++aD A av ov) (λk hk=>mem_append_right _ hk);have h2:=uh QO;refine⟨h2.os.trans h1.os,h2.tape.trans h1.tape,h2.output.trans h1.output,zq3 h1.size h2.size,λk hk hn=>?_,λk hk=>?_⟩
 .rw[h2.block k (zq6 hk h1.size) (λhm=>?_)]
  .exact h1.block k hk hn
  .rcases mem_append.1 hm with hm|hm
   .exact hn (mem_append_left _ hm)
   .rcases(uh bT).foot k hm with q|q
    .exact hn (mem_append_right _ q)
    .omega
 .rcases h2.foot k hk with q|q
  .rcases mem_append.1 q with q|q
   .exact zq0 (mem_append_left _ q)
   .rcases(uh bT).foot k q with q|q
    .exact zq0 (mem_append_right _ q)
    .exact zq1 q
  .exact zq1 (zq3 h1.size q)
end
structure Ms(w W:World)(v:Value)(L:List FE)(X:Nat)(p:Pr):Prop where
 fl:Fl W w.heap.size v L
 bx:Bk W X 182 [.int .i64 (p.k:Int),.int .i64 (p.l:Int),.int .i64 (p.r:Int)]
 nx:∀k∈a9 v L,k≠X
 xw:w.heap.size<=X
 bw:Below w.heap.size w W
structure Lb(W W':World)(x:FE):Prop where
 fm:Fm W' x.A x.f x.av x.ov
 ge:∀k∈x.bs,W.heap.size<=k
 bw:Below W.heap.size W W'
theorem Lb.step{W W' W'':World}{x x':FE}(h:Lb W W' x)(hf:Fm W'' x'.A x'.f x'.av x'.ov)(hs:ar x.bs W' x'.bs W''):Lb W W'' x' :=
 ⟨hf,λk hk=>by
  rcases hs.foot k hk with q|q
  .exact h.ge k q
  .exact zq3 h.bw.size q,⟨hs.os.trans h.bw.os,hs.tape.trans h.bw.tape,hs.output.trans h.bw.output,zq3 h.bw.size hs.size,λk hk=>(hs.block k (zq6 hk h.bw.size) (λhn=>by have:=h.ge k hn;omega)).trans (h.bw.block k hk)⟩⟩
theorem Lb.below{W W' W'':World}{x:FE}(h:Lb W W' x)(hb:Below W'.heap.size W' W''):Lb W W'' x:=⟨h.fm.below hb,h.ge,h.bw.trans (hb.mono h.bw.size)⟩
theorem I9.frf{W W':World}{f:CF}{A':Nat}(h:I9 W f A' W'):∃av' ov',Lb W W' ⟨A',f,av',ov'⟩:=by
 obtain⟨av',ov',h1,h2,h3⟩:=h;exact⟨av',ov',h1,h2,h3⟩
theorem Fm.putO{w:World}{A:Nat}{f:CF}{av:Value}{g cap i:Nat}(h:Fm w A f av (.slice (some ⟨g,0,none⟩) f.ow.length cap))(hi:i<f.ow.length)(r:Nat):
  Fm (w.setCell ⟨g,i*3+2,none⟩ (.int .i64 (r:Int))) A (setO f i ⟨(owA f i).k,(owA f i).l,r⟩) av (.slice (some ⟨g,0,none⟩) f.ow.length cap)/\ar (aD A av (.slice (some ⟨g,0,none⟩) f.ow.length cap)) w (aD A av (.slice (some ⟨g,0,none⟩) f.ow.length cap)) (w.setCell ⟨g,i*3+2,none⟩ (.int .i64 (r:Int))) /\
  (∃u,w.cell? ⟨g,i*3+2,none⟩=some u)/\w.frozen? ⟨g,i*3+2,none⟩=false:=by
 have h1:=(h.is.ow.stored (i*3+2) (.int .i64 (r:Int))).1;rw[dB hi]at h1;have hs:ar (Value.slice (some ⟨g,0,none⟩) f.ow.length cap).ownBlock.toList w (Value.slice (some ⟨g,0,none⟩) f.ow.length cap).ownBlock.toList (w.setCell ⟨g,i*3+2,none⟩ (.int .i64 (r:Int))):=(ar.refl _ _).setCell (p:=⟨g,i*3+2,none⟩) (zq0 (by simp[Value.ownBlock])) _;obtain⟨a1,a2⟩:=h.newRow (ow':=f.ow.set i ⟨(owA f i).k,(owA f i).l,r⟩) (by simp) h1 hs;obtain⟨-,-,x2⟩:=ax h.is.ow hi;exact⟨a1,a2,⟨_,x2⟩,h.is.ow.frozenAt _⟩
section
variable {w W W':World} {v:Value} {L:List FE} {X:Nat} {p:Pr}
theorem Ms.below(h:Ms w W v L X p)(hb:Below W.heap.size W W'):Ms w W' v L X p:=⟨h.fl.below hb,h.bx.below hb,h.nx,h.xw,h.bw.trans (hb.mono h.bw.size)⟩
theorem Ms.fresh(h:Ms w W v L X p){x:FE}(hx:∀k∈x.bs,W.heap.size<=k):∀k∈x.bs,k ∉ a9 v L/\k≠X/\w.heap.size<=k:=λk hk=>by
 have h1:=hx k hk;exact⟨λhn=>by have:=h.fl.lt k hn;omega,λe=>by have:=h.bx.lt;omega,zq3 h.bw.size h1⟩
theorem Ms.app {g1 c1:Nat} {o:Obj} {x:FE} {W1:World} (h:Ms w W v L X p) (hx:Fm W x.A x.f x.av x.ov) (hd:∀k∈x.bs,k ∉ a9 v L/\k≠X/\w.heap.size<=k)
  (aN:W1.ownsRow w.heap.size 126 1 (.slice (some ⟨g1,0,none⟩) (L.length+1) c1) (L.length+1) (L.map FE.p++[x.p])) (hg:(W.alloc o).grownBy W1 v.ownBlock) (cd:some g1=v.ownBlock\/g1=(W.alloc o).heap.size) :
  Ms w W1 (.slice (some ⟨g1,0,none⟩) (L.length+1) c1) (L++[x]) X p:=by
 obtain⟨a1,a2,a3⟩:=h.fl.app hx (λk hk=>(hd k hk).2.2) (λk hk=>(hd k hk).1) h.bw.size aN hg cd;have hv:∀k∈v.ownBlock.toList,k≠X/\w.heap.size<=k:=λk hk=>⟨h.nx k (mem_append_left _ hk),h.fl.geB k (mem_append_left _ hk)⟩;exact⟨a1,h.bx.stp a2 (λhn=>(hv X hn).1 rfl),λk hk e=>by
  rcases a3 k hk with q|q|q
  .exact h.nx k q e
  .exact(hd k q).2.1 e
  .have:=h.bx.lt;omega,h.xw,⟨a2.os.trans h.bw.os,a2.tape.trans h.bw.tape,a2.output.trans h.bw.output,zq3 h.bw.size a2.size,λk hk=>(a2.block k (zq6 hk h.bw.size) (λhn=>by have:=(hv k hn).2;omega)).trans (h.bw.block k hk)⟩⟩
theorem EO{A:Nat}{f:CF}{av ov:Value}(h:dF w A f av ov)(hO:am f)(ha:f.ap.length<=40000){c i:Nat}(hc:c<24)(hi:i<f.ow.length):
  Calls prog 255 #[.pointer (some ⟨A,0,none⟩),.int .i64 c,.int .i64 i] w λe w'=>∃v L,e=.returned v/\Fl w' w.heap.size v L/\L.map (·.f)=gP f c i/\Below w.heap.size w w':=by
 obtain⟨i0,iL,eo,ep,eK⟩:=info_parts infoPF;have gl:=hO.owLen;obtain⟨oa,oc,d7,-,-⟩:=aj h.ow;subst d7;obtain⟨p,hp⟩:∃p,p=f.ow.getD i au:=⟨_,rfl⟩;obtain⟨W2,ey⟩:∃W2,W2=(w.alloc (.cells #[] 126)).alloc (.cells #[Value.int .i64 p.k,.int .i64 p.l,.int .i64 p.r] 182):=⟨_,rfl⟩;have hM2:Ms w W2 (.slice (some ⟨w.heap.size,0,none⟩) 0 0) [] (w.heap.size+1) p:=by
  have a7:=ah w (.cells #[] 126);have aL:=ah (w.alloc (.cells #[] 126)) (.cells #[Value.int .i64 p.k,.int .i64 p.l,.int .i64 p.r] 182);refine⟨⟨?_,λx hx=>by simp at hx,λx hx=>by simp at hx,by simp[a9,Value.ownBlock]⟩,?_,λk hk=>?_,Nat.le_succ _,?_⟩
  .rw[ey];exact(ownsRow_lit (base:=w.heap.size) (e:=126) (size:=1) w #[] 0 (zq4 _) (by simp[maxLen]) rfl).alloc _
  .rw[ey];have:=Bk.new (w.alloc (.cells #[] 126)) 182 [Value.int .i64 p.k,.int .i64 p.l,.int .i64 p.r];simpa using this
  .have e:k=w.heap.size:=(by simpa[a9,Value.ownBlock,eq_comm] using hk);omega
  .rw[ey];exact a7.trans (aL.mono a7.size)
 have h1:dF (w.alloc (.cells #[] 126)) A f av (.slice oa f.ow.length oc):=h.below (ah w _);have c6:=h1.c6;obtain⟨g,cap,cM,-,-⟩:=az h1.ow hi;simp only[Value.slice.injEq,true_and]at cM;obtain⟨rfl,rfl⟩:=cM;obtain⟨x0,x1,x2⟩:=ax h1.ow hi;rw[<-hp]at x0 x1 x2;obtain⟨X,hX⟩:∃X,X=w.heap.size+1:=⟨_,rfl⟩;rw[<-hX]at hM2;have h2:=h.below hM2.bw;have Vr:=ab (kF c p.l h2);have eE:=(hO.ow _ (aZ hi));rw[<-hp]at eE;have HP:=ab hp;have H:=ab h;have HO:=ab hO;have DC:=ab hM2;have b1:=hM2.bx.cell 1 rfl;have i1:(0:Int)<=(i:Int):=by omega
 have i2:(i:Int)<(f.ow.length:Int):=by omega
 clear h hO h1 h2 hM2 hp;go_enter func255,ntmps255;go_upto_region 3 with fail;rw[show w.heap.size+1=X from hX.symm,<-ey];clear ey hX x0 x1 x2 c6;go_wp2_with fail
 refine(uh Vr).mono ?_;rintro e w3 ⟨rfl,cB⟩;have hM3:=(uh DC).below cB;have CZ:Hid (dS f c (owA f i).l=dS f c p.l):=ab (by rw[uh HP];rfl);have FG:=ab hM3;clear hM3 cB Vr b1;cases vZ:dS f c p.l
 .have HDE:Hid (dS f c (owA f i).l=false):=ab ((uh CZ).trans vZ);have gU:=ab ((uh H).below (uh FG).bw);have acU:=ab (cE (uh gU) (uh HO).c5 ha (zq3 gl (by omega)));clear vZ;go_wp2_with fail
  refine(uh acU).mono ?_;rintro e w4 ⟨A4,rfl,Ni⟩;obtain⟨av4,ov4,yR⟩:=Ni.frf;have b1:=((uh FG).below yR.bw).bx.cell 1 rfl;have HJO:=ab (xn yR.fm (zq3 ha (by omega)) (zq3 gl (by omega)) p.l c);have Vs:=ab yR;clear Ni yR acU;go_wp2_with fail
  refine(uh HJO).mono ?_;rintro e w5 ⟨rfl,BE,eT⟩;have BT:=(uh Vs).step (x':=⟨A4,kO f c i,av4,ov4⟩) (by
   have e9:kO f c i=sS f p.l c:=(by rw[uh HP];rfl);rw[e9];exact BE) eT
  have hM5:=(uh FG).below BT.bw;have ir:=(uh FG).fresh BT.ge;have HR5:=ab hM5.fl.row;have HM5:=ab hM5;have Vt:=ab BT.fm;have aiZ:=ab ir;have arE:=hM5.bw.size;clear BE eT BT hM5 ir HJO b1;go_wp2_with (at_builtin;refine aH _ rfl (.tmp 32) (.tmp 34) 125 rfl w.heap.size 126 i0 _ 1 8 underlying125 iL eo ep eK rfl (by decide) _ 0 [] rfl ((uh HR5).alloc _) ⟨_,0,none⟩ 1 [.pointer (some ⟨A4,0,none⟩)] rfl rfl (aP _ _ (by simp) [.pointer (some ⟨A4,0,none⟩)] _) (by intro u hu;simp only[mem_singleton]at hu;subst hu;rfl) (by omega) (by omega) (by simp;omega) ?_)
  intro g6 cap6 w6 WE NP Wl;have Rx:=ab ((uh HM5).app (uh Vt) (uh aiZ) WE NP (by simpa using Wl));rw[nil_append,show([]:List FE).length+1=1 from rfl]at Rx;clear WE NP Wl HR5 HM5;have b0:=(uh Rx).bx.cell 0 rfl;have HI6:=ab ((uh H).below (uh Rx).bw);by_cases ue:p.k=4
  .have d4:((p.k:Int)==4)=true:=(by simp[ue]);have jI:=ab (cE (uh HI6) (uh HO).c5 ha (zq3 gl (by omega)));have Xs:Hid (gP f c i=[kO f c i]++[Cn f c i]):=ab (by unfold gP;rw[if_neg (by rw[uh HDE];decide),if_pos (show(owA f i).k=4 by show(f.ow.getD i au).k=4;rw[<-uh HP];exact ue)]);clear ue;go_wp2_with fail
   refine(uh jI).mono ?_;rintro e w7 ⟨A7,rfl,hN7⟩;obtain⟨av7,ov7,ud⟩:=hN7.frf;have hM7:=(uh Rx).below ud.bw;have hi7:i<f.ow.length:=(by omega);obtain⟨g7,cap7,NR,-,-⟩:=az ud.fm.is.ow hi7;have NS:ov7=.slice (some ⟨g7,0,none⟩) f.ow.length cap7:=NR;subst NS;have e6:=ud.fm.is.c6;obtain⟨QW,BH,⟨u8,e8⟩,z8⟩:=Fm.putO ud.fm hi7 c;obtain⟨w8,ZY⟩:∃w8,w8=w7.setCell ⟨g7,i*3+2,none⟩ (.int .i64 (c:Int)):=⟨_,rfl⟩;rw[<-ZY]at QW BH;have vA:=ud.step (x':=⟨A7,setO f i ⟨(owA f i).k,(owA f i).l,c⟩,av7,.slice (some ⟨g7,0,none⟩) f.ow.length cap7⟩) QW BH;have b2:=((uh Rx).below vA.bw).bx.cell 2 rfl;have wH:=ab (pH vA.fm 4 c p.r (by
    show(f.ow.set i _).length<=100000;rw[length_set];exact zq3 gl (by omega)))
   have Ru:=ab vA;clear hN7 ud hM7 NR QW BH vA jI;go_upto_region 10 with fail;rw[<-ZY];clear ZY e6 e8 z8 u8;go_wp2_with fail
   refine(uh wH).mono ?_;rintro e w9 ⟨rfl,ov9,Ne,Nx⟩;have v7:=(uh Ru).step (x':=⟨A7,Cn f c i,av7,ov9⟩) (by
    have e9:Cn f c i={ setO f i ⟨(owA f i).k,(owA f i).l,c⟩ with ow:=(setO f i ⟨(owA f i).k,(owA f i).l,c⟩).ow++[⟨4,c,p.r⟩] }:=(by rw[uh HP];rfl);rw[e9];exact Ne) Nx
   have Te:=(uh Rx).below v7.bw;have ir:=(uh Rx).fresh v7.ge;have HR9:=ab Te.fl.row;have HM9:=ab Te;have HF9:=ab v7.fm;have Li:=ab ir;have ko:=Te.bw.size;clear Ne Nx v7 Te ir wH;go_wp2_with (at_builtin;refine aH _ rfl (.tmp 54) (.tmp 56) 125 rfl w.heap.size 126 i0 _ 1 8 underlying125 iL eo ep eK rfl (by decide) _ [(⟨A4,kO f c i,av4,ov4⟩:FE)].length ([(⟨A4,kO f c i,av4,ov4⟩:FE)].map FE.p) rfl ((uh HR9).alloc _) ⟨_,0,none⟩ 1 [.pointer (some ⟨A7,0,none⟩)] rfl rfl (aP _ _ (by simp) [.pointer (some ⟨A7,0,none⟩)] _) (by intro u hu;simp only[mem_singleton]at hu;subst hu;rfl) (by simp) (by omega) (by simp;omega) ?_)
   intro g1 cap1 wa cy ce jl;have HMA:=ab ((uh HM9).app (uh HF9) (uh Li) cy ce (by simpa using jl));clear cy ce jl;go_wp2_with fail
   go_ret;exact⟨_,_,rfl,(uh HMA).fl,by rw[uh Xs];rfl,(uh HMA).bw⟩
  .have d4:((p.k:Int)==4)=false:=(by simp;omega);have Xs:Hid (gP f c i=[kO f c i]):=ab (by unfold gP;rw[if_neg (by rw[uh HDE];decide),if_neg (show ¬ ((owA f i).k=4) by show ¬ ((f.ow.getD i au).k=4);rw[<-uh HP];exact ue),append_nil]);clear ue;go_wp2_with fail
   go_ret;exact⟨_,_,rfl,(uh Rx).fl,by rw[uh Xs];rfl,(uh Rx).bw⟩
 .have HDE:Hid (dS f c (owA f i).l=true):=ab ((uh CZ).trans vZ);clear vZ;have b0:=(uh FG).bx.cell 0 rfl;have gU:=ab ((uh H).below (uh FG).bw);by_cases ue:p.k=4
  .have d4:((p.k:Int)==4)=true:=(by simp[ue]);have jI:=ab (cE (uh gU) (uh HO).c5 ha (zq3 gl (by omega)));have Xs:Hid (gP f c i=([]:List CF)++[Cn f c i]):=ab (by unfold gP;rw[if_pos (uh HDE),if_pos (show(owA f i).k=4 by show(f.ow.getD i au).k=4;rw[<-uh HP];exact ue)]);clear ue;go_wp2_with fail
   refine(uh jI).mono ?_;rintro e w7 ⟨A7,rfl,hN7⟩;obtain⟨av7,ov7,ud⟩:=hN7.frf;have hM7:=(uh FG).below ud.bw;have hi7:i<f.ow.length:=(by omega);obtain⟨g7,cap7,NR,-,-⟩:=az ud.fm.is.ow hi7;have NS:ov7=.slice (some ⟨g7,0,none⟩) f.ow.length cap7:=NR;subst NS;have e6:=ud.fm.is.c6;obtain⟨QW,BH,⟨u8,e8⟩,z8⟩:=Fm.putO ud.fm hi7 c;obtain⟨w8,ZY⟩:∃w8,w8=w7.setCell ⟨g7,i*3+2,none⟩ (.int .i64 (c:Int)):=⟨_,rfl⟩;rw[<-ZY]at QW BH;have vA:=ud.step (x':=⟨A7,setO f i ⟨(owA f i).k,(owA f i).l,c⟩,av7,.slice (some ⟨g7,0,none⟩) f.ow.length cap7⟩) QW BH;have b2:=((uh FG).below vA.bw).bx.cell 2 rfl;have wH:=ab (pH vA.fm 4 c p.r (by
    show(f.ow.set i _).length<=100000;rw[length_set];exact zq3 gl (by omega)))
   have Ru:=ab vA;clear hN7 ud hM7 NR QW BH vA jI;go_upto_region 10 with fail;rw[<-ZY];clear ZY e6 e8 z8 u8;go_wp2_with fail
   refine(uh wH).mono ?_;rintro e w9 ⟨rfl,ov9,Ne,Nx⟩;have v7:=(uh Ru).step (x':=⟨A7,Cn f c i,av7,ov9⟩) (by
    have e9:Cn f c i={ setO f i ⟨(owA f i).k,(owA f i).l,c⟩ with ow:=(setO f i ⟨(owA f i).k,(owA f i).l,c⟩).ow++[⟨4,c,p.r⟩] }:=(by rw[uh HP];rfl);rw[e9];exact Ne) Nx
   have Te:=(uh FG).below v7.bw;have ir:=(uh FG).fresh v7.ge;have HR9:=ab Te.fl.row;have HM9:=ab Te;have HF9:=ab v7.fm;have Li:=ab ir;have ko:=Te.bw.size;clear Ne Nx v7 Te ir wH;go_wp2_with (at_builtin;refine aH _ rfl (.tmp 54) (.tmp 56) 125 rfl w.heap.size 126 i0 _ 1 8 underlying125 iL eo ep eK rfl (by decide) _ ([]:List FE).length (([]:List FE).map FE.p) rfl ((uh HR9).alloc _) ⟨_,0,none⟩ 1 [.pointer (some ⟨A7,0,none⟩)] rfl rfl (aP _ _ (by simp) [.pointer (some ⟨A7,0,none⟩)] _) (by intro u hu;simp only[mem_singleton]at hu;subst hu;rfl) (by simp) (by omega) (by simp;omega) ?_)
   intro g1 cap1 wa cy ce jl;have HMA:=ab ((uh HM9).app (uh HF9) (uh Li) cy ce (by simpa using jl));clear cy ce jl;go_wp2_with fail
   go_ret;exact⟨_,_,rfl,(uh HMA).fl,by rw[uh Xs];rfl,(uh HMA).bw⟩
  .have d4:((p.k:Int)==4)=false:=(by simp;omega);have Xs:Hid (gP f c i=([]:List CF)):=ab (by unfold gP;rw[if_pos (uh HDE),if_neg (show ¬ ((owA f i).k=4) by show ¬ ((f.ow.getD i au).k=4);rw[<-uh HP];exact ue),append_nil]);clear ue;go_wp2_with fail
   go_ret;exact⟨_,_,rfl,(uh FG).fl,by rw[uh Xs];rfl,(uh FG).bw⟩
end
