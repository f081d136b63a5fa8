import Derived.Test.YtciihepbeacppaaGreatM14
set_option maxRecDepth 100000
set_option maxHeartbeats 0
namespace Go.Proofs.YtciihepbeacppaaGreat
open Tryz Go.RowKit List World Below
set_option linter.unusedVariables false
section
variable {w:World} {v1 v2:Value} {l1 l2:List Pr}
theorem wm(h1:w.ownsRow 0 182 3 v1 l1.length (aj l1))(h2:w.ownsRow 0 182 3 v2 l2.length (aj l2))(hl:l1.length<=100000)(uQ:l2.length<=100000):Calls prog 267 #[v1,v2] w λe w'=>e=.returned (.bool (oL l1 l2))/\∃n,w'=w.drewN n:=by
 obtain⟨a1,c1,hv1,-,-⟩:=ah h1;subst hv1;obtain⟨a2,c2,tE,-,-⟩:=ah h2;subst tE;by_cases qq:l1.length=l2.length
 .have d0:((l1.length:Int) != (l2.length:Int))=false:=by simp[qq]
  have Ie:=ab qq;obtain⟨B,hB⟩:∃B,B=oL l1 l2:=⟨_,rfl⟩;have HB:=ab hB;rw[<-hB];have H1:=ab h1;have H2:=ab h2;have bR:Hid ((∃n,w=w.drewN n)/\∀i,i<0->BX (l1.getD i az) (l2.getD i az)=true):=ab ⟨⟨0,rfl⟩,λi hi=>by omega⟩;clear h1 h2 hB qq;go_enter func267,ntmps267;go_wp2_with fail
  go_loopw [5] (λiv wx=>∃(k:Nat),k<=l1.length/\iv=.int .i64 k/\Hid ((∃n,wx=w.drewN n)/\∀i,i<k->BX (l1.getD i az) (l2.getD i az)=true)) (λiv _=>l1.length-(intOf iv).toNat)
  case atStart=>exact⟨0,zq5 _,rfl,bR⟩
  case round =>
   clear bR;obtain⟨k,hk,rfl,hI⟩:=hrel;obtain⟨n0,qt⟩:=(uh hI).1;subst qt;by_cases ar:k<l1.length
   .have hd:decide ((k:Int)<(l1.length:Int))=true:=(by simp;omega);have bf:k<l2.length:=(by have:=uh Ie;omega);obtain⟨g1,cap1,wT,-,-⟩:=aC (uh H1) ar;simp only[Value.slice.injEq,true_and]at wT;obtain⟨rfl,rfl⟩:=wT;obtain⟨g2,cap2,Qd,-,-⟩:=aC (uh H2) bf;simp only[Value.slice.injEq,true_and]at Qd;obtain⟨rfl,rfl⟩:=Qd;obtain⟨x0,x1,x2⟩:=aA (uh H1) ar;obtain⟨y0,y1,y2⟩:=aA (uh H2) bf;obtain⟨p,hp⟩:∃p,p=l1.getD k az:=⟨_,rfl⟩;obtain⟨q,hq⟩:∃q,q=l2.getD k az:=⟨_,rfl⟩;rw[<-hp]at x0 x1 x2;rw[<-hq]at y0 y1 y2;have hgd:=Mr;have yC:∀W:World,(binOp .neq 182 (.agg #[.int .i64 (p.k:Int),.int .i64 (p.l:Int),.int .i64 (p.r:Int)]) (.agg #[.int .i64 (q.k:Int),.int .i64 (q.l:Int),.int .i64 (q.r:Int)])).run prog W=.ok (.bool (!BX p q)) W:=λW=>by rw[afa,G7]
    have HPQ:Hid (BX p q=BX (l1.getD k az) (l2.getD k az)):=ab (by rw[hp,hq]);have i1:(0:Int)<=(k:Int):=(by omega);have i2:(k:Int)<(l1.length:Int):=(by omega);have i3:(k:Int)<(l2.length:Int):=(by omega);clear hp hq;cases SU:BX p q
    .rw[SU]at yC HPQ;rw[show(!false)=true from rfl]at yC;have HF:Hid (B=false):=ab (by
      rw[uh HB];unfold oL;rw[Bool.and_eq_false_iff];right;rw[all_eq_false];exact⟨k,mem_range.2 ar,by rw[<-uh HPQ];simp⟩)
     clear SU;go_wp2_with fail
     go_quiet (fail)
     go_wp2_with fail
     go_ret;exact⟨aw (uh HF).symm,_,drewN_drewN _ _ _⟩
    .rw[SU]at yC HPQ;rw[show(!true)=false from rfl]at yC;clear SU;go_wp2_with fail
     go_quiet (fail)
     go_wp2_with fail
     go_roundw
     case rel=>exact⟨k+1,by omega,by go_num,ab ⟨⟨_,rfl⟩,λi hi=>by
      by_cases e:i=k
      .rw[e];exact(uh HPQ).symm
      .exact(uh hI).2 i (by omega)⟩⟩
     case measure=>simp[intOf];omega
   .have hd:decide ((k:Int)<(l1.length:Int))=false:=(by simp;omega);have HT:Hid (B=true):=ab (by
     rw[uh HB];unfold oL;rw[Bool.and_eq_true,all_eq_true];exact⟨by simpa using uh Ie,λi hi=>(uh hI).2 i (by have:=mem_range.1 hi;omega)⟩)
    go_wp2_with fail
    go_ret;exact⟨aw (uh HT).symm,n0,rfl⟩
 .have d0:((l1.length:Int) != (l2.length:Int))=true:=by rw[bne_iff_ne];omega
  have HF:Hid (oL l1 l2=false):=ab (by unfold oL;simp[qq]);clear h1 h2;go_enter func267,ntmps267;go_wp2_with fail
  go_ret;exact⟨aw (uh HF).symm,0,rfl⟩
end
theorem XD(a b c d e a' b' c' d' e':Int)(w:World):(Op.equalIn 10000 176 (.agg #[.int .i64 a,.int .i64 b,.int .i64 c,.int .i64 d,.int .i64 e]) (.agg #[.int .i64 a',.int .i64 b',.int .i64 c',.int .i64 d',.int .i64 e'])).run prog w=.ok (a==a'&&(b==b'&&(c==c'&&(d==d'&&e==e')))) w:=by
 have u3:=underlying3;have a3:=Tryz.isAgg3;have z3:=sizeOf3;rw[show(10000:Nat)=9999+1 from rfl,Op.equalIn];simp only[Sem.run_bind,run_underlying underlying176,Result.andThen_ok];simp only[Std.Legacy.Range.forIn_eq_forIn_range',Std.Legacy.Range.size,Nat.sub_zero,Nat.add_sub_cancel,Nat.div_one,range'_succ,range'_zero,forIn_cons,forIn_nil];go_simp
 by_cases h1:a=a' <;> by_cases h2:b=b' <;> by_cases h3:c=c' <;> by_cases h4:d=d' <;> by_cases h5:e=e' <;> simp[h1,h2,h3,h4,h5]
theorem ain(a b c d e a' b' c' d' e':Int)(w:World):(binOp .eql 176 (.agg #[.int .i64 a,.int .i64 b,.int .i64 c,.int .i64 d,.int .i64 e]) (.agg #[.int .i64 a',.int .i64 b',.int .i64 c',.int .i64 d',.int .i64 e'])).run prog w=.ok (.bool (a==a'&&(b==b'&&(c==c'&&(d==d'&&e==e'))))) w:=by
 rw[run_eql_struct,XD];rfl
theorem XV:prog.eqGuardType prog.depth 176=false:=by kernel_rfl
theorem Rg(f g:CF):((f.cl.getD 0 0:Int)==(g.cl.getD 0 0:Int)&&((f.cl.getD 1 0:Int)==(g.cl.getD 1 0:Int)&&((f.cl.getD 2 0:Int)==(g.cl.getD 2 0:Int)&&((f.cl.getD 3 0:Int)==(g.cl.getD 3 0:Int)&&(f.cl.getD 4 0:Int)==(g.cl.getD 4 0:Int)))))=decide (jM f=jM g):=by
 unfold jM;rw[aU,aU,aU,aU,aU];simp only[List.cons.injEq,and_true,Bool.decide_and]
section
variable {w:World} {A A':Nat} {f f':CF} {av ov av' ov':Value}
theorem OZ(h:dm w A f av ov)(h':dm w A' f' av' ov')(ha:f.ap.length<=100000)(ho:f.ow.length<=100000)(Yn:f'.ap.length<=100000)(ho':f'.ow.length<=100000):Calls prog 263 #[.pointer (some ⟨A,0,none⟩),.pointer (some ⟨A',0,none⟩)] w λe w'=>e=.returned (.bool (T5 f f'))/\Below w.heap.size w w':=by
 have ki:Hid (∀m:Nat,Calls prog 267 #[av,av'] (w.drewN m) λe w'=>e=.returned (.bool (oL f.ap f'.ap))/\∃j,w'=w.drewN j):=ab (λm=>(wm (w:=w.drewN m) h.ap h'.ap ha Yn).mono (λe w' hw=>⟨hw.1,by obtain⟨n,rfl⟩:=hw.2;exact⟨_,drewN_drewN _ _ _⟩⟩));have jP:Hid (∀m:Nat,Calls prog 267 #[ov,ov'] (w.drewN m) λe w'=>e=.returned (.bool (oL f.ow f'.ow))/\∃j,w'=w.drewN j):=ab (λm=>(wm (w:=w.drewN m) h.ow h'.ow ho ho').mono (λe w' hw=>⟨hw.1,by obtain⟨n,rfl⟩:=hw.2;exact⟨_,drewN_drewN _ _ _⟩⟩));obtain⟨oa,oc,dB,-,-⟩:=ah h.ow;subst dB;obtain⟨aa,ac,eS,-,-⟩:=ah h.ap;subst eS;obtain⟨oa',oc',Bq,-,-⟩:=ah h'.ow;subst Bq;obtain⟨aa',ac',ajc,-,-⟩:=ah h'.ap;subst ajc;have p0:=h.cls (i:=0) (by omega);have p1:=h.cls (i:=1) (by omega);have p2:=h.cls (i:=2) (by omega);have p3:=h.cls (i:=3) (by omega);have p4:=h.cls (i:=4) (by omega);have p5:=h'.cls (i:=0) (by omega);have p6:=h'.cls (i:=1) (by omega);have p7:=h'.cls (i:=2) (by omega);have p8:=h'.cls (i:=3) (by omega);have p9:=h'.cls (i:=4) (by omega);have pa:=h.c5;have pb:=h'.c5;have pc:=h.c6;have pd:=h'.c6;have hcd:=Rg f f';have tB:T5 f f'=(decide (jM f=jM f')&&oL f.ap f'.ap&&oL f.ow f'.ow):=rfl;have Fo:=ab tB;have hgd:=XV;have kE:∀W:World,(binOp .eql 176 (.agg #[eR f 0,eR f 1,eR f 2,eR f 3,eR f 4]) (.agg #[eR f' 0,eR f' 1,eR f' 2,eR f' 3,eR f' 4])).run prog W=.ok (.bool (decide (jM f=jM f'))) W:=λW=>by unfold eR;rw[ain,hcd]
 obtain⟨B,hB⟩:∃B,B=T5 f f':=⟨_,rfl⟩;rw[<-hB]at Fo ⊢;clear tB hcd h h' hB;obtain⟨bc,hbc⟩:∃b,b=decide (jM f=jM f'):=⟨_,rfl⟩;obtain⟨b1,aO⟩:∃b,b=oL f.ap f'.ap:=⟨_,rfl⟩;obtain⟨b2,ax⟩:∃b,b=oL f.ow f'.ow:=⟨_,rfl⟩;rw[<-hbc]at kE;rw[<-aO]at ki;rw[<-ax]at jP;rw[<-hbc,<-aO,<-ax]at Fo;clear hbc aO ax;go_enter func263,ntmps263;go_upto_region 1 with fail;cases bc
 .go_quiet (fail)
  go_wp2_with fail
  go_ret;exact⟨aw (uh Fo).symm,⟨rfl,rfl,rfl,zq4 _,λ_ _=>rfl⟩⟩
 .cases b1
  .go_quiet ((go_at_call 267;exact uh ki _))
   go_wp2_with fail
   go_ret;exact⟨aw (uh Fo).symm,⟨rfl,rfl,rfl,zq4 _,λ_ _=>rfl⟩⟩
  .go_quiet (first|(go_at_call 267;with_reducible exact uh ki _)|(go_at_call 267;with_reducible exact uh jP _))
   go_wp2_with fail
   go_ret;exact⟨aw (by rw[uh Fo];rfl),⟨rfl,rfl,rfl,zq4 _,λ_ _=>rfl⟩⟩
end
structure FE where
 A:Nat
 f:CF
 av:Value
 ov:Value
def FE.bs(x:FE):List Nat:=aG x.A x.av x.ov
def FE.p(x:FE):Value:=.pointer (some ⟨x.A,0,none⟩)
def a6(v:Value)(L:List FE):List Nat:=v.ownBlock.toList++L.flatMap FE.bs
structure Fl(w:World)(B:Nat)(v:Value)(L:List FE):Prop where
 row:w.ownsRow B 126 1 v L.length (L.map FE.p)
 fm:∀x∈L,Fm w x.A x.f x.av x.ov
 ge:∀x∈L,∀k∈x.bs,B<=k
 nd:(a6 v L).Nodup
theorem infoPF:(prog.info? 126).map (λi=>(i.zero,i.size,i.bytes))=some (some (.pointer none),1,8):=by kernel_rfl
section
variable {w w' w1:World} {B:Nat} {v:Value} {L:List FE}
theorem Fl.lt(h:Fl w B v L):∀k∈a6 v L,k<w.heap.size:=by
 intro k hk;rcases mem_append.1 hk with hk|hk
 .exact(h.row.lt k (by simpa using hk)).2
 .obtain⟨x,hx,hk⟩:=mem_flatMap.1 hk;exact(h.fm x hx).lt k hk
theorem Fl.geB(h:Fl w B v L):∀k∈a6 v L,B<=k:=by
 intro k hk;rcases mem_append.1 hk with hk|hk
 .exact(h.row.lt k (by simpa using hk)).1
 .obtain⟨x,hx,hk⟩:=mem_flatMap.1 hk;exact h.ge x hx k hk
theorem Fl.of_eq(h:Fl w B v L)(he:∀k∈a6 v L,w'.heap[k]?=w.heap[k]?):Fl w' B v L :=
 ⟨ae h.row (λk hk=>he k (mem_append_left _ (by simpa using hk))),λx hx=>(h.fm x hx).of_eq (λk hk=>he k (mem_append_right _ (mem_flatMap.2 ⟨x,hx,hk⟩))),h.ge,h.nd⟩
theorem Fl.stp{F F':List Nat}(h:Fl w B v L)(hs:am F w F' w')(hd:∀k∈a6 v L,k ∉ F):Fl w' B v L:=h.of_eq (λk hk=>hs.block k (h.lt k hk) (hd k hk))
theorem Fl.below(h:Fl w B v L)(hb:Below w.heap.size w w'):Fl w' B v L:=h.of_eq (λk hk=>hb.block k (h.lt k hk))
theorem Fl.nil0(w:World)(B:Nat):Fl w B (.slice none 0 0) []:=⟨⟨rfl,.inl ⟨rfl,rfl⟩⟩,λx hx=>by simp at hx,λx hx=>by simp at hx,by simp[a6,Value.ownBlock]⟩
theorem Fl.app {g1 c1:Nat} {o:Obj} {x:FE} (h:Fl w B v L) (hx:Fm w x.A x.f x.av x.ov) (hB:∀k∈x.bs,B<=k) (hd:∀k∈x.bs,k ∉ a6 v L) (RX:B<=w.heap.size)
  (aN:w1.ownsRow B 126 1 (.slice (some ⟨g1,0,none⟩) (L.length+1) c1) (L.length+1) (L.map FE.p++[x.p])) (hg:(w.alloc o).grownBy w1 v.ownBlock) (b7:some g1=v.ownBlock\/g1=(w.alloc o).heap.size) :
  Fl w1 B (.slice (some ⟨g1,0,none⟩) (L.length+1) c1) (L++[x])/\am v.ownBlock.toList w [g1] w1/\(∀k∈a6 (.slice (some ⟨g1,0,none⟩) (L.length+1) c1) (L++[x]),k∈a6 v L\/k∈x.bs\/w.heap.size<=k):=by
 have hs:=jI hg b7;have cH:=h.nd;unfold a6 at cH;rw[nodup_append]at cH;have key:∀y:FE,Fm w y.A y.f y.av y.ov->(∀k∈y.bs,v.ownBlock≠some k)->Fm w1 y.A y.f y.av y.ov:=λy hy hv=>hy.of_eq (λk hk=>hs.block k (hy.lt k hk) (by simpa using hv k hk));have wT:∀k∈(L++[x]).flatMap FE.bs,g1≠k:=by
  intro k hk e;subst e;have ar:g1<w.heap.size:=by
   obtain⟨y,hy,Gl⟩:=mem_flatMap.1 hk;rcases mem_append.1 hy with hy|hy
   .exact(h.fm y hy).lt _ Gl
   .rw[mem_singleton]at hy;subst hy;exact hx.lt _ Gl
  rcases b7 with e|e
  .rw[flatMap_append,mem_append]at hk;rcases hk with hk|hk
   .exact cH.2.2 g1 (by rw[<-e];simp) g1 hk rfl
   .simp only[flatMap_cons,flatMap_nil,append_nil]at hk;exact hd g1 hk (mem_append_left _ (by rw[<-e];simp))
  .rw[e]at ar;simp at ar;omega
 refine⟨⟨?_,?_,?_,?_⟩,hs,?_⟩
 .rw[length_append,length_singleton,map_append];exact aN
 .intro y hy;rcases mem_append.1 hy with hy|hy
  .exact key y (h.fm y hy) (λk hk e=>cH.2.2 k (by rw[e];simp) k (mem_flatMap.2 ⟨y,hy,hk⟩) rfl)
  .rw[mem_singleton]at hy;subst hy;exact key y hx (λk hk e=>hd k hk (mem_append_left _ (by rw[e];simp)))
 .intro y hy;rcases mem_append.1 hy with hy|hy
  .exact h.ge y hy
  .rw[mem_singleton]at hy;subst hy;exact hB
 .show([g1]++(L++[x]).flatMap FE.bs).Nodup;rw[nodup_append];refine⟨by simp,?_,λa ha b hb e=>wT b hb (by rw[mem_singleton]at ha;rw[<-ha];exact e)⟩;rw[flatMap_append,nodup_append];refine⟨cH.2.1,by simpa[FE.bs] using hx.nd,?_⟩;intro a ha b hb e;simp only[flatMap_cons,flatMap_nil,append_nil]at hb;subst e;exact hd a hb (mem_append_right _ ha)
 .intro k hk;rcases mem_append.1 hk with hk|hk
  .have e:k=g1:=(by simpa[Value.ownBlock,eq_comm] using hk);subst e;rcases b7 with e|e
   .exact zq0 (mem_append_left _ (by rw[<-e];simp))
   .right;right;rw[e];simp
  .rw[flatMap_append,mem_append]at hk;rcases hk with hk|hk
   .exact zq0 (mem_append_right _ hk)
   .simp only[flatMap_cons,flatMap_nil,append_nil]at hk;exact zq1 (zq0 hk)
end
section
variable {w:World} {A:Nat} {f:CF} {av ov:Value}
theorem pD(h:dm w A f av ov)(k i:Nat)(hi:i<4):Calls prog 236 #[.pointer (some ⟨A,0,none⟩),.agg #[.int .i64 k,.int .i64 i]] w λe w'=>e=.returned (.int .i64 (lK f k i:Nat))/\Below w.heap.size w w':=by
 obtain⟨W1,dF⟩:∃W1,W1=w.alloc (.cells #[Value.int .i64 (k:Int),.int .i64 (i:Int)] 184):=⟨_,rfl⟩;have aT:Below w.heap.size w W1:=by rw[dF];exact af w _
 have hX:Bk W1 w.heap.size 184 [Value.int .i64 (k:Int),.int .i64 (i:Int)]:=by rw[dF];exact Bk.new w _ _
 have b0:=hX.cell 0 rfl;have b1:=hX.cell 1 rfl;have x0:=(h.below aT).cls (i:=0) (by omega);have x1:=(h.below aT).cls (i:=1+i) (by omega);unfold eR at x0 x1;obtain⟨c,hc⟩:∃c,c=lK f k i:=⟨_,rfl⟩;rw[<-hc];have HB:=ab aT;have i1:(0:Int)<=1+(i:Int):=by omega
 have i2:1+(i:Int)<5:=by omega
 have i3:(1+(i:Int)).toNat=1+i:=by omega
 obtain⟨c0,rI⟩:∃c0,c0=f.cl.getD 0 0:=⟨_,rfl⟩;obtain⟨c1,I0⟩:∃c1,c1=f.cl.getD (1+i) 0:=⟨_,rfl⟩;rw[<-rI]at x0;rw[<-I0]at x1;unfold lK at hc;rw[<-rI,<-I0]at hc;by_cases hk:k=1
 .have d0:((k:Int)==1)=true:=by simp[hk]
  rw[if_pos hk]at hc;have HC:=ab hc;clear h aT hX hc hk rI I0;go_enter func236,ntmps236;go_upto_region 1 with fail;rw[<-dF];clear dF;go_wp2_with fail
  go_quiet (fail)
  go_wp2_with fail
  go_ret;exact⟨by rw[uh HC];rfl,⟨(uh HB).os,(uh HB).tape,(uh HB).output,(uh HB).size,(uh HB).block⟩⟩
 .have d0:((k:Int)==1)=false:=by simp;omega
  rw[if_neg hk]at hc;have HC:=ab hc;clear h aT hX hc hk rI I0;go_enter func236,ntmps236;go_upto_region 1 with fail;rw[<-dF];clear dF;go_wp2_with fail
  go_ret;exact⟨by rw[uh HC];rfl,uh HB⟩
end
structure Oo(w:World)(O:Nat)(nu da fu:Bool)(nv tv:Value)(Ln Lt:List FE):Prop where
 bk:Bk w O 280 [nv,tv,.bool nu,.bool da,.bool fu]
 nx:Fl w 0 nv Ln
 ot:Fl w 0 tv Lt
 nd:(O::(a6 nv Ln++a6 tv Lt)).Nodup
def dU(O:Nat)(nv tv:Value)(Ln Lt:List FE):List Nat:=O::(a6 nv Ln++a6 tv Lt)
section
variable {w w':World} {O:Nat} {nu da fu:Bool} {nv tv:Value} {Ln Lt:List FE}
theorem Oo.lt(h:Oo w O nu da fu nv tv Ln Lt):∀k∈dU O nv tv Ln Lt,k<w.heap.size:=by
 intro k hk;rcases mem_cons.1 hk with rfl|hk
 .exact h.bk.lt
 .rcases mem_append.1 hk with hk|hk
  .exact h.nx.lt k hk
  .exact h.ot.lt k hk
theorem Oo.of_eq(h:Oo w O nu da fu nv tv Ln Lt)(he:∀k∈dU O nv tv Ln Lt,w'.heap[k]?=w.heap[k]?):Oo w' O nu da fu nv tv Ln Lt :=
 ⟨h.bk.of_eq (he O (by simp[dU])),h.nx.of_eq (λk hk=>he k (by simp only[dU,mem_cons,mem_append];exact zq1 (zq0 hk))),h.ot.of_eq (λk hk=>he k (by simp only[dU,mem_cons,mem_append];exact zq1 (zq1 hk))),h.nd⟩
theorem Oo.stp{F F':List Nat}(h:Oo w O nu da fu nv tv Ln Lt)(hs:am F w F' w')(hd:∀k∈dU O nv tv Ln Lt,k ∉ F):Oo w' O nu da fu nv tv Ln Lt:=h.of_eq (λk hk=>hs.block k (h.lt k hk) (hd k hk))
theorem Oo.below(h:Oo w O nu da fu nv tv Ln Lt)(hb:Below w.heap.size w w'):Oo w' O nu da fu nv tv Ln Lt:=h.of_eq (λk hk=>hb.block k (h.lt k hk))
theorem Oo.flag(h:Oo w O nu da fu nv tv Ln Lt){nu' da' fu':Bool}(j:Nat)(hj:2<=j/\j<=4)(he:[nv,tv,.bool nu,.bool da,.bool fu].set j (.bool true)=[nv,tv,Value.bool nu',.bool da',.bool fu']):Oo (w.setCell ⟨O,j,none⟩ (.bool true)) O nu' da' fu' nv tv Ln Lt:=by
 have cH:=nodup_cons.1 h.nd;refine⟨?_,h.nx.of_eq (λk hk=>heap_setCell _ _ _ _ ?_),h.ot.of_eq (λk hk=>heap_setCell _ _ _ _ ?_),h.nd⟩
 .have:=h.bk.set j (.bool true);rw[he]at this;exact this
 .rintro rfl;exact cH.1 (mem_append_left _ hk)
 .rintro rfl;exact cH.1 (mem_append_right _ hk)
theorem Oo.addN {g1 c1:Nat} {o:Obj} {x:FE} {w1:World} (h:Oo w O nu da fu nv tv Ln Lt) (hx:Fm w x.A x.f x.av x.ov) (hd:∀k∈x.bs,k ∉ dU O nv tv Ln Lt)
  (aN:w1.ownsRow 0 126 1 (.slice (some ⟨g1,0,none⟩) (Ln.length+1) c1) (Ln.length+1) (Ln.map FE.p++[x.p])) (hg:(w.alloc o).grownBy w1 nv.ownBlock) (b7:some g1=nv.ownBlock\/g1=(w.alloc o).heap.size) :
  Oo (w1.setCell ⟨O,0,none⟩ (.slice (some ⟨g1,0,none⟩) (Ln.length+1) c1)) O nu da fu (.slice (some ⟨g1,0,none⟩) (Ln.length+1) c1) tv (Ln++[x]) Lt /\
  am (dU O nv tv Ln Lt++x.bs) w (dU O (.slice (some ⟨g1,0,none⟩) (Ln.length+1) c1) tv (Ln++[x]) Lt) (w1.setCell ⟨O,0,none⟩ (.slice (some ⟨g1,0,none⟩) (Ln.length+1) c1)) /\
  (∃u,w1.cell? ⟨O,0,none⟩=some u)/\w1.frozen? ⟨O,0,none⟩=false:=by
 have cH:=nodup_cons.1 h.nd;have tq:=nodup_append.1 cH.2;obtain⟨a1,a2,a3⟩:=h.nx.app hx (λk _=>zq5 _) (λk hk hn=>hd k hk (by simp only[dU,mem_cons,mem_append];exact zq1 (zq0 hn))) (zq5 _) aN hg b7;have hOv:nv.ownBlock≠some O:=λe=>cH.1 (mem_append_left _ (mem_append_left _ (by rw[e];simp)));have aO:Bk w1 O 280 [nv,tv,.bool nu,.bool da,.bool fu]:=h.bk.of_eq (a2.block O h.bk.lt (by simpa using hOv));have vH:Fl w1 0 tv Lt:=h.ot.stp a2 (λk hk hn=>tq.2.2 k (mem_append_left _ hn) k hk rfl);have s7:∀k∈a6 (.slice (some ⟨g1,0,none⟩) (Ln.length+1) c1) (Ln++[x]),k≠O:=by
  intro k hk e;subst e;rcases a3 k hk with q|q|q
  .exact cH.1 (mem_append_left _ q)
  .exact hd k q (by simp[dU])
  .have:=h.bk.lt;omega
 have hOt:∀k∈a6 tv Lt,k≠O:=λk hk e=>cH.1 (by subst e;exact mem_append_right _ hk);refine⟨⟨aO.set 0 _,a1.of_eq (λk hk=>heap_setCell _ _ _ _ (s7 k hk)),vH.of_eq (λk hk=>heap_setCell _ _ _ _ (hOt k hk)),?_⟩,?_,⟨_,aO.cell 0 rfl⟩,aO.frz 0⟩
 .rw[nodup_cons,nodup_append];refine⟨λhm=>?_,a1.nd,h.ot.nd,λa ha b hb e=>?_⟩
  .rcases mem_append.1 hm with hm|hm
   .exact s7 O hm rfl
   .exact hOt O hm rfl
  .subst e;rcases a3 a ha with q|q|q
   .exact tq.2.2 a q a hb rfl
   .exact hd a q (by simp only[dU,mem_cons,mem_append];exact zq1 (zq1 hb))
   .have:=h.ot.lt a hb;omega
 .refine((a2.wide (G:=dU O nv tv Ln Lt++x.bs) (λk hk=>mem_append_left _ (by simp only[dU,a6,mem_cons,mem_append];exact zq1 (zq0 (zq0 hk))))).setCell (p:=⟨O,0,none⟩) (zq0 (by simp[dU])) _).foots (λk hk=>?_);rcases mem_cons.1 hk with rfl|hk
  .exact zq0 (by simp[dU])
  .rcases mem_append.1 hk with hk|hk
   .rcases a3 k hk with q|q|q
    .exact zq0 (mem_append_left _ (by simp only[dU,mem_cons,mem_append];exact zq1 (zq0 q)))
    .exact zq0 (mem_append_right _ q)
    .exact zq1 q
   .exact zq0 (mem_append_left _ (by simp only[dU,mem_cons,mem_append];exact zq1 (zq1 hk)))
theorem Oo.addT {g1 c1:Nat} {o:Obj} {x:FE} {w1:World} (h:Oo w O nu da fu nv tv Ln Lt) (hx:Fm w x.A x.f x.av x.ov) (hd:∀k∈x.bs,k ∉ dU O nv tv Ln Lt)
  (aN:w1.ownsRow 0 126 1 (.slice (some ⟨g1,0,none⟩) (Lt.length+1) c1) (Lt.length+1) (Lt.map FE.p++[x.p])) (hg:(w.alloc o).grownBy w1 tv.ownBlock) (b7:some g1=tv.ownBlock\/g1=(w.alloc o).heap.size) :
  Oo (w1.setCell ⟨O,1,none⟩ (.slice (some ⟨g1,0,none⟩) (Lt.length+1) c1)) O nu da fu nv (.slice (some ⟨g1,0,none⟩) (Lt.length+1) c1) Ln (Lt++[x]) /\
  am (dU O nv tv Ln Lt++x.bs) w (dU O nv (.slice (some ⟨g1,0,none⟩) (Lt.length+1) c1) Ln (Lt++[x])) (w1.setCell ⟨O,1,none⟩ (.slice (some ⟨g1,0,none⟩) (Lt.length+1) c1)) /\
  (∃u,w1.cell? ⟨O,1,none⟩=some u)/\w1.frozen? ⟨O,1,none⟩=false:=by
 have cH:=nodup_cons.1 h.nd;have tq:=nodup_append.1 cH.2;obtain⟨a1,a2,a3⟩:=h.ot.app hx (λk _=>zq5 _) (λk hk hn=>hd k hk (by simp only[dU,mem_cons,mem_append];exact zq1 (zq1 hn))) (zq5 _) aN hg b7;have hOv:tv.ownBlock≠some O:=λe=>cH.1 (mem_append_right _ (mem_append_left _ (by rw[e];simp)));have aO:Bk w1 O 280 [nv,tv,.bool nu,.bool da,.bool fu]:=h.bk.of_eq (a2.block O h.bk.lt (by simpa using hOv));have vH:Fl w1 0 nv Ln:=h.nx.stp a2 (λk hk hn=>tq.2.2 k hk k (mem_append_left _ hn) rfl);have s7:∀k∈a6 (.slice (some ⟨g1,0,none⟩) (Lt.length+1) c1) (Lt++[x]),k≠O:=by
  intro k hk e;subst e;rcases a3 k hk with q|q|q
  .exact cH.1 (mem_append_right _ q)
  .exact hd k q (by simp[dU])
  .have:=h.bk.lt;omega
 have hOt:∀k∈a6 nv Ln,k≠O:=λk hk e=>cH.1 (by subst e;exact mem_append_left _ hk);refine⟨⟨aO.set 1 _,vH.of_eq (λk hk=>heap_setCell _ _ _ _ (hOt k hk)),a1.of_eq (λk hk=>heap_setCell _ _ _ _ (s7 k hk)),?_⟩,?_,⟨_,aO.cell 1 rfl⟩,aO.frz 1⟩
 .rw[nodup_cons,nodup_append];refine⟨λhm=>?_,h.nx.nd,a1.nd,λa ha b hb e=>?_⟩
  .rcases mem_append.1 hm with hm|hm
   .exact hOt O hm rfl
   .exact s7 O hm rfl
  .subst e;rcases a3 a hb with q|q|q
   .exact tq.2.2 a ha a q rfl
   .exact hd a q (by simp only[dU,mem_cons,mem_append];exact zq1 (zq0 ha))
   .have:=h.nx.lt a ha;omega
 .refine((a2.wide (G:=dU O nv tv Ln Lt++x.bs) (λk hk=>mem_append_left _ (by simp only[dU,a6,mem_cons,mem_append];exact zq1 (zq1 (zq0 hk))))).setCell (p:=⟨O,1,none⟩) (zq0 (by simp[dU])) _).foots (λk hk=>?_);rcases mem_cons.1 hk with rfl|hk
  .exact zq0 (by simp[dU])
  .rcases mem_append.1 hk with hk|hk
   .exact zq0 (mem_append_left _ (by simp only[dU,mem_cons,mem_append];exact zq1 (zq0 hk)))
   .rcases a3 k hk with q|q|q
    .exact zq0 (mem_append_left _ (by simp only[dU,mem_cons,mem_append];exact zq1 (zq1 q)))
    .exact zq0 (mem_append_right _ q)
    .exact zq1 q
theorem gg{A:Nat}{f:CF}{av ov:Value}(h:Oo w O nu da fu nv tv Ln Lt)(hF:Fm w A f av ov)(hO:au f)(ha:f.ap.length<=100000)(hd:∀k∈aG A av ov,k ∉ dU O nv tv Ln Lt)(hn:Ln.length<=900000):
  Calls prog 242 #[.pointer (some ⟨O,0,none⟩),.pointer (some ⟨A,0,none⟩)] w λe w'=>e=.returned (.tuple #[])/\∃nv' x,x.A=A/\x.f=bJ f/\Oo w' O nu da fu nv' tv (Ln++[x]) Lt/\am (dU O nv tv Ln Lt++aG A av ov) w (dU O nv' tv (Ln++[x]) Lt) w':=by
 obtain⟨i0,hi,dG,du,ef⟩:=info_parts infoPF;have HT:=ab (jK hF hO ha);have H:=ab h;have HD:=ab hd;clear h hF hO hd;go_enter func242,ntmps242;go_wp2_with fail
 refine(uh HT).mono ?_;rintro e w1 ⟨rfl,av1,ov1,iT,cN⟩;have h1:=(uh H).stp cN (λk hk hn=>uh HD k hn hk);have DW:∀k∈aG A av1 ov1,k ∉ dU O nv tv Ln Lt:=by
  intro k hk hn;rcases cN.foot k hk with q|q
  .exact uh HD k q hn
  .have:=(uh H).lt k hn;omega
 obtain⟨na,nc,zY,-,-⟩:=ah h1.nx.row;subst zY;have c0:=h1.bk.cell 0 rfl;have HS:=ab h1.nx.row;have H1:=ab h1;have Cz:=ab iT;have Qz:=ab DW;have bC:=ab cN;clear h1 iT DW cN HT;go_wp2_with (at_builtin;refine aK _ rfl (.tmp 10) (.tmp 12) 125 rfl 0 126 i0 _ 1 8 underlying125 hi dG du ef rfl (by decide) _ Ln.length (Ln.map FE.p) rfl ((uh HS).alloc _) ⟨_,0,none⟩ 1 [.pointer (some ⟨A,0,none⟩)] rfl rfl (aJ _ _ (by simp) [.pointer (some ⟨A,0,none⟩)] _) (by intro u hu;simp only[mem_singleton]at hu;subst hu;rfl) (by omega) (by omega) (zq5 _) ?_)
 intro g1 cap1 w2 aZ aI cE;obtain⟨q1,q2,⟨u,q3⟩,q4⟩:=(uh H1).addN (x:=⟨A,bJ f,av1,ov1⟩) (uh Cz) (uh Qz) aZ aI (by simpa using cE);have HN:=ab q1;have Ij:=ab q2;clear aZ aI cE q1 q2 c0;go_wp2_with fail
 go_end0
 refine⟨rfl,_,⟨A,bJ f,av1,ov1⟩,rfl,rfl,uh HN,?_⟩;have h1:=(uh bC).wide (G:=dU O (.slice na Ln.length nc) tv Ln Lt++aG A av ov) (λk hk=>mem_append_right _ hk);have h2:=uh Ij;refine⟨h2.os.trans h1.os,h2.tape.trans h1.tape,h2.output.trans h1.output,zq3 h1.size h2.size,λk hk hn=>?_,λk hk=>?_⟩
 .rw[h2.block k (zq6 hk h1.size) (λhm=>?_)]
  .exact h1.block k hk hn
  .rcases mem_append.1 hm with hm|hm
   .exact hn (mem_append_left _ hm)
   .rcases(uh bC).foot k hm with q|q
    .exact hn (mem_append_right _ q)
    .omega
 .rcases h2.foot k hk with q|q
  .rcases mem_append.1 q with q|q
   .exact zq0 (mem_append_left _ q)
   .rcases(uh bC).foot k q with q|q
    .exact zq0 (mem_append_right _ q)
    .exact zq1 q
  .exact zq1 (zq3 h1.size q)
theorem uA{A:Nat}{f:CF}{av ov:Value}(h:Oo w O nu da fu nv tv Ln Lt)(hF:Fm w A f av ov)(hO:au f)(ha:f.ap.length<=100000)(hd:∀k∈aG A av ov,k ∉ dU O nv tv Ln Lt)(hn:Lt.length<=900000):
  Calls prog 243 #[.pointer (some ⟨O,0,none⟩),.pointer (some ⟨A,0,none⟩)] w λe w'=>e=.returned (.tuple #[])/\∃tv' x,x.A=A/\x.f=bJ f/\Oo w' O nu da fu nv tv' Ln (Lt++[x])/\am (dU O nv tv Ln Lt++aG A av ov) w (dU O nv tv' Ln (Lt++[x])) w':=by
 obtain⟨i0,hi,dG,du,ef⟩:=info_parts infoPF;have HT:=ab (jK hF hO ha);have H:=ab h;have HD:=ab hd;clear h hF hO hd;go_enter func243,ntmps243;go_wp2_with fail
 refine(uh HT).mono ?_;rintro e w1 ⟨rfl,av1,ov1,iT,cN⟩;have h1:=(uh H).stp cN (λk hk hn=>uh HD k hn hk);have DW:∀k∈aG A av1 ov1,k ∉ dU O nv tv Ln Lt:=by
  intro k hk hn;rcases cN.foot k hk with q|q
  .exact uh HD k q hn
  .have:=(uh H).lt k hn;omega
 obtain⟨na,nc,zY,-,-⟩:=ah h1.ot.row;subst zY;have c0:=h1.bk.cell 1 rfl;have HS:=ab h1.ot.row;have H1:=ab h1;have Cz:=ab iT;have Qz:=ab DW;have bC:=ab cN;clear h1 iT DW cN HT;go_wp2_with (at_builtin;refine aK _ rfl (.tmp 10) (.tmp 12) 125 rfl 0 126 i0 _ 1 8 underlying125 hi dG du ef rfl (by decide) _ Lt.length (Lt.map FE.p) rfl ((uh HS).alloc _) ⟨_,0,none⟩ 1 [.pointer (some ⟨A,0,none⟩)] rfl rfl (aJ _ _ (by simp) [.pointer (some ⟨A,0,none⟩)] _) (by intro u hu;simp only[mem_singleton]at hu;subst hu;rfl) (by omega) (by omega) (zq5 _) ?_)
 intro g1 cap1 w2 aZ aI cE;obtain⟨q1,q2,⟨u,q3⟩,q4⟩:=(uh H1).addT (x:=⟨A,bJ f,av1,ov1⟩) (uh Cz) (uh Qz) aZ aI (by simpa using cE);have HN:=ab q1;have Ij:=ab q2;clear aZ aI cE q1 q2 c0;go_wp2_with fail
 go_end0
 refine⟨rfl,_,⟨A,bJ f,av1,ov1⟩,rfl,rfl,uh HN,?_⟩;have h1:=(uh bC).wide (G:=dU O nv (.slice na Lt.length nc) Ln Lt++aG A av ov) (λk hk=>mem_append_right _ hk);have h2:=uh Ij;refine⟨h2.os.trans h1.os,h2.tape.trans h1.tape,h2.output.trans h1.output,zq3 h1.size h2.size,λk hk hn=>?_,λk hk=>?_⟩
 .rw[h2.block k (zq6 hk h1.size) (λhm=>?_)]
  .exact h1.block k hk hn
  .rcases mem_append.1 hm with hm|hm
   .exact hn (mem_append_left _ hm)
   .rcases(uh bC).foot k hm with q|q
    .exact hn (mem_append_right _ q)
    .omega
 .rcases h2.foot k hk with q|q
  .rcases mem_append.1 q with q|q
   .exact zq0 (mem_append_left _ q)
   .rcases(uh bC).foot k q with q|q
    .exact zq0 (mem_append_right _ q)
    .exact zq1 q
  .exact zq1 (zq3 h1.size q)
end
structure Ms(w W:World)(v:Value)(L:List FE)(X:Nat)(p:Pr):Prop where
 fl:Fl W w.heap.size v L
 bx:Bk W X 182 [.int .i64 (p.k:Int),.int .i64 (p.l:Int),.int .i64 (p.r:Int)]
 nx:∀k∈a6 v L,k≠X
 xw:w.heap.size<=X
 bw:Below w.heap.size w W
structure Kv(W W':World)(x:FE):Prop where
 fm:Fm W' x.A x.f x.av x.ov
 ge:∀k∈x.bs,W.heap.size<=k
 bw:Below W.heap.size W W'
theorem Kv.step{W W' W'':World}{x x':FE}(h:Kv W W' x)(hf:Fm W'' x'.A x'.f x'.av x'.ov)(hs:am x.bs W' x'.bs W''):Kv W W'' x' :=
 ⟨hf,λk hk=>by
  rcases hs.foot k hk with q|q
  .exact h.ge k q
  .exact zq3 h.bw.size q,⟨hs.os.trans h.bw.os,hs.tape.trans h.bw.tape,hs.output.trans h.bw.output,zq3 h.bw.size hs.size,λk hk=>(hs.block k (zq6 hk h.bw.size) (λhn=>by have:=h.ge k hn;omega)).trans (h.bw.block k hk)⟩⟩
theorem Kv.below{W W' W'':World}{x:FE}(h:Kv W W' x)(hb:Below W'.heap.size W' W''):Kv W W'' x:=⟨h.fm.below hb,h.ge,h.bw.trans (hb.mono h.bw.size)⟩
theorem Il.frf{W W':World}{f:CF}{A':Nat}(h:Il W f A' W'):∃av' ov',Kv W W' ⟨A',f,av',ov'⟩:=by
 obtain⟨av',ov',h1,h2,h3⟩:=h;exact⟨av',ov',h1,h2,h3⟩
theorem Fm.putO{w:World}{A:Nat}{f:CF}{av:Value}{g cap i:Nat}(h:Fm w A f av (.slice (some ⟨g,0,none⟩) f.ow.length cap))(hi:i<f.ow.length)(r:Nat):
  Fm (w.setCell ⟨g,i*3+2,none⟩ (.int .i64 (r:Int))) A (setO f i ⟨(owA f i).k,(owA f i).l,r⟩) av (.slice (some ⟨g,0,none⟩) f.ow.length cap)/\am (aG A av (.slice (some ⟨g,0,none⟩) f.ow.length cap)) w (aG A av (.slice (some ⟨g,0,none⟩) f.ow.length cap)) (w.setCell ⟨g,i*3+2,none⟩ (.int .i64 (r:Int))) /\
  (∃u,w.cell? ⟨g,i*3+2,none⟩=some u)/\w.frozen? ⟨g,i*3+2,none⟩=false:=by
 have h1:=(h.is.ow.stored (i*3+2) (.int .i64 (r:Int))).1;rw[ej hi]at h1;have hs:am (Value.slice (some ⟨g,0,none⟩) f.ow.length cap).ownBlock.toList w (Value.slice (some ⟨g,0,none⟩) f.ow.length cap).ownBlock.toList (w.setCell ⟨g,i*3+2,none⟩ (.int .i64 (r:Int))):=(am.refl _ _).setCell (p:=⟨g,i*3+2,none⟩) (zq0 (by simp[Value.ownBlock])) _;obtain⟨a1,a2⟩:=h.newRow (ow':=f.ow.set i ⟨(owA f i).k,(owA f i).l,r⟩) (by simp) h1 hs;obtain⟨-,-,x2⟩:=aA h.is.ow hi;exact⟨a1,a2,⟨_,x2⟩,h.is.ow.frozenAt _⟩
section
variable {w W W':World} {v:Value} {L:List FE} {X:Nat} {p:Pr}
theorem Ms.below(h:Ms w W v L X p)(hb:Below W.heap.size W W'):Ms w W' v L X p:=⟨h.fl.below hb,h.bx.below hb,h.nx,h.xw,h.bw.trans (hb.mono h.bw.size)⟩
theorem Ms.fresh(h:Ms w W v L X p){x:FE}(hx:∀k∈x.bs,W.heap.size<=k):∀k∈x.bs,k ∉ a6 v L/\k≠X/\w.heap.size<=k:=λk hk=>by
 have h1:=hx k hk;exact⟨λhn=>by have:=h.fl.lt k hn;omega,λe=>by have:=h.bx.lt;omega,zq3 h.bw.size h1⟩
theorem Ms.app {g1 c1:Nat} {o:Obj} {x:FE} {W1:World} (h:Ms w W v L X p) (hx:Fm W x.A x.f x.av x.ov) (hd:∀k∈x.bs,k ∉ a6 v L/\k≠X/\w.heap.size<=k)
  (aN:W1.ownsRow w.heap.size 126 1 (.slice (some ⟨g1,0,none⟩) (L.length+1) c1) (L.length+1) (L.map FE.p++[x.p])) (hg:(W.alloc o).grownBy W1 v.ownBlock) (b7:some g1=v.ownBlock\/g1=(W.alloc o).heap.size) :
  Ms w W1 (.slice (some ⟨g1,0,none⟩) (L.length+1) c1) (L++[x]) X p:=by
 obtain⟨a1,a2,a3⟩:=h.fl.app hx (λk hk=>(hd k hk).2.2) (λk hk=>(hd k hk).1) h.bw.size aN hg b7;have hv:∀k∈v.ownBlock.toList,k≠X/\w.heap.size<=k:=λk hk=>⟨h.nx k (mem_append_left _ hk),h.fl.geB k (mem_append_left _ hk)⟩;exact⟨a1,h.bx.stp a2 (λhn=>(hv X hn).1 rfl),λk hk e=>by
  rcases a3 k hk with q|q|q
  .exact h.nx k q e
  .exact(hd k q).2.1 e
  .have:=h.bx.lt;omega,h.xw,⟨a2.os.trans h.bw.os,a2.tape.trans h.bw.tape,a2.output.trans h.bw.output,zq3 h.bw.size a2.size,λk hk=>(a2.block k (zq6 hk h.bw.size) (λhn=>by have:=(hv k hn).2;omega)).trans (h.bw.block k hk)⟩⟩
theorem Ey{A:Nat}{f:CF}{av ov:Value}(h:dm w A f av ov)(hO:au f)(ha:f.ap.length<=40000){c i:Nat}(hc:c<24)(hi:i<f.ow.length):
  Calls prog 255 #[.pointer (some ⟨A,0,none⟩),.int .i64 c,.int .i64 i] w λe w'=>∃v L,e=.returned v/\Fl w' w.heap.size v L/\L.map (·.f)=gt f c i/\Below w.heap.size w w':=by
 obtain⟨i0,iy,dG,du,ef⟩:=info_parts infoPF;have f8:=hO.owLen;obtain⟨oa,oc,dB,-,-⟩:=ah h.ow;subst dB;obtain⟨p,hp⟩:∃p,p=f.ow.getD i az:=⟨_,rfl⟩;obtain⟨W2,d9⟩:∃W2,W2=(w.alloc (.cells #[] 126)).alloc (.cells #[Value.int .i64 p.k,.int .i64 p.l,.int .i64 p.r] 182):=⟨_,rfl⟩;have MA:Ms w W2 (.slice (some ⟨w.heap.size,0,none⟩) 0 0) [] (w.heap.size+1) p:=by
  have aO:=af w (.cells #[] 126);have ax:=af (w.alloc (.cells #[] 126)) (.cells #[Value.int .i64 p.k,.int .i64 p.l,.int .i64 p.r] 182);refine⟨⟨?_,λx hx=>by simp at hx,λx hx=>by simp at hx,by simp[a6,Value.ownBlock]⟩,?_,λk hk=>?_,Nat.le_succ _,?_⟩
  .rw[d9];exact(ownsRow_lit (base:=w.heap.size) (e:=126) (size:=1) w #[] 0 (zq4 _) (by simp[maxLen]) rfl).alloc _
  .rw[d9];have:=Bk.new (w.alloc (.cells #[] 126)) 182 [Value.int .i64 p.k,.int .i64 p.l,.int .i64 p.r];simpa using this
  .have e:k=w.heap.size:=(by simpa[a6,Value.ownBlock,eq_comm] using hk);omega
  .rw[d9];exact aO.trans (ax.mono aO.size)
 have h1:dm (w.alloc (.cells #[] 126)) A f av (.slice oa f.ow.length oc):=h.below (af w _);have c6:=h1.c6;obtain⟨g,cap,cM,-,-⟩:=aC h1.ow hi;simp only[Value.slice.injEq,true_and]at cM;obtain⟨rfl,rfl⟩:=cM;obtain⟨x0,x1,x2⟩:=aA h1.ow hi;rw[<-hp]at x0 x1 x2;obtain⟨X,hX⟩:∃X,X=w.heap.size+1:=⟨_,rfl⟩;rw[<-hX]at MA;have h2:=h.below MA.bw;have UQ:=ab (jW c p.l h2);have er:=(hO.ow _ (cy hi));rw[<-hp]at er;have HP:=ab hp;have H:=ab h;have HO:=ab hO;have Ah:=ab MA;have b1:=MA.bx.cell 1 rfl;have i1:(0:Int)<=(i:Int):=by omega
 have i2:(i:Int)<(f.ow.length:Int):=by omega
 clear h hO h1 h2 MA hp;go_enter func255,ntmps255;go_upto_region 3 with fail;rw[show w.heap.size+1=X from hX.symm,<-d9];clear d9 hX x0 x1 x2 c6;go_wp2_with fail
 refine(uh UQ).mono ?_;rintro e w3 ⟨rfl,bF⟩;have hM3:=(uh Ah).below bF;have Cy:Hid (ew f c (owA f i).l=ew f c p.l):=ab (by rw[uh HP];rfl);have Fj:=ab hM3;clear hM3 bF UQ b1;cases vx:ew f c p.l
 .have HDE:Hid (ew f c (owA f i).l=false):=ab ((uh Cy).trans vx);have gI:=ab ((uh H).below (uh Fj).bw);have abu:=ab (cn (uh gI) (uh HO).c5 ha (zq3 f8 (by omega)));clear vx;go_wp2_with fail
  refine(uh abu).mono ?_;rintro e w4 ⟨A4,rfl,rE⟩;obtain⟨av4,ov4,yB⟩:=rE.frf;have b1:=((uh Fj).below yB.bw).bx.cell 1 rfl;have HJO:=ab (wF yB.fm (zq3 ha (by omega)) (zq3 f8 (by omega)) p.l c);have UR:=ab yB;clear rE yB abu;go_wp2_with fail
  refine(uh HJO).mono ?_;rintro e w5 ⟨rfl,AX,ep⟩;have Bf:=(uh UR).step (x':=⟨A4,jZ f c i,av4,ov4⟩) (by
   have e9:jZ f c i=rL f p.l c:=(by rw[uh HP];rfl);rw[e9];exact AX) ep
  have hM5:=(uh Fj).below Bf.bw;have f7:=(uh Fj).fresh Bf.ge;have J6:=ab hM5.fl.row;have HM5:=ab hM5;have US:=ab Bf.fm;have ahn:=ab f7;have aqG:=hM5.bw.size;clear AX ep Bf hM5 f7 HJO b1;go_wp2_with (at_builtin;refine aK _ rfl (.tmp 32) (.tmp 34) 125 rfl w.heap.size 126 i0 _ 1 8 underlying125 iy dG du ef rfl (by decide) _ 0 [] rfl ((uh J6).alloc _) ⟨_,0,none⟩ 1 [.pointer (some ⟨A4,0,none⟩)] rfl rfl (aJ _ _ (by simp) [.pointer (some ⟨A4,0,none⟩)] _) (by intro u hu;simp only[mem_singleton]at hu;subst hu;rfl) (by omega) (by omega) (by simp;omega) ?_)
  intro g6 cap6 w6 VT M4 VD;have QE:=ab ((uh HM5).app (uh US) (uh ahn) VT M4 (by simpa using VD));rw[nil_append,show([]:List FE).length+1=1 from rfl]at QE;clear VT M4 VD J6 HM5;have b0:=(uh QE).bx.cell 0 rfl;have HI6:=ab ((uh H).below (uh QE).bw);by_cases pp:p.k=4
  .have d4:((p.k:Int)==4)=true:=(by simp[pp]);have jk:=ab (cn (uh HI6) (uh HO).c5 ha (zq3 f8 (by omega)));have WC:Hid (gt f c i=[jZ f c i]++[BJ f c i]):=ab (by unfold gt;rw[if_neg (by rw[uh HDE];decide),if_pos (show(owA f i).k=4 by show(f.ow.getD i az).k=4;rw[<-uh HP];exact pp)]);clear pp;go_wp2_with fail
   refine(uh jk).mono ?_;rintro e w7 ⟨A7,rfl,hN7⟩;obtain⟨av7,ov7,ti⟩:=hN7.frf;have hM7:=(uh QE).below ti.bw;have hi7:i<f.ow.length:=(by omega);obtain⟨g7,cap7,M6,-,-⟩:=aC ti.fm.is.ow hi7;have M7:ov7=.slice (some ⟨g7,0,none⟩) f.ow.length cap7:=M6;subst M7;have e6:=ti.fm.is.c6;obtain⟨P2,AZ,⟨u8,e8⟩,z8⟩:=Fm.putO ti.fm hi7 c;obtain⟨w8,Y9⟩:∃w8,w8=w7.setCell ⟨g7,i*3+2,none⟩ (.int .i64 (c:Int)):=⟨_,rfl⟩;rw[<-Y9]at P2 AZ;have uL:=ti.step (x':=⟨A7,setO f i ⟨(owA f i).k,(owA f i).l,c⟩,av7,.slice (some ⟨g7,0,none⟩) f.ow.length cap7⟩) P2 AZ;have b2:=((uh QE).below uL.bw).bx.cell 2 rfl;have vW:=ab (oB uL.fm 4 c p.r (by
    show(f.ow.set i _).length<=100000;rw[length_set];exact zq3 f8 (by omega)))
   have QC:=ab uL;clear hN7 ti hM7 M6 P2 AZ uL jk;go_upto_region 10 with fail;rw[<-Y9];clear Y9 e6 e8 z8 u8;go_wp2_with fail
   refine(uh vW).mono ?_;rintro e w9 ⟨rfl,ov9,Mx,MN⟩;have vy:=(uh QC).step (x':=⟨A7,BJ f c i,av7,ov9⟩) (by
    have e9:BJ f c i={ setO f i ⟨(owA f i).k,(owA f i).l,c⟩ with ow:=(setO f i ⟨(owA f i).k,(owA f i).l,c⟩).ow++[⟨4,c,p.r⟩] }:=(by rw[uh HP];rfl);rw[e9];exact Mx) MN
   have DO:=(uh QE).below vy.bw;have f7:=(uh QE).fresh vy.ge;have HR9:=ab DO.fl.row;have HM9:=ab DO;have HF9:=ab vy.fm;have KC:=ab f7;have jO:=DO.bw.size;clear Mx MN vy DO f7 vW;go_wp2_with (at_builtin;refine aK _ rfl (.tmp 54) (.tmp 56) 125 rfl w.heap.size 126 i0 _ 1 8 underlying125 iy dG du ef rfl (by decide) _ [(⟨A4,jZ f c i,av4,ov4⟩:FE)].length ([(⟨A4,jZ f c i,av4,ov4⟩:FE)].map FE.p) rfl ((uh HR9).alloc _) ⟨_,0,none⟩ 1 [.pointer (some ⟨A7,0,none⟩)] rfl rfl (aJ _ _ (by simp) [.pointer (some ⟨A7,0,none⟩)] _) (by intro u hu;simp only[mem_singleton]at hu;subst hu;rfl) (by simp) (by omega) (by simp;omega) ?_)
   intro g1 cap1 wa cF bH iU;have HMA:=ab ((uh HM9).app (uh HF9) (uh KC) cF bH (by simpa using iU));clear cF bH iU;go_wp2_with fail
   go_ret;exact⟨_,_,rfl,(uh HMA).fl,by rw[uh WC];rfl,(uh HMA).bw⟩
  .have d4:((p.k:Int)==4)=false:=(by simp;omega);have WC:Hid (gt f c i=[jZ f c i]):=ab (by unfold gt;rw[if_neg (by rw[uh HDE];decide),if_neg (show ¬ ((owA f i).k=4) by show ¬ ((f.ow.getD i az).k=4);rw[<-uh HP];exact pp),append_nil]);clear pp;go_wp2_with fail
   go_ret;exact⟨_,_,rfl,(uh QE).fl,by rw[uh WC];rfl,(uh QE).bw⟩
 .have HDE:Hid (ew f c (owA f i).l=true):=ab ((uh Cy).trans vx);clear vx;have b0:=(uh Fj).bx.cell 0 rfl;have gI:=ab ((uh H).below (uh Fj).bw);by_cases pp:p.k=4
  .have d4:((p.k:Int)==4)=true:=(by simp[pp]);have jk:=ab (cn (uh gI) (uh HO).c5 ha (zq3 f8 (by omega)));have WC:Hid (gt f c i=([]:List CF)++[BJ f c i]):=ab (by unfold gt;rw[if_pos (uh HDE),if_pos (show(owA f i).k=4 by show(f.ow.getD i az).k=4;rw[<-uh HP];exact pp)]);clear pp;go_wp2_with fail
   refine(uh jk).mono ?_;rintro e w7 ⟨A7,rfl,hN7⟩;obtain⟨av7,ov7,ti⟩:=hN7.frf;have hM7:=(uh Fj).below ti.bw;have hi7:i<f.ow.length:=(by omega);obtain⟨g7,cap7,M6,-,-⟩:=aC ti.fm.is.ow hi7;have M7:ov7=.slice (some ⟨g7,0,none⟩) f.ow.length cap7:=M6;subst M7;have e6:=ti.fm.is.c6;obtain⟨P2,AZ,⟨u8,e8⟩,z8⟩:=Fm.putO ti.fm hi7 c;obtain⟨w8,Y9⟩:∃w8,w8=w7.setCell ⟨g7,i*3+2,none⟩ (.int .i64 (c:Int)):=⟨_,rfl⟩;rw[<-Y9]at P2 AZ;have uL:=ti.step (x':=⟨A7,setO f i ⟨(owA f i).k,(owA f i).l,c⟩,av7,.slice (some ⟨g7,0,none⟩) f.ow.length cap7⟩) P2 AZ;have b2:=((uh Fj).below uL.bw).bx.cell 2 rfl;have vW:=ab (oB uL.fm 4 c p.r (by
    show(f.ow.set i _).length<=100000;rw[length_set];exact zq3 f8 (by omega)))
   have QC:=ab uL;clear hN7 ti hM7 M6 P2 AZ uL jk;go_upto_region 10 with fail;rw[<-Y9];clear Y9 e6 e8 z8 u8;go_wp2_with fail
   refine(uh vW).mono ?_;rintro e w9 ⟨rfl,ov9,Mx,MN⟩;have vy:=(uh QC).step (x':=⟨A7,BJ f c i,av7,ov9⟩) (by
    have e9:BJ f c i={ setO f i ⟨(owA f i).k,(owA f i).l,c⟩ with ow:=(setO f i ⟨(owA f i).k,(owA f i).l,c⟩).ow++[⟨4,c,p.r⟩] }:=(by rw[uh HP];rfl);rw[e9];exact Mx) MN
   have DO:=(uh Fj).below vy.bw;have f7:=(uh Fj).fresh vy.ge;have HR9:=ab DO.fl.row;have HM9:=ab DO;have HF9:=ab vy.fm;have KC:=ab f7;have jO:=DO.bw.size;clear Mx MN vy DO f7 vW;go_wp2_with (at_builtin;refine aK _ rfl (.tmp 54) (.tmp 56) 125 rfl w.heap.size 126 i0 _ 1 8 underlying125 iy dG du ef rfl (by decide) _ ([]:List FE).length (([]:List FE).map FE.p) rfl ((uh HR9).alloc _) ⟨_,0,none⟩ 1 [.pointer (some ⟨A7,0,none⟩)] rfl rfl (aJ _ _ (by simp) [.pointer (some ⟨A7,0,none⟩)] _) (by intro u hu;simp only[mem_singleton]at hu;subst hu;rfl) (by simp) (by omega) (by simp;omega) ?_)
   intro g1 cap1 wa cF bH iU;have HMA:=ab ((uh HM9).app (uh HF9) (uh KC) cF bH (by simpa using iU));clear cF bH iU;go_wp2_with fail
   go_ret;exact⟨_,_,rfl,(uh HMA).fl,by rw[uh WC];rfl,(uh HMA).bw⟩
  .have d4:((p.k:Int)==4)=false:=(by simp;omega);have WC:Hid (gt f c i=([]:List CF)):=ab (by unfold gt;rw[if_pos (uh HDE),if_neg (show ¬ ((owA f i).k=4) by show ¬ ((f.ow.getD i az).k=4);rw[<-uh HP];exact pp),append_nil]);clear pp;go_wp2_with fail
   go_ret;exact⟨_,_,rfl,(uh Fj).fl,by rw[uh WC];rfl,(uh Fj).bw⟩
end
theorem PC{n:Int}(h1:-9000000000000000000<=n)(h2:n<=9000000000000000000):wrap64 n=n:=by unfold wrap64;omega
def aV{α:Type}(g:α->Nat):List α->Nat
 |[]=>0
 |a::l=>g a+aV g l
theorem uq{α:Type}(g:α->Nat)(d:α):∀(l:List α) (n:Nat) (x:α),aV g (l.set n x)+(if n<l.length then g (l.getD n d) else 0)=aV g l+(if n<l.length then g x else 0)
 |[],n,x=>by simp[aV]
 |a::l,0,x=>by simp[aV];omega
 |a::l,n+1,x=>by
  have:=uq g d l n x;simp only[set_cons_succ,aV,length_cons,getD_cons_succ,Nat.add_lt_add_iff_right];omega
theorem um{α:Type}(g:α->Nat)(d:α):∀(l:List α) (n:Nat),n<l.length->g (l.getD n d)<=aV g l
 |[],n,h=>by simp at h
 |a::l,0,_=>by simp[aV]
 |a::l,n+1,h=>by
  have:=um g d l n (by simpa using h);simp only[aV,getD_cons_succ];omega
def pH(s:Sr):Nat:=aV List.length s.kn
def eM(s:Sr):Nat:=aV (λl:List gC=>l.countP (λe=>!e.d)) s.kn
structure Gd(m:Nat)(s:Sr):Prop where
 en:(pH s:Int)+s.lf<=3000
 lo:-(m:Int)<=s.lf
 fu:s.fu=false->0<=s.lf
 ok:s.ok=true
theorem Gd.wide{m m':Nat}{s:Sr}(h:Gd m s)(hm:m<=m'):Gd m' s:=⟨h.en,by have:=h.lo;omega,h.fu,h.ok⟩
theorem Zk(s:Sr)(n:Nat):(bN s n).length<=pH s:=by
 unfold bN;by_cases hn:n<s.kn.length
 .exact um List.length [] s.kn n hn
 .rw[getD_eq_getElem?_getD,getElem?_eq_none (by omega)];simp
theorem EW{g:List gC->Nat}(hg:∀l,g []<=l){s:Sr}{n d:Nat}{x:List gC}(hx:g x<=g (bN s n)+d):aV g (s.kn.set n x)<=aV g s.kn+d:=by
 have h:=uq g [] s.kn n x;unfold bN at hx;have:=hg 0;split at h <;> omega
theorem GF{c:Cd}(hb:c.bd=true){m n:Nat}(hm:m<=10000000){f:CF}{s:Sr}(h:Gd m s):Gd (m+1) (bQ c n f s)/\(eM (bQ c n f s):Int)+(bQ c n f s).lf<=eM s+s.lf/\(bQ c n f s).lf<=s.lf:=by
 have qU:=h.lo;have hen:=h.en;have fC:=Zk s n;have s9:(bN s n).length<=qI:=by unfold qI;omega
 unfold bQ;split
 .refine⟨⟨hen,by show -((m+1:Nat):Int)<=s.lf;omega,λhf=>?_,?_⟩,Int.le_refl _,Int.le_refl _⟩
  .refine h.fu ?_;have:(s.fu||(decide (wrap64 (s.lo-((2*(bN s n).length:Nat):Int))<0)&&c.bd))=false:=hf;simp only[Bool.or_eq_false_iff]at this;exact this.1
  .show(s.ok&&decide _)=true;rw[h.ok];simpa using s9
 .have hw:wrap64 (s.lf-1)=s.lf-1:=PC (by omega) (by omega);have he:pH (oy n (layN c n f) (ng c s (2*(bN s n).length)))<=pH s+1:=by
   refine EW (g:=List.length) (λl=>by simp) (s:=s) (n:=n) (d:=1) ?_;show(List.length ((bN s n).filter (λe:gC=>!C3 e.f (layN c n f))++[(⟨layN c n f,false⟩:gC)]))<=_;rw[length_append];have:=length_filter_le (λe:gC=>!C3 e.f (layN c n f)) (bN s n);simpa using this
  have hu:eM (oy n (layN c n f) (ng c s (2*(bN s n).length)))<=eM s+1:=by
   refine EW (g:=λl:List gC=>l.countP (λe=>!e.d)) (λl=>by simp) (s:=s) (n:=n) (d:=1) ?_;rw[countP_append];have h1:List.countP (λe:gC=>!e.d) ((bN s n).filter (λe:gC=>!C3 e.f (layN c n f)))<=List.countP (λe:gC=>!e.d) (bN s n):=List.Sublist.countP_le filter_sublist;have h2:List.countP (λe:gC=>!e.d) [(⟨layN c n f,false⟩:gC)]=1:=rfl;show List.countP (λe:gC=>!e.d) ((bN s n).filter (λe:gC=>!C3 e.f (layN c n f)))+_<=_;omega
  have e1:(re c (oy n (layN c n f) (ng c s (2*(bN s n).length)))).lf=s.lf-1:=hw;refine⟨⟨?_,?_,?_,?_⟩,?_,?_⟩
  .rw[e1];show(pH (oy n (layN c n f) (ng c s (2*(bN s n).length))):Int)+_<=_;omega
  .rw[e1];omega
  .intro hf;have Sz:((s.fu||(decide (wrap64 (s.lo-((2*(bN s n).length:Nat):Int))<0)&&c.bd))||(decide (wrap64 (s.lf-1)<0)&&c.bd))=false:=hf;rw[hb,hw]at Sz;simp only[Bool.or_eq_false_iff,Bool.and_true,decide_eq_false_iff_not]at Sz;rw[e1];omega
  .show(s.ok&&decide ((bN s n).length<=qI))=true;rw[h.ok];simpa using s9
  .rw[e1];show(eM (oy n (layN c n f) (ng c s (2*(bN s n).length))):Int)+_<=_;omega
  .rw[e1];omega
theorem GB{c:Cd}(hb:c.bd=true){n:Nat}:∀(l:List CF) {m:Nat} {s:Sr},m+l.length<=10000000->Gd m s->Gd (m+l.length) (l.foldl (λs g=>bQ c n g s) s)/\(eM (l.foldl (λs g=>bQ c n g s) s):Int)+(l.foldl (λs g=>bQ c n g s) s).lf<=eM s+s.lf
 |[],m,s,_,h=>⟨h,Int.le_refl _⟩
 |g::l,m,s,hm,h=>by
  simp only[length_cons]at hm;obtain⟨h1,h2,-⟩:=GF hb (n:=n) (f:=g) (by omega) h;obtain⟨g1,g2⟩:=GB hb (n:=n) l (m:=m+1) (by omega) h1;rw[foldl_cons];exact⟨g1.wide (by simp only[length_cons];omega),Int.le_trans g2 h2⟩
structure xN(d:Nat)(r r':List CF × Sr):Prop where
 sum:(r'.1.length:Int)+r'.2.lf=r.1.length+r.2.lf
 le:r'.2.lf<=r.2.lf
 lo:r.2.lf-d<=r'.2.lf
 kn:r'.2.kn=r.2.kn
 fu:(r.2.fu=false->0<=r.2.lf)->r'.2.fu=false->0<=r'.2.lf
 ok:r.2.ok=true->r'.2.ok=true
theorem xN.refl(r:List CF × Sr):xN 0 r r:=⟨rfl,Int.le_refl _,by simp,rfl,λh=>h,λh=>h⟩
theorem xN.trans{d e:Nat}{r r' r'':List CF × Sr}(h:xN d r r')(g:xN e r' r''):xN (d+e) r r'' :=
 ⟨g.sum.trans h.sum,Int.le_trans g.le h.le,by have:=h.lo;have:=g.lo;omega,g.kn.trans h.kn,λhf=>g.fu (h.fu hf),λho=>g.ok (h.ok ho)⟩
theorem xN.wide{d e:Nat}{r r':List CF × Sr}(h:xN d r r')(hd:d<=e):xN e r r':=⟨h.sum,h.le,by have:=h.lo;omega,h.kn,h.fu,h.ok⟩
theorem XP{c:Cd}(hb:c.bd=true){r:List CF × Sr}{g:CF}(h:(r.1.length:Int)+r.2.lf<=3001)(h2:-500000<=r.2.lf):xN 1 r (mD c r g):=by
 unfold mD;split
 .have hw:wrap64 (r.2.lf-1)=r.2.lf-1:=PC (by omega) (by omega);have e1:(re c { r.2 with ok:=r.2.ok&&decide (r.1.length<=fN) }).lf=r.2.lf-1:=hw;refine⟨?_,?_,?_,rfl,λhf kF=>?_,λho=>?_⟩
  .rw[e1,length_append,length_singleton];omega
  .rw[e1];omega
  .rw[e1];omega
  .have Sz:(r.2.fu||(decide (wrap64 (r.2.lf-1)<0)&&c.bd))=false:=kF;rw[hb,hw]at Sz;simp only[Bool.or_eq_false_iff,Bool.and_true,decide_eq_false_iff_not]at Sz;rw[e1];omega
  .show(r.2.ok&&decide (r.1.length<=fN))=true;rw[ho];have:r.1.length<=fN:=(by unfold fN;omega);simpa using this
 .exact(xN.refl r).wide (by omega)
theorem nU{β:Type}{d:Nat}(g:List CF × Sr->β->List CF × Sr):∀(l:List β) {r:List CF × Sr},(r.1.length:Int)+r.2.lf<=3001->(-500000:Int)+((d*l.length:Nat):Int)<=r.2.lf->(∀b∈l,∀r,(r.1.length:Int)+r.2.lf<=3001->(-500000:Int)+((d:Nat):Int)<=r.2.lf->xN d r (g r b))->xN (d*l.length) r (l.foldl g r)
 |[],r,_,_,_=>by simpa using xN.refl r
 |b::l,r,h1,h2,hg=>by
  have e:d*(b::l).length=d+d*l.length:=by rw[length_cons,Nat.mul_succ];omega
  rw[e]at h2 ⊢;have s1:=hg b (by simp) r h1 (by omega);have:=s1.lo;exact s1.trans (nU g l (by rw[s1.sum];exact h1) (by omega) (λb' m6=>hg b' (by simp[m6])))
theorem oE(f:CF)(a i:Nat):(gt f a i).length<=2:=by unfold gt;split <;> split <;> simp
theorem XS{c:Cd}(hb:c.bd=true){f:CF}{i a:Nat}{r:List CF × Sr}(h:(r.1.length:Int)+r.2.lf<=3001)(h2:(-500000:Int)+((2:Nat):Int)<=r.2.lf):xN 2 r (nS c f i r a):=by
 unfold nS;split
 .have hl:=oE f a i;refine(nU (d:=1) (mD c) _ h (by omega) (λg _ r' h1 h2=>XP hb h1 (by omega))).wide (by omega)
 .exact(xN.refl r).wide (by omega)
theorem RN{c:Cd}(hb:c.bd=true){f:CF}{i:Nat}{r:List CF × Sr}(h:(r.1.length:Int)+r.2.lf<=3001)(h2:(-500000:Int)+((48:Nat):Int)<=r.2.lf):xN 48 r (eZ c f r i) :=
 nU (d:=2) (nS c f i) (range 24) h (by simpa using h2) (λa _ r' h1 h2=>XS hb h1 h2)
theorem GO{f:CF}(h:au f):(fJ f).length<=24:=by
 have h1:=length_filter_le (λi=>!decide ((owA f i).l∈mL f)) (range f.ow.length);rw[length_range]at h1;exact zq3 h1 h.owLen
theorem XK{c:Cd}(hb:c.bd=true){g:CF}(hg:au g){r:List CF × Sr}{res:List CF}(h:(r.1.length:Int)+r.2.lf<=3001)(h2:0<=r.2.lf):xN 1152 r (vj c g r res).2/\(vj c g r res).1.length=res.length+1:=by
 unfold vj;split
 .exact⟨(xN.refl r).wide (by omega),by simp⟩
 .have hl:=GO hg;exact⟨(nU (d:=48) (eZ c g) _ h (by omega) (λi _ r' h1 h2=>RN hb h1 h2)).wide (by omega),by simp⟩
theorem L7{c:Cd}(hb:c.bd=true):∀(n k:Nat) {res:List CF} {r:List CF × Sr} {C0 m:Nat},c9 r.1->c9 res->(r.1.length:Int)+r.2.lf=C0->C0<=3001->k<=C0->C0<n+k->1152<=m->m<=1000000->Gd m r.2 ->
  Gd m (iR c n k res r).2/\(iR c n k res r).1.length<=res.length+(C0-k)/\(iR c n k res r).2.lf<=r.2.lf
 |0,k,res,r,C0,m,_,_,_,_,hk,hn,_,_,_=>by omega
 |n+1,k,res,r,C0,m,hr,hs,hC,CM,hk,hn,hm,qs,h=>by
  unfold iR;split
  .rename_i hc;have hg:Td (r.1.getD k ⟨[],[],[]⟩):=by
    rw[getD_eq_getElem?_getD,getElem?_eq_getElem hc.1];exact hr _ (getElem_mem hc.1)
   have SH:=h.fu hc.2;obtain⟨sp,dg⟩:=XK hb hg.ok (r:=r) (res:=res) (by omega) SH;obtain⟨o1,o2,o3,-⟩:=Mb (c:=c) hg hr hs;have hE:pH (vj c (r.1.getD k ⟨[],[],[]⟩) r res).2.2=pH r.2:=(by unfold pH;rw[o3]);have h1:Gd m (vj c (r.1.getD k ⟨[],[],[]⟩) r res).2.2:=⟨by have:=h.en;have:=sp.le;rw[hE];omega,by have:=sp.lo;omega,sp.fu h.fu,sp.ok h.ok⟩;have hC':=sp.sum;obtain⟨g1,g2,g3⟩:=L7 hb n (k+1) (C0:=C0) (m:=m) o2 o1 (by rw[hC'];exact hC) CM (by omega) (by omega) hm qs h1;exact⟨g1,by rw[dg]at g2;omega,Int.le_trans g3 sp.le⟩
  .exact⟨h,Nat.le_add_right _ _,Int.le_refl _⟩
theorem K5{c:Cd}(hb:c.bd=true){fuel a b:Nat}(dM:3002<=fuel){f:CF}{s:Sr}{m:Nat}(hm:1152<=m)(qs:m<=900000)(hf:Td f)(h:Gd m s)(SH:s.lf<=3000):Gd (m+3001) (eo c fuel a b f s)/\(eM (eo c fuel a b f s):Int)+(eo c fuel a b f s).lf<=eM s+s.lf:=by
 unfold eo;split
 .obtain⟨h1,h2,-⟩:=GF hb (n:=b) (f:=f) (by omega) h;exact⟨h1.wide (by omega),h2⟩
 .have h1:c9 [f]:=λx hx=>by rw[mem_singleton]at hx;subst hx;exact hf
  have hw:Gd m (mf a 2 s):=⟨h.en,h.lo,h.fu,h.ok⟩;by_cases pO:s.lf < -1
  .
   have ajs:s.fu=true:=by
    cases hx:s.fu with
    |true=>rfl
    |false=>have:=h.fu hx;omega
   have e:iR c fuel 0 [] ([f],mf a 2 s)=([],mf a 2 s):=by
    match fuel,dM with
    |n+1,_ =>
     unfold iR;rw[if_neg];rintro⟨-,hx⟩;have:s.fu=false:=hx;rw[ajs]at this;cases this
   simp only[e,foldl_nil];exact⟨hw.wide (by omega),Int.le_refl _⟩
  .obtain⟨C0,Vs⟩:∃C0:Nat,(C0:Int)=1+s.lf:=⟨(1+s.lf).toNat,by omega⟩;obtain⟨g1,g2,g3⟩:=L7 hb fuel 0 (res:=[]) (r:=([f],mf a 2 s)) (C0:=C0) (m:=m) h1 (λx hx=>by simp at hx) (by rw[Vs];rfl) (by omega) (by omega) (by omega) hm (by omega) hw;obtain⟨o1,o2,-⟩:=mY (c:=c) fuel 0 (r:=([f],mf a 2 s)) (res:=[]) h1 (λx hx=>by simp at hx);simp only[length_nil,Nat.zero_add,Nat.sub_zero]at g2;obtain⟨k1,k2⟩:=GB hb (n:=b) (iR c fuel 0 [] ([f],mf a 2 s)).1 (m:=m) (by omega) g1;refine⟨k1.wide (by omega),Int.le_trans k2 ?_⟩;have e:eM (iR c fuel 0 [] ([f],mf a 2 s)).2=eM s:=(by unfold eM;rw[o2];rfl);rw[e];have:(iR c fuel 0 [] ([f],mf a 2 s)).2.lf<=s.lf:=g3;omega
theorem acC{m:Nat}{s:Sr}(h:Gd m s):s.lf<=3000:=by have:=h.en;omega
theorem Dd{c:Cd}(hb:c.bd=true){fuel a b:Nat}(dM:3002<=fuel):∀(l:List CF) {m:Nat} {s:Sr},1152<=m->m+3001*l.length<=900000->c9 l->Gd m s->Gd (m+3001*l.length) (l.foldl (λs g=>eo c fuel a b g s) s)/\(eM (l.foldl (λs g=>eo c fuel a b g s) s):Int)+(l.foldl (λs g=>eo c fuel a b g s) s).lf<=eM s+s.lf
 |[],m,s,_,_,_,h=>⟨h,Int.le_refl _⟩
 |g::l,m,s,hm,qs,hl,h=>by
  have e:3001*(g::l).length=3001+3001*l.length:=by rw[length_cons,Nat.mul_succ];omega
  rw[e]at qs ⊢;obtain⟨h1,h2⟩:=K5 hb (a:=a) (b:=b) dM hm (by omega) (hl g (by simp)) h (acC h);obtain⟨g1,g2⟩:=Dd hb (a:=a) (b:=b) dM l (m:=m+3001) (by omega) (by omega) (λx hx=>hl x (by simp[hx])) h1;rw[foldl_cons];exact⟨g1.wide (by omega),Int.le_trans g2 h2⟩
