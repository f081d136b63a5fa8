import Derived.Test.YtciihepbeacppaaGreatM22
set_option maxRecDepth 100000
set_option maxHeartbeats 0
namespace Go.Proofs.YtciihepbeacppaaGreat
open Tryz Go.RowKit List World Below
set_option linter.unusedVariables false
theorem bp{α:Type}{l:List α}{d:α}{i:Nat}(h:i<l.length):l.getD i d=l[i]:=by simp[h]
theorem infoEn:(prog.info? 258).map (λi=>(i.zero,i.size,i.bytes))=some (some (.agg #[.pointer none,.bool false]),2,16):=by kernel_rfl
structure fL(w w':World)(F F' D D' X:List Nat):Prop where
 st:am (F++X) w F' w'
 dr:∀k∈D',k∈D\/k∈X\/w.heap.size<=k
theorem fL.trans{w w1 w2:World}{F F1 F2 D D1 D2 X Y:List Nat}(h:fL w w1 F F1 D D1 X)(h2:fL w1 w2 F1 F2 D1 D2 Y)(hY:∀k∈Y,k∈X\/w.heap.size<=k):fL w w2 F F2 D D2 X:=by
 have kz:∀k∈F1++Y,k∈F++X\/w.heap.size<=k:=λk hk=>by
  rcases mem_append.1 hk with p|p
  .exact h.st.foot k p
  .rcases hY k p with q|q
   .exact zq0 (mem_append_right _ q)
   .exact zq1 q
 refine⟨⟨h2.st.os.trans h.st.os,h2.st.tape.trans h.st.tape,h2.st.output.trans h.st.output,zq3 h.st.size h2.st.size,λk hk hn=>?_,λk hk=>?_⟩,λk hk=>?_⟩
 .refine(h2.st.block k (zq6 hk h.st.size) (λe=>?_)).trans (h.st.block k hk hn);rcases kz k e with p|p
  .exact hn p
  .omega
 .rcases h2.st.foot k hk with p|p
  .exact kz k p
  .exact zq1 (zq3 h.st.size p)
 .rcases h2.dr k hk with p|p|p
  .exact h.dr k p
  .rcases hY k p with q|q
   .exact zq1 (zq0 q)
   .exact zq1 (zq1 q)
  .exact zq1 (zq1 (zq3 h.st.size p))
theorem fL.below{w w':World}{F D X:List Nat}(h:Below w.heap.size w w'):fL w w' F F D D X:=⟨⟨h.os,h.tape,h.output,h.size,λk hk _=>h.block k hk,λ_ hk=>zq0 (mem_append_left _ hk)⟩,λ_ hk=>zq0 hk⟩
theorem fL.stp{w w':World}{F D X G G':List Nat}(h:am G w G' w')(hG:∀k∈G,k∈F\/k∈X):fL w w' F F D D X:=⟨⟨h.os,h.tape,h.output,h.size,λk hk hn=>h.block k hk (λe=>hn (mem_append.2 (hG k e))),λ_ hk=>zq0 (mem_append_left _ hk)⟩,λ_ hk=>zq0 hk⟩
theorem akT{W:World}{B g cap n i:Nat}{L:List En}(hr:W.ownsRow B 258 2 (.slice (some ⟨g,0,none⟩) n cap) n (ph L))(hn:n=L.length)(hi:i<n)(e:En):
  ((W.setCell ⟨g,i*2,none⟩ (.pointer (some ⟨e.D,0,none⟩))).setCell ⟨g,i*2+1,none⟩ (.bool e.d)).ownsRow B 258 2 (.slice (some ⟨g,0,none⟩) n cap) n (ph (L.set i e)) /\
  ((∃u,W.cell? ⟨g,i*2,none⟩=some u)/\∃u,W.cell? ⟨g,i*2+1,none⟩=some u) /\
  W.frozen? ⟨g,i*2,none⟩=false/\W.frozen? ⟨g,i*2+1,none⟩=false:=by
 subst hn;have r3:=((hr.stored (i*2) (.pointer (some ⟨e.D,0,none⟩))).1.stored (i*2+1) (.bool e.d)).1;rw[FQ hi]at r3;have x0:=(hr.cellAt (i*2) (by omega)).trans (nQ hi).1;have x1:=(hr.cellAt (i*2+1) (by omega)).trans (nQ hi).2;exact⟨r3,⟨⟨_,x0⟩,⟨_,x1⟩⟩,hr.frozenAt _,hr.frozenAt _⟩
theorem kS{W:World}{B g cap n i:Nat}{L:List En}(hr:W.ownsRow B 258 2 (.slice (some ⟨g,0,none⟩) n cap) n (ph L))(hn:n=L.length)(hi:i<n):W.cell? ⟨g,i*2,none⟩=some (.pointer (some ⟨(L[i]'(by omega)).D,0,none⟩))/\W.cell? ⟨g,i*2+1,none⟩=some (.bool (L[i]'(by omega)).d):=by
 subst hn;exact⟨(hr.cellAt (i*2) (by omega)).trans (nQ hi).1,(hr.cellAt (i*2+1) (by omega)).trans (nQ hi).2⟩
theorem En.one(e:En):∀u∈e.c,u.oneCell'=true:=by
 intro u hu;simp only[En.c,mem_cons,not_mem_nil,or_false]at hu;rcases hu with rfl|rfl <;> rfl
section
variable {w:World} {S:Nat} {c:Cd} {c0 hv kv wv:Value} {KV WV:List Value} {K:List (List En)} {s:Sr} {x:FE}
theorem Sh.knE(h:Sh w S c c0 hv kv wv KV WV K s)(n:Nat):bN s n=(K.getD n []).map En.m:=by
 unfold bN;rw[h.km];by_cases hn:n<K.length
 .simp[hn]
 .simp[getD_eq_getElem?_getD,getElem?_eq_none (Nat.le_of_not_lt hn)]
theorem Sh.kc(h:Sh w S c c0 hv kv wv KV WV K s){n:Nat}(hn:n<K.length):∃g cap,kv=.slice (some ⟨g,0,none⟩) K.length cap/\w.cell? ⟨g,n,none⟩=some (KV.getD n aH):=by
 obtain⟨g,cap,hv,-,-,-⟩:=aS h.kr (by omega);have gy:=h.kvl;refine⟨g,cap,hv,?_⟩;have:=h.kr;rw[hv]at this;rw[this.cellAt n (by omega),getElem?_eq_getElem (by omega),bp (by omega)]
theorem Sh.hc(h:Sh w S c c0 hv kv wv KV WV K s){n:Nat}(hn:n<K.length):∃g cap,hv=.slice (some ⟨g,0,none⟩) K.length cap/\w.cell? ⟨g,n,none⟩=some (.bool (c.hd.getD n false)):=by
 have hl:=h.hl;obtain⟨g,cap,hv,-,-,-⟩:=aS h.hr (by omega);refine⟨g,cap,by rw[hv,hl],?_⟩;have:=h.hr;rw[hv]at this;rw[this.cellAt n (by omega)];exact eC (by omega)
def fM(w:World)(S:Nat)(c:Cd)(c0 hv kv wv:Value)(KV WV:List Value)(K:List (List En))(X:List Nat)(s':Sr)(w':World):Prop :=
 ∃KV' K',Sh w' S c c0 hv kv wv KV' WV K' s'/\K'.length=K.length/\fL w w' (cD S hv kv wv KV WV) (cD S hv kv wv KV' WV) (dK K) (dK K') X
theorem Sh.as(h:Sh w S c c0 hv kv wv KV WV K s){s':Sr}(e1:s'.kn=s.kn)(e2:s'.wr=s.wr)(e3:s'.lf=s.lf)(e4:s'.lo=s.lo)(e5:s'.fu=s.fu):Sh w S c c0 hv kv wv KV WV K s' :=
 ⟨by rw[e3,e4,e5];exact h.bs,h.hr,h.kr,h.ke,h.wr,by rw[e2];exact h.we,by rw[e2];exact h.wl,h.hl,h.nl,by rw[e1];exact h.km,h.dr,h.nd,h.da⟩
end
section
variable {w W:World} {S:Nat} {c:Cd} {c0 hv kv wv:Value} {KV WV:List Value} {K:List (List En)} {s:Sr} {n:Nat} {g:CF} {D A:Nat} {av ov:Value}
theorem Tj{o:Obj}{W1:World}{row:Option Nat}{F:List Nat}(h:Sh w S c c0 hv kv wv KV WV K s)(hn:n<K.length)(aF:(KV.getD n aH).ownBlock=row)(hW:am row.toList w F W)(hg:(W.alloc o).grownBy W1 row):
  Bk W1 S 229 (nH c0 hv c.lp kv wv c.bd s.lf s.lo s.fu)/\W1.ownsRow 0 255 1 kv K.length KV:=by
 have hK:=h.kvl;have od:(mK S hv kv wv KV WV)[4+n]?=some row:=by rw[vO (by omega),aF]
 have qv:∀i k,i≠4+n->(mK S hv kv wv KV WV)[i]?=some (some k)->W1.heap[k]?=w.heap[k]?:=λi k hi hk=>by
  have aM:row≠some k:=λe=>hi (h.nd i (4+n) k hk (by rw[od,e]));have ar:=h.lt k (bI hk);exact((hg.block k (by have:=hW.size;simp;omega) aM.symm).trans (heap_alloc _ _ _ (zq6 ar hW.size))).trans (hW.block k ar (by simpa[eq_comm] using aM))
 exact⟨h.bs.of_eq (qv 0 S (by omega) rfl),ae h.kr (λk hk=>qv 2 k (by omega) (congrArg some hk))⟩
theorem FX{l:List En}{P:En->Bool}{i:Nat}(hi:i<l.length):(l.take (i+1)).filter P=(l.take i).filter P++if P l[i]=true then [l[i]] else []:=by
 rw[take_succ_eq_append_getElem hi,filter_append];congr 1;by_cases h:P l[i]=true <;> simp[h]
theorem Oj(a:Option Addr)(i j i' j':Nat):(Value.slice a i j).ownBlock=(Value.slice a i' j').ownBlock:=by cases a <;> rfl
theorem Ti {o:Obj} {W1:World} {gk ck g1 c1:Nat} {row:Option Nat} {F:List Nat} (h:Sh w S c c0 hv (.slice (some ⟨gk,0,none⟩) K.length ck) wv KV WV K s) (hn:n<K.length)
  (aF:(KV.getD n aH).ownBlock=row) (hD:oY W D A g av ov) (hT:Td g) (hW:am row.toList w F W)
  (YB:∀k∈D::aG A av ov,k ∉ cD S hv (.slice (some ⟨gk,0,none⟩) K.length ck) wv KV WV)
  (aN:W1.ownsRow 0 258 2 (.slice (some ⟨g1,0,none⟩) (((K.getD n []).filter (λe=>!C3 e.x.f g)).length+1) c1) (((K.getD n []).filter (λe=>!C3 e.x.f g)).length+1) (ph ((K.getD n []).filter (λe=>!C3 e.x.f g))++[.pointer (some ⟨D,0,none⟩),.bool false]))
  (hg:(W.alloc o).grownBy W1 row) (b7:some g1=row\/g1=(W.alloc o).heap.size) :
  ∃KV' K',Sh (W1.setCell ⟨gk,n,none⟩ (.slice (some ⟨g1,0,none⟩) (((K.getD n []).filter (λe=>!C3 e.x.f g)).length+1) c1)) S c c0 hv (.slice (some ⟨gk,0,none⟩) K.length ck) wv KV' WV K' (oy n g s)/\K'.length=K.length /\
   am (cD S hv (.slice (some ⟨gk,0,none⟩) K.length ck) wv KV WV) w (cD S hv (.slice (some ⟨gk,0,none⟩) K.length ck) wv KV' WV) (W1.setCell ⟨gk,n,none⟩ (.slice (some ⟨g1,0,none⟩) (((K.getD n []).filter (λe=>!C3 e.x.f g)).length+1) c1))/\∀k∈dK K',k∈dK K\/k∈D::aG A av ov:=by
 obtain⟨l,hl⟩:∃l,l=K.getD n []:=⟨_,rfl⟩;rw[<-hl]at aN ⊢;obtain⟨M,hM⟩:∃M,M=l.filter (λe=>!C3 e.x.f g):=⟨_,rfl⟩;rw[<-hM]at aN ⊢;obtain⟨v',Em⟩:∃v',v'=Value.slice (some ⟨g1,0,none⟩) (M.length+1) c1:=⟨_,rfl⟩;have S4:v'.ownBlock=some g1:=by rw[Em];rfl
 rw[<-Em]at aN ⊢;have hK:=h.kvl;have jO:W.heap.size<=W1.heap.size:=zq3 (by simp) hg.size;have od:(mK S hv (.slice (some ⟨gk,0,none⟩) K.length ck) wv KV WV)[4+n]?=some row:=by rw[vO (by omega),aF]
 have kH:(mK S hv (.slice (some ⟨gk,0,none⟩) K.length ck) wv KV WV)[2]?=some (some gk):=rfl;have SC:row≠some gk:=λe=>by
  have:=h.nd (4+n) 2 gk (by rw[od,e]) kH;omega
 -- what is neither the row's nor known's is as it was
 have qv:∀k,k<W.heap.size->row≠some k->W1.heap[k]?=W.heap[k]?:=λk hk aM=>(hg.block k (by simp;omega) aM.symm).trans (heap_alloc _ _ _ hk);have yE:∀k,k<w.heap.size->row≠some k->W1.heap[k]?=w.heap[k]?:=λk hk aM=>(qv k (zq6 hk hW.size) aM).trans (hW.block k hk (by simpa[eq_comm] using aM));have cf:∀k,k≠gk->(W1.setCell ⟨gk,n,none⟩ v').heap[k]?=W1.heap[k]?:=λk hk=>heap_setCell _ _ _ _ hk;have Y1:∀k,row=some k->k∈cD S hv (.slice (some ⟨gk,0,none⟩) K.length ck) wv KV WV:=λk hk=>bI (by rw[od,hk]);have uM:gk∈cD S hv (.slice (some ⟨gk,0,none⟩) K.length ck) wv KV WV:=bI kH;have ajw:=h.lt gk uM;have wT:some g1=row\/W.heap.size<=g1:=by
  rcases b7 with e|e
  .exact zq0 e
  .right;rw[e];simp
 have hg1k:g1≠gk:=λe=>by
  rcases wT with q|q
  .exact SC (by rw[<-q,e])
  .have:=hW.size;omega
 have kz:∀k∈cD S hv (.slice (some ⟨gk,0,none⟩) K.length ck) wv (KV.set n v') WV,k∈cD S hv (.slice (some ⟨gk,0,none⟩) K.length ck) wv KV WV\/W.heap.size<=k:=λk hk=>by
  obtain⟨i,hi⟩:=aP.1 hk;rw[EH v' (by omega),getElem?_set]at hi;split at hi
  .split at hi
   .simp only[Option.some.injEq]at hi;rw[S4]at hi;injection hi with hi;subst hi;rcases wT with q|q
    .exact zq0 (Y1 _ q.symm)
    .exact zq1 q
   .simp at hi
  .exact zq0 (bI hi)
 have Qf:W1.ownsRow 0 255 1 (.slice (some ⟨gk,0,none⟩) K.length ck) K.length KV:=ae h.kr (λk hk=>by
  have e:gk=k:=by simpa[Value.ownBlock] using hk
  subst e;exact yE gk ajw SC)
 have hdl:∀k∈dK K,(W1.setCell ⟨gk,n,none⟩ v').heap[k]?=w.heap[k]?:=λk hk=>by
  rw[cf k (λe=>h.da k hk (by rw[e];exact uM))];exact yE k (h.drlt k hk) (λe=>h.da k hk (Y1 k e))
 have hlK:l∈K:=by rw[hl,bp hn];exact getElem_mem hn
 have gQ:∀k∈D::aG A av ov,(W1.setCell ⟨gk,n,none⟩ v').heap[k]?=W.heap[k]?:=λk hk=>by
  rw[cf k (λe=>YB k hk (by rw[e];exact uM))];exact qv k (hD.lt k hk) (λe=>YB k hk (Y1 k e))
 have pP:=h.put hn (w':=W1.setCell ⟨gk,n,none⟩ v') (v':=v') (l':=M++[⟨D,⟨A,g,av,ov⟩,false⟩]) (λi k h2 h4 hi=>by
   rw[cf k (λe=>h2 (h.nd i 2 k hi (by rw[e];exact kH)))];exact yE k (h.lt k (bI hi)) (λe=>h4 (h.nd i (4+n) k hi (by rw[od,e])))) (Qf.stored n v').1 (by
   rw[length_append,length_singleton,Rv];exact a8 aN (p:=⟨gk,n,none⟩) (by rw[S4];intro e;injection e with e;exact hg1k e) v') (λk hk=>by
   rw[S4]at hk;injection hk with hk;subst hk;rcases wT with q|q
   .exact zq0 (by rw[aF,q])
   .exact zq1 (zq3 hW.size q)) hdl (λe he=>by
   rcases mem_append.1 he with p|p
   .have mr:e∈l:=(by rw[hM]at p;exact(mem_filter.1 p).1);refine⟨(h.dr l hlK e mr).of_eq (λk hk=>hdl k (bi.2 ⟨l,hlK,e,mr,hk⟩)),λk hk hm=>?_⟩;have hq:=bi.2 ⟨l,hlK,e,mr,hk⟩;rcases kz k hm with q|q
    .exact h.da k hq q
    .have:=h.drlt k hq;have:=hW.size;omega
   .rw[mem_singleton]at p;subst p;refine⟨⟨hD.of_eq gQ,hT⟩,λk hk hm=>?_⟩;rcases kz k hm with q|q
    .exact YB k hk q
    .have:=hD.lt k hk;omega)
 refine⟨KV.set n v',K.set n (M++[⟨D,⟨A,g,av,ov⟩,false⟩]),pP.as (s':=oy n g s) ?_ rfl rfl rfl rfl,length_set,⟨hg.os.trans hW.os,hg.tape.trans hW.tape,hg.output.trans hW.output,?_,λk hk hm=>?_,λk hk=>?_⟩,λk hk=>?_⟩
 .show s.kn.set n _=s.kn.set n _;rw[h.knE n,<-hl,hM,map_append,filter_map];rfl
 .simpa[World.setCell] using zq3 hW.size jO
 .rw[cf k (λe=>hm (by rw[e];exact uM))];exact yE k hk (λe=>hm (Y1 k e))
 .rcases kz k hk with q|q
  .exact zq0 q
  .exact zq1 (zq3 hW.size q)
 .obtain⟨l2,uQ,e,mr,hk⟩:=bi.1 hk;rcases mem_or_eq_of_mem_set uQ with p|p
  .exact zq0 (bi.2 ⟨l2,p,e,mr,hk⟩)
  .subst p;rcases mem_append.1 mr with q|q
   .exact zq0 (bi.2 ⟨l,hlK,e,by rw[hM]at q;exact(mem_filter.1 q).1,hk⟩)
   .rw[mem_singleton]at q;subst q;exact zq1 hk
end
section
variable {w:World} {S:Nat} {c:Cd} {c0 hv kv wv:Value} {KV WV:List Value} {K:List (List En)} {s:Sr} {x:FE}
theorem En.m_any(l:List En)(P:CF->Bool):(l.map En.m).any (λe=>P e.f)=l.any (λe=>P e.x.f):=by rw[any_map];rfl
theorem NQ(h:Sh w S c c0 hv kv wv KV WV K s)(hx:Fm w x.A x.f x.av x.ov)(hT:Td x.f)(hd:∀k∈x.bs,k ∉ cD S hv kv wv KV WV/\k ∉ dK K){n:Nat}(hn:n<K.length)(vt:K.length<=100000)(aY:(bQ c n x.f s).ok=true):
  Calls prog 201 #[.pointer (some ⟨S,0,none⟩),.int .i64 n,.pointer (some ⟨x.A,0,none⟩)] w λe w'=>e=.returned (.tuple #[])/\fM w S c c0 hv kv wv KV WV K x.bs (bQ c n x.f s) w':=by
 obtain⟨i0,iy,dG,du,ef⟩:=info_parts infoEn;have s9:=(lS aY).2;have fC:=h.knE n;rw[fC,length_map]at s9;obtain⟨hB,hC,hhv,chd⟩:=h.hc hn;subst hhv;obtain⟨kB,kC,Bl,-⟩:=h.kc hn;subst Bl;have c1:=h.bs.cell 1 rfl;obtain⟨l,hl⟩:∃l,l=K.getD n []:=⟨_,rfl⟩;rw[<-hl]at s9 fC;have SF:l.length<=1000000000000:=s9;obtain⟨va,vc,q7,Jr,NE⟩:=ah (h.ke n hn);rw[<-hl]at q7 Jr;have hTG:Td (layN c n x.f):=yS hT;have aeE:∀(w':World) (s':Sr),s'=bQ c n x.f s->fM w S c c0 (.slice (some ⟨hB,0,none⟩) K.length hC) (.slice (some ⟨kB,0,none⟩) K.length kC) wv KV WV K x.bs s' w'->(Ending.returned (.tuple #[]):Ending)=.returned (.tuple #[])/\fM w S c c0 (.slice (some ⟨hB,0,none⟩) K.length hC) (.slice (some ⟨kB,0,none⟩) K.length kC) wv KV WV K x.bs (bQ c n x.f s) w':=λw' s' e hp=>⟨rfl,by rw[<-e];exact hp⟩;have aee:bQ c n x.f s=if l.any (λe=>C3 (layN c n x.f) e.x.f)=true then { ng c s (2*l.length) with ok:=s.ok&&decide (l.length<=qI) } else re c (oy n (layN c n x.f) (ng c s (2*l.length))):=by
  unfold bQ;rw[fC,length_map,En.m_any l (λf=>C3 (layN c n x.f) f)]
 obtain⟨QP,hQP⟩:∃QP:Ending->World->Prop,QP=(λe w'=>e=.returned (.tuple #[])/\fM w S c c0 (.slice (some ⟨hB,0,none⟩) K.length hC) (.slice (some ⟨kB,0,none⟩) K.length kC) wv KV WV K x.bs (bQ c n x.f s) w'):=⟨_,rfl⟩;rw[<-hQP];have HQ:Hid (∀(w':World),fM w S c c0 (.slice (some ⟨hB,0,none⟩) K.length hC) (.slice (some ⟨kB,0,none⟩) K.length kC) wv KV WV K x.bs (bQ c n x.f s) w'->QP (.returned (.tuple #[])) w'):=ab (λw' hp=>by rw[hQP];exact⟨rfl,hp⟩);have Id:=ab aee;have H:=ab h;have HX:=ab hx;have HT:=ab hT;have HTG:=ab hTG;have HD:=ab hd;have HL:=ab hl;have Xa:=ab q7;obtain⟨xA,xf,xav,xov⟩:=x;simp only at HX HT HTG Id HQ hTG ⊢;have V7:(⟨xA,xf,xav,xov⟩:FE).bs=aG xA xav xov:=rfl;rw[V7]at HD HQ;have i1:(0:Int)<=(n:Int):=by omega
 have i2:(n:Int)<(K.length:Int):=by omega
 clear h hx hT hd hl q7 aee aeE fC aY s9 hQP hTG V7;obtain⟨G,hG⟩:∃G,G=layN c n xf:=⟨_,rfl⟩;rw[<-hG]at HTG Id;cases hh:c.hd.getD n false
 focus
  rw[hh]at chd;have wK:G=xf:=by rw[hG];unfold layN;rw[if_neg (by rw[hh];decide)]
  have Cz:Hid (Fm w xA G xav xov/\am (aG xA xav xov) w (aG xA xav xov) w):=ab ⟨by rw[wK];exact uh HX,am.refl _ _⟩;clear hG wK hh HX;go_enter func201,ntmps201;go_upto_region 3 with fail;obtain⟨W1,dF⟩:∃W1,W1=w:=⟨_,rfl⟩;have WD:Hid (∃av1 ov1,Fm W1 xA G av1 ov1/\am (aG xA xav xov) w (aG xA av1 ov1) W1):=ab ⟨xav,xov,by rw[dF];exact(uh Cz).1,by rw[dF];exact(uh Cz).2⟩;rw[<-dF];clear dF Cz
 rotate_left
 focus
  rw[hh]at chd;have wK:G=bJ (Mi xf):=by rw[hG];unfold layN;rw[if_pos hh]
  have Fh:=ab (Ml (uh HX) (zq3 (uh HT).ok.owLen (by omega)));have WF:Hid (au (Mi xf)/\(Mi xf).ap=xf.ap):=ab (nT _ (uh HT).ok);clear hG hh;go_enter func201,ntmps201;go_wp2_with fail
  refine(uh Fh).mono ?_;rintro e w0 ⟨rfl,ov0,IL,Yg⟩;have Fp:=ab (jK IL (uh WF).1 (by rw[(uh WF).2];exact zq3 (uh HT).ln (by omega)));have qe:=ab Yg;clear IL Yg Fh WF;go_wp2_with fail
  refine(uh Fp).mono ?_;rintro e W1 ⟨rfl,av1,ov1,iT,bE⟩;have WD:Hid (∃av1 ov1,Fm W1 xA G av1 ov1/\am (aG xA xav xov) w (aG xA av1 ov1) W1):=ab ⟨av1,ov1,by rw[wK];exact iT,(uh qe).trans bE⟩;clear iT bE wK Fp qe HX;go_upto_region 3 with fail
 all_goals
  obtain⟨av1,ov1,iT,bE⟩:=uh WD;have ad2:∀k∈aG xA av1 ov1,(k ∉ cD S (.slice (some ⟨hB,0,none⟩) K.length hC) (.slice (some ⟨kB,0,none⟩) K.length kC) wv KV WV/\k ∉ dK K)/\(k∈aG xA xav xov\/w.heap.size<=k):=λk hk=>by
   rcases bE.foot k hk with p|p
   .exact⟨uh HD k p,zq0 p⟩
   .exact⟨⟨λe=>by have:=(uh H).lt k e;omega,λe=>by have:=(uh H).drlt k e;omega⟩,zq1 p⟩
  have h1:=(uh H).stp bE (λk hk e=>(uh HD k e).1 hk) (λk hk e=>(uh HD k e).2 hk);have HDR:=ab (LJ iT.is (uh HTG).ok);have acI:=iT.lt;have H1:=ab (zq2 h1 (zq2 bE (zq2 ad2 acI)));clear iT bE ad2 h1 WD acI;go_wp2_with fail
  refine(uh HDR).mono ?_;rintro e w2 ⟨D,rfl,hD2,aiz,ax⟩;have h2:=(uh H1).1.below ax;have c3:=h2.bs.cell 3 rfl;obtain⟨kB',kC',n7,ckc⟩:=h2.kc hn;simp only[Value.slice.injEq,Option.some.injEq,Addr.mk.injEq,and_true,true_and]at n7;obtain⟨rfl,rfl⟩:=n7;rw[uh Xa]at ckc;obtain⟨q,hq⟩:∃q,q=2*l.length:=⟨_,rfl⟩;rw[<-hq]at Id;have hqw:IntKind.i64.wrap (2*(l.length:Int))=(q:Int):=by rw[IntKind.wrap_i64];omega
  have PR:=ab (NY h2.bs q);have Qa:∀k∈D::aG xA av1 ov1,(k ∉ cD S (.slice (some ⟨hB,0,none⟩) K.length hC) (.slice (some ⟨kB,0,none⟩) K.length kC) wv KV WV/\k ∉ dK K)/\(k∈aG xA xav xov\/w.heap.size<=k):=λk hk=>by
   rcases mem_cons.1 hk with p|p
   .have hz:=(uh H1).2.1.size;exact⟨⟨λe=>by have:=(uh H1).1.lt k e;omega,λe=>by have:=(uh H1).1.drlt k e;omega⟩,zq1 (by omega)⟩
   .exact(uh H1).2.2.1 k p
  have adS:fL w w2 (cD S (.slice (some ⟨hB,0,none⟩) K.length hC) (.slice (some ⟨kB,0,none⟩) K.length kC) wv KV WV) (cD S (.slice (some ⟨hB,0,none⟩) K.length hC) (.slice (some ⟨kB,0,none⟩) K.length kC) wv KV WV) (dK K) (dK K) (aG xA xav xov):=(fL.stp (uh H1).2.1 (λk hk=>zq1 hk)).trans (fL.below (X:=[]) ax) (λk hk=>by simp at hk);have H2:=ab (zq2 h2 (zq2 hD2 (zq2 Qa adS)));clear h2 hD2 aiz ax Qa adS hq H1 HDR;go_wp2_with fail
  refine(uh PR).mono ?_;rintro e w3 ⟨rfl,yy,dP⟩;have h3:=(uh H2).1.own (s':=ng c s q) yy dP (λk hk=>zq0 (mem_singleton.1 hk)) rfl rfl;have IK:=(uh H2).2.1.of_eq (λk hk=>dP.block k ((uh H2).2.1.lt k hk) (λe=>((uh H2).2.2.1 k hk).1.1 (by rw[mem_singleton]at e;rw[e];exact fj)));have adT:=(uh H2).2.2.2.trans (fL.stp (X:=[]) dP (λk hk=>zq0 (by rw[mem_singleton]at hk;rw[hk];exact fj))) (λk hk=>by simp at hk);have aF:=h3.ke n hn;rw[uh Xa,<-uh HL]at aF;have hlK:l∈K:=by rw[uh HL,bp hn];exact getElem_mem hn
  have H3:=ab (zq2 h3 (zq2 IK (zq2 (uh H2).2.2.1 adT)));have ii:=ab aF;have WO:=ab hlK;have bR:Hid (Below w3.heap.size w3 w3/\∀i,i<0->∀e,l[i]?=some e->C3 G e.x.f=false):=ab ⟨Below.refl _ _,λi hi=>by omega⟩;clear h3 IK adT aF hlK yy dP PR H2 hqw c1 c3 ckc chd H HD HT;go_wp2_with fail
  go_loopg [39] l.length (λgn iv wx=>∃(k:Nat),k+gn=l.length/\iv=.int .i64 k/\Hid (Below w3.heap.size w3 wx/\∀i,i<k->∀e,l[i]?=some e->C3 G e.x.f=false))
  case atStart=>exact⟨0,by omega,rfl,bR⟩
  case round =>
   clear bR;obtain⟨k,fC,rfl,hI⟩:=hrel;obtain⟨G1,wK⟩:∃G1,G1=gk:=⟨_,rfl⟩;by_cases ar:k<l.length
   .have hd:decide ((k:Int)<(l.length:Int))=true:=(by simp;omega);have fH:=b8 (uh ii) (uh hI).1;obtain⟨g,cap,cM,-,-⟩:=aS fH (by omega);simp only[Value.slice.injEq,true_and]at cM;obtain⟨rfl,rfl⟩:=cM;obtain⟨x0,x1⟩:=kS fH rfl ar;have wS:=(uh H3).1.dr l (uh WO) l[k] (getElem_mem ar);have bZ:l[k]?=some l[k]:=getElem?_eq_getElem ar;obtain⟨e,Ki⟩:∃e,e=l[k]:=⟨_,rfl⟩;rw[<-Ki]at x0 x1 wS bZ;obtain⟨W5,jl⟩:∃W5,W5=wr.alloc (.cells #[Value.pointer (some ⟨e.D,0,none⟩),.bool e.d] 258):=⟨_,rfl⟩;have aT:Below wr.heap.size wr W5:=(by rw[jl];exact af wr _);have b6:=(uh hI).1.trans (aT.mono (uh hI).1.size);have ir:Bk W5 wr.heap.size 258 [Value.pointer (some ⟨e.D,0,none⟩),.bool e.d]:=(by rw[jl];exact Bk.new wr _ _);obtain⟨Y,mF⟩:∃Y,Y=wr.heap.size:=⟨_,rfl⟩;rw[<-mF]at ir;have b0:=ir.cell 0 rfl;have sn:=ab (uE ((uh H3).2.1.below b6) (wS.1.below b6) (uh HTG) wS.2);have zG:=ab bZ;have gH:=ab b6;have k1:(0:Int)<=(k:Int):=(by omega);have k2:(k:Int)<(l.length:Int):=(by omega);clear fH wS bZ Ki aT ir b6;go_upto_region 9 with fail;rw[<-jl,<-mF];clear jl mF x0 x1;go_wp2_with fail
    refine(uh sn).mono ?_;rintro e6 w6 ⟨rfl,gh⟩;have mO:=ab ((uh gH).trans (gh.mono (uh gH).size));clear gh sn gH b0;cases Gv:C3 G e.x.f
    .go_wp2_with fail
     go_roundg (G1-1)
     case rel=>exact⟨k+1,by omega,by go_num,ab ⟨uh mO,λi hi y hy=>by
      by_cases e':i=k
      .rw[e',uh zG]at hy;injection hy with hy;rw[<-hy];exact Gv
      .exact(uh hI).2 i (by omega) y hy⟩⟩
     case measure=>omega
    .have nX:l.any (λe=>C3 G e.x.f)=true:=(by rw[any_eq_true];exact⟨e,mem_of_getElem? (uh zG),Gv⟩);have HP:Hid (fM w S c c0 (.slice (some ⟨hB,0,none⟩) K.length hC) (.slice (some ⟨kB,0,none⟩) K.length kC) wv KV WV K (aG xA xav xov) (bQ c n xf s) w6):=ab (by
      rw[uh Id,if_pos nX];exact⟨KV,K,((uh H3).1.below (uh mO)).as rfl rfl rfl rfl rfl,rfl,(uh H3).2.2.2.trans (fL.below (X:=[]) (uh mO)) (λk hk=>by simp at hk)⟩)
     clear Gv nX hI;go_wp2_with fail
     go_end0
     exact uh HQ _ (uh HP)
   .have hd:decide ((k:Int)<(l.length:Int))=false:=(by simp;omega);have nX:l.any (λe=>C3 G e.x.f)=false:=by
     rw[any_eq_false];intro e he;obtain⟨i,hi,rfl⟩:=mem_iff_getElem.1 he;rw[(uh hI).2 i (by omega) _ (getElem?_eq_getElem hi)];simp
    have Ng:=uh Id;rw[nX,if_neg (by decide)]at Ng;have abL:=ab Ng;obtain⟨w4,uT⟩:∃w4,w4=wr:=⟨_,rfl⟩;rw[<-uT]at hI ⊢;have gX:=(uh hI).1;have fe:=b8 (uh ii) gX;have h4:=(uh H3).1.below gX;have KK:Hid (∀k,(Value.slice va l.length vc).ownBlock=some k->k∈cD S (.slice (some ⟨hB,0,none⟩) K.length hC) (.slice (some ⟨kB,0,none⟩) K.length kC) wv KV WV):=ab (λk hk=>bI ((vO (by rw[h4.kvl];exact hn)).trans (by rw[uh Xa];exact congrArg some hk)));have H4:=ab (zq2 h4 (zq2 ((uh H3).2.1.below gX) (zq2 (uh H3).2.2.1 ((uh H3).2.2.2.trans (fL.below (X:=[]) gX) (λk hk=>by simp at hk)))));have mi:=ab fe;clear nX Ng uT gX fe h4 hI H3 ii Id wK;go_wp2_with fail
    go_loopg [10,11] l.length (λgn jv iv wx=>∃(i:Nat) (cur:List En),i+gn=l.length/\iv=.int .i64 i/\jv=.int .i64 (((l.take i).filter (λe=>!C3 e.x.f G)).length:Nat)/\Hid (wx.ownsRow 0 258 2 (.slice va l.length vc) l.length (ph cur)/\cur.length=l.length/\cur.take ((l.take i).filter (λe=>!C3 e.x.f G)).length=(l.take i).filter (λe=>!C3 e.x.f G)/\cur.drop i=l.drop i/\am (Value.slice va l.length vc).ownBlock.toList w4 (Value.slice va l.length vc).ownBlock.toList wx))
    case atStart=>exact⟨0,l,by omega,rfl,rfl,ab ⟨uh mi,rfl,by simp,rfl,am.refl _ _⟩⟩
    case round =>
     clear mi;obtain⟨i,cur,kz,rfl,rfl,hJ⟩:=hrel;obtain⟨G2,AY⟩:∃G2,G2=gk:=⟨_,rfl⟩;have jN:((l.take i).filter (λe=>!C3 e.x.f G)).length<=i:=zq3 (length_filter_le _ _) (by rw[length_take];omega);have hD5:=(uh H4).2.1.of_eq (λk hk=>(uh hJ).2.2.2.2.block k ((uh H4).2.1.lt k hk) (λe=>((uh H4).2.2.1 k hk).1.1 (uh KK k (by simpa using e))));by_cases bf:i<l.length
     .have gx:decide ((i:Int)<(l.length:Int))=true:=(by simp;omega);obtain⟨g,cap,cM,-,-⟩:=aS (uh hJ).1 (by omega);simp only[Value.slice.injEq,true_and]at cM;obtain⟨rfl,rfl⟩:=cM;have de:=(uh hJ).2.1;obtain⟨x0,x1⟩:=kS (uh hJ).1 de.symm bf;have hci:cur[i]'(by omega)=l[i]:=by
       have h1:=congrArg (λm:List En=>m[0]?) (uh hJ).2.2.2.1;simp only[getElem?_drop,Nat.add_zero]at h1;rw[getElem?_eq_getElem bf,getElem?_eq_getElem (by omega)]at h1;injection h1
      have aE:=FX (P:=λe=>!C3 e.x.f G) bf;have wS:=(uh H4).1.dr l (uh WO) l[i] (getElem_mem bf);have mr:∀k∈l[i].bs,k∈dK K:=λk hk=>bi.2 ⟨l,uh WO,l[i],getElem_mem bf,hk⟩;rw[hci]at x0 x1;obtain⟨e,Ki⟩:∃e,e=l[i]:=⟨_,rfl⟩;obtain⟨M,hM⟩:∃M,M=(l.take i).filter (λe=>!C3 e.x.f G):=⟨_,rfl⟩;rw[<-Ki]at x0 x1 wS mr aE;rw[<-hM]at aE jN hJ ⊢;have adI:=wS.1.of_eq (λk hk=>(uh hJ).2.2.2.2.block k (wS.1.lt k hk) (λe'=>(uh H4).1.da k (mr k hk) (uh KK k (by simpa using e'))));have sn:=ab (uE adI hD5 wS.2 (uh HTG));have lO:cur.drop (i+1)=l.drop (i+1):=by
       have h1:=congrArg (λm=>m.drop 1) (uh hJ).2.2.2.1;simpa[drop_drop,Nat.add_comm] using h1
      have bA:=ab aE;have QA:=ab lO;have HJ:=ab (uh hJ);have qF:=ab de;have k1:(0:Int)<=(i:Int):=(by omega);have k2:(i:Int)<(l.length:Int):=(by omega);have k3:(M.length:Int)<(l.length:Int):=(by omega);have k4:(0:Int)<=(M.length:Int):=(by omega);have Ya:M.length<l.length:=(by omega);clear hci aE wS mr Ki hM adI lO de hJ hD5;cases Gv:C3 e.x.f G
      .rw[Gv]at sn;have nK:Hid ((l.take (i+1)).filter (λe=>!C3 e.x.f G)=M++[e]):=ab (by rw[uh bA,if_pos (by rw[Gv];rfl)]);clear Gv bA;go_wp2_with fail
       refine(uh sn).mono ?_;rintro e6 w6 ⟨rfl,gh⟩;have Y0:=b8 (uh HJ).1 gh;have y0:=(gh.cell (block_lt_of_cell? wr _ x0)).trans x0;have y1:=(gh.cell (block_lt_of_cell? wr _ x1)).trans x1;obtain⟨r6,⟨⟨u0,z0⟩,⟨u1,z1⟩⟩,f0,f1⟩:=akT Y0 (uh qF).symm (i:=M.length) (by omega) e;have kI:=(((uh HJ).2.2.2.2.trans (am.ofBw gh)).setCell (p:=⟨g,M.length*2,none⟩) (zq0 (by simp[Value.ownBlock])) (.pointer (some ⟨e.D,0,none⟩))).setCell (p:=⟨g,M.length*2+1,none⟩) (zq0 (by simp[Value.ownBlock])) (.bool e.d);have pP:(cur.set M.length e).length=l.length/\(cur.set M.length e).take (M++[e]).length=M++[e]/\(cur.set M.length e).drop (i+1)=l.drop (i+1):=by
        refine⟨by rw[length_set];exact uh qF,?_,?_⟩
        .have h1:=(uh HJ).2.2.1;rw[length_append,length_singleton,take_add_one,getElem?_set_self (by rw[uh qF];exact Ya),take_set_of_le (zq4 _),h1];rfl
        .rw[drop_set_of_lt (by omega)];exact uh QA
       have HN:=ab (zq2 r6 (zq2 pP.1 (zq2 pP.2.1 (zq2 pP.2.2 kI))));clear Y0 r6 kI pP gh sn HJ QA qF x0 x1;go_wp2_with fail
       go_roundg (G2-1)
       case rel=>exact⟨i+1,_,by omega,by go_num,by rw[uh nK,length_append,length_singleton];go_num,by rw[uh nK];exact HN⟩
       case measure=>omega
      .rw[Gv]at sn;have nK:Hid ((l.take (i+1)).filter (λe=>!C3 e.x.f G)=M):=ab (by rw[uh bA,if_neg (by rw[Gv];decide),append_nil]);clear Gv bA;go_wp2_with fail
       refine(uh sn).mono ?_;rintro e6 w6 ⟨rfl,gh⟩;have HN:=ab (zq2 (b8 (uh HJ).1 gh) (zq2 (uh qF) (zq2 (uh HJ).2.2.1 (zq2 (uh QA) ((uh HJ).2.2.2.2.trans (am.ofBw gh))))));clear gh sn HJ QA qF x0 x1;go_wp2_with fail
       go_roundg (G2-1)
       case rel=>exact⟨i+1,cur,by omega,by go_num,by rw[uh nK],by rw[uh nK];exact HN⟩
       case measure=>omega
     .have gx:decide ((i:Int)<(l.length:Int))=false:=(by simp;omega);have Nc:l.take i=l:=take_of_length_le (by omega);rw[Nc]at hJ jN ⊢;obtain⟨M,hM⟩:∃M,M=l.filter (λe=>!C3 e.x.f G):=⟨_,rfl⟩;rw[<-hM]at hJ jN ⊢;have Ya:M.length<=l.length:=(by omega);have HRT:Hid (wr.ownsRow 0 258 2 (.slice va M.length vc) M.length (ph M)):=ab (by
       have h1:=BU (uh hJ).1 Ya;rw[LT,(uh hJ).2.2.1]at h1;exact h1)
      have q1:(0:Int)<=(M.length:Int):=(by omega);have q2:(M.length:Int)<=(vc:Int):=(by omega);have HJ:=ab (zq2 (uh hJ).2.2.2.2 hD5);have HM:=ab hM;clear Nc hJ jN hM hD5;go_wp2_with (at_builtin;refine qE _ rfl (.tmp 74) (.tmp 77) 255 rfl 0 258 i0 _ 2 16 underlying255 iy dG du ef rfl (by decide) _ M.length (ph M) rfl ((uh HRT).alloc _) ⟨_,0,none⟩ 1 [.pointer (some ⟨D,0,none⟩),.bool false] rfl rfl (aJ _ _ (by simp) [.pointer (some ⟨D,0,none⟩),.bool false] _) (En.one ⟨D,⟨xA,G,av1,ov1⟩,false⟩) (by omega) (by omega) (zq5 _) ?_)
      intro g7 cap7 w7 gp cX eO;have hrw:(KV.getD n aH).ownBlock=(Value.slice va M.length vc).ownBlock:=(by rw[uh Xa];exact Oj _ _ _ _ _);have m7:(Value.slice va l.length vc).ownBlock=(Value.slice va M.length vc).ownBlock:=Oj _ _ _ _ _;have S0:=(uh HJ).1;rw[m7]at S0;obtain⟨adz,YL⟩:=Tj (uh H4).1 hn hrw S0 cX;have c3:=adz.cell 3 rfl;have aqb:=(uh H4).1.kvl;have ck:=YL.cellAt n (by omega);have Qi:n<KV.length:=(by omega);rw[getElem?_eq_getElem Qi]at ck;have zk:=YL.frozenAt n;have adH:=Ti (uh H4).1 hn hrw (uh HJ).2 (uh HTG) S0 (λk hk=>((uh H4).2.2.1 k hk).1.1) (g1:=g7) (c1:=cap7) (by rw[<-uh HL,<-uh HM];exact gp) cX (by simpa using eO);rw[<-uh HL,<-uh HM]at adH;obtain⟨KV',K',AZ,hK8,Gt,hd8⟩:=adH;have Da:=ab (xE AZ.bs);have H8:=ab (zq2 AZ (zq2 hK8 (zq2 Gt hd8)));clear gp cX eO hrw m7 S0 adz YL AZ hK8 Gt hd8 HRT HJ;go_wp2_with fail
      refine(uh Da).mono ?_;rintro e w9 ⟨rfl,MP,hs9⟩;have h9:=(uh H8).1.own (s':=re c (oy n G (ng c s q))) MP hs9 (λk hk=>zq0 (mem_singleton.1 hk)) rfl rfl;have hP:fM w S c c0 (.slice (some ⟨hB,0,none⟩) K.length hC) (.slice (some ⟨kB,0,none⟩) K.length kC) wv KV WV K (aG xA xav xov) (bQ c n xf s) w9:=by
       rw[uh abL];refine⟨KV',K',h9,(uh H8).2.1,?_⟩;have g4:=(uh H4).2.2.2;have g8:fL w4 _ (cD S (.slice (some ⟨hB,0,none⟩) K.length hC) (.slice (some ⟨kB,0,none⟩) K.length kC) wv KV WV) (cD S (.slice (some ⟨hB,0,none⟩) K.length hC) (.slice (some ⟨kB,0,none⟩) K.length kC) wv KV' WV) (dK K) (dK K') (D::aG xA av1 ov1):=⟨(uh H8).2.2.1.wider (λk hk=>mem_append_left _ hk) (λk hk=>zq0 hk),λk hk=>((uh H8).2.2.2 k hk).elim zq0 (λp=>zq1 (zq0 p))⟩;exact(g4.trans g8 (λk hk=>((uh H4).2.2.1 k hk).2)).trans (fL.stp (X:=[]) hs9 (λk hk=>zq0 (by rw[mem_singleton]at hk;rw[hk];exact fj))) (λk hk=>by simp at hk)
      have HP:=ab hP;clear MP hs9 h9 hP Da H8;go_wp2_with fail
      go_end0
      exact uh HQ _ (uh HP)
end
structure Pn(W:World)(v:Value)(L:List FE)(j:Nat)(F D:List Nat):Prop where
 pe:eQ W 0 v L j
 td:∀x∈L,Td x.f
 fd:∀k∈kU v L j,k ∉ F/\k ∉ D
theorem Pn.next{W W':World}{v:Value}{L:List FE}{j:Nat}{F F' D D':List Nat}(h:Pn W v L j F D)(hj:j<L.length)(hg:fL W W' F F' D D' L[j].bs):Pn W' v L (j+1) F' D':=by
 obtain⟨-,-,h3,h4,-⟩:=h.pe.next hj;refine⟨h3.stp hg.st (λk hk hn=>?_),h.td,λk hk=>⟨λhn=>?_,λhn=>?_⟩⟩
 .rcases mem_append.1 hn with p|p
  .exact(h.fd k (h4 k hk).1).1 p
  .exact(h4 k hk).2 p
 .rcases hg.st.foot k hn with p|p
  .rcases mem_append.1 p with p|p
   .exact(h.fd k (h4 k hk).1).1 p
   .exact(h4 k hk).2 p
  .have:=h3.lt k hk;omega
 .rcases hg.dr k hn with p|p|p
  .exact(h.fd k (h4 k hk).1).2 p
  .exact(h4 k hk).2 p
  .have:=h3.lt k hk;omega
section
variable {w w':World} {S:Nat} {c:Cd} {c0 hv kv wv:Value} {KV WV:List Value} {K:List (List En)} {s:Sr} {x:FE}
theorem Sh.wc(h:Sh w S c c0 hv kv wv KV WV K s){n:Nat}(hn:n<K.length):∃g cap g2 cap2,wv=.slice (some ⟨g,0,none⟩) K.length cap/\WV.getD n aH=.slice (some ⟨g2,0,none⟩) 5 cap2/\w.cell? ⟨g,n,none⟩=some (.slice (some ⟨g2,0,none⟩) 5 cap2)/\(∀t,t<5->w.cell? ⟨g2,t,none⟩=some (.bool ((s.wr.getD n []).getD t false)))/\∀t,w.frozen? ⟨g2,t,none⟩=false:=by
 obtain⟨g,cap,hv,-,-,-⟩:=aS h.wr (by omega);have h2:=h.we n hn;obtain⟨g2,cap2,tE,-,-,-⟩:=aS h2 (by omega);have hwl:=h.wvl;rw[tE]at h2;refine⟨g,cap,g2,cap2,hv,tE,?_,λt ht=>?_,λt=>h2.frozenAt t⟩
 .have:=h.wr;rw[hv]at this;rw[this.cellAt n (by omega),getElem?_eq_getElem (by omega),<-bp (d:=aH) (by omega),tE]
 .rw[h2.cellAt t (by omega)];have h5:(s.wr.getD n []).length=5:=by
   have:=h2.1;unfold cK at this;rw[length_map]at this;omega
  exact eC (by omega)
theorem fM.pre{X:List Nat}{s':Sr}{w1 w2:World}(h:fM w1 S c c0 hv kv wv KV WV K X s' w2)(hb:Below w.heap.size w w1):fM w S c c0 hv kv wv KV WV K X s' w2:=by
 obtain⟨KV',K',h1,h2,h3⟩:=h;exact⟨KV',K',h1,h2,(fL.below (X:=X) hb).trans h3 (λk hk=>zq0 hk)⟩
theorem pA(h:Sh w S c c0 hv kv wv KV WV K s)(hx:Fm w x.A x.f x.av x.ov)(hT:Td x.f)(hd:∀k∈x.bs,k ∉ cD S hv kv wv KV WV/\k ∉ dK K){a n:Nat}(ha:a<K.length)(hn:n<K.length)(vt:K.length<=100000){fuel:Nat}(aY:(eo c fuel a n x.f s).ok=true):
  Calls prog 172 #[.pointer (some ⟨S,0,none⟩),.int .i64 a,.int .i64 n,.pointer (some ⟨x.A,0,none⟩)] w λe w'=>e=.returned (.tuple #[])/\fM w S c c0 hv kv wv KV WV K x.bs (eo c fuel a n x.f s) w':=by
 have c2:=h.bs.cell 2 rfl;have vW:Hid (∀w1,Below w.heap.size w w1->(bQ c n x.f s).ok=true->Calls prog 201 #[.pointer (some ⟨S,0,none⟩),.int .i64 n,.pointer (some ⟨x.A,0,none⟩)] w1 λe w'=>e=.returned (.tuple #[])/\fM w S c c0 hv kv wv KV WV K x.bs (bQ c n x.f s) w'):=ab (λw1 hb ho=>(NQ (h.below hb) (hx.below hb) hT hd hn vt ho).mono (λe w' hp=>⟨hp.1,hp.2.pre hb⟩));cases Km:c.lp
 .have e:eo c fuel a n x.f s=bQ c n x.f s:=by unfold eo;rw[if_pos (zq0 Km)]
  rw[e]at aY ⊢;rw[Km]at c2;have HL:=ab (uh vW w (Below.refl _ _) aY);clear h hx hT hd Km e vW;go_enter func172,ntmps172;go_wp2_with fail
  refine(uh HL).mono ?_;rintro e w1 ⟨rfl,hp⟩;have HP:=ab hp;clear hp HL;go_wp2_with fail
  refine bodyPost_ret (results_none rfl _ _ _) rfl ?_;exact⟨rfl,uh HP⟩
 .rw[Km]at c2;have zH:=ab (tJ hx.is hT.ok);by_cases qU:fJ x.f=[]
  .have e:eo c fuel a n x.f s=bQ c n x.f s:=(by unfold eo;rw[if_pos (zq1 qU)]);rw[e]at aY ⊢;have YM:(((fJ x.f).length:Int)==(0:Int))=true:=(by rw[qU];rfl);have kj:=ab aY;clear h hx hT hd Km e qU aY;go_enter func172,ntmps172;go_wp2_with fail
   refine(uh zH).mono ?_;rintro e w1 ⟨lv,rfl,mH,aO⟩;obtain⟨la,lc,gF,-,-⟩:=ah mH;subst gF;have HL:=ab (uh vW w1 aO (uh kj));clear mH aO vW zH;go_wp2_with fail
   refine(uh HL).mono ?_;rintro e w2 ⟨rfl,hp⟩;have HP:=ab hp;clear hp HL;go_wp2_with fail
   refine bodyPost_ret (results_none rfl _ _ _) rfl ?_;exact⟨rfl,uh HP⟩
  .have YM:(((fJ x.f).length:Int)==(0:Int))=false:=by
    have:(fJ x.f).length≠0:=λe=>qU (length_eq_zero_iff.1 e);simp;omega
   obtain⟨R,hR⟩:∃R,R=iR c fuel 0 [] ([x.f],mf a 2 s):=⟨_,rfl⟩;have e:eo c fuel a n x.f s=R.1.foldl (λs g=>bQ c n g s) R.2:=(by unfold eo;rw[if_neg (by rw[not_or];exact⟨by rw[Km];decide,qU⟩),hR]);rw[e]at aY ⊢;have adc:R.2.ok=true:=jD _ aY;have hRk:R.2.kn=s.kn/\R.2.wr=(mf a 2 s).wr:=by
    have h1:c9 [x.f]:=λy hy=>by rw[mem_singleton]at hy;subst hy;exact hT
    obtain⟨-,g2,g3⟩:=mY (c:=c) fuel 0 (r:=([x.f],mf a 2 s)) (res:=[]) h1 (λy hy=>by simp at hy);rw[<-hR]at g2 g3;exact⟨g2,g3⟩
   have wP:R.2.lo=s.lo:=(by rw[hR];exact L9 fuel 0 [] ([x.f],mf a 2 s));obtain⟨wB,wC,gA,cA,By,So,cw,ct,hz⟩:=h.wc ha;subst By;have c4:=h.bs.cell 4 rfl;have ct2:=ct 2 (by omega);have ef:=hz 2;have fR:=h.bad ha (t:=2) (by omega) So;have H:=ab h;have HX:=ab hx;have HT:=ab hT;have HD:=ab hd;have HR:=ab hR;have U2:=ab (zq2 adc (zq2 hRk wP));have kj:=ab aY;have Wv:=ab (zq2 So fR);have i1:(0:Int)<=(a:Int):=(by omega);have i2:(a:Int)<(K.length:Int):=(by omega);obtain⟨dQ,cW⟩:∃dQ:World->Prop,dQ=λw'=>fM w S c c0 hv kv (.slice (some ⟨wB,0,none⟩) K.length wC) KV WV K x.bs (R.1.foldl (λs g=>bQ c n g s) R.2) w':=⟨_,rfl⟩;have eU:=ab cW;rw[show(fun(e:Ending) (w':World)=>e=.returned (.tuple #[])/\fM w S c c0 hv kv (.slice (some ⟨wB,0,none⟩) K.length wC) KV WV K x.bs (R.1.foldl (λs g=>bQ c n g s) R.2) w')=(λe w'=>e=.returned (.tuple #[])/\dQ w') by rw[cW]];clear h hx hT hd Km e qU aY vW hR adc hRk wP So fR ct hz cW;go_enter func172,ntmps172;go_wp2_with fail
   refine(uh zH).mono ?_;rintro e w1 ⟨lv,rfl,mH,aO⟩;obtain⟨la,lc,gF,-,-⟩:=ah mH;subst gF;have h1:=(uh H).below aO;obtain⟨ax,uM⟩:=h1.bad ha (t:=2) (by omega) (uh Wv).1;have d4:=h1.bs.cell 4 rfl;have dw:=(aO.cell (block_lt_of_cell? w _ cw)).trans cw;have dt:=(aO.cell (block_lt_of_cell? w _ ct2)).trans ct2;have hlA:=block_lt_of_cell? w _ ct2;have dz:w1.frozen? ⟨gA,2,none⟩=false:=by
    have h5:=h1.we a ha;rw[(uh Wv).1]at h5;exact h5.frozenAt 2
   have vI:=((uh HX).below aO).of_eq (w':=w1.setCell ⟨gA,2,none⟩ (.bool true)) (λk hk=>heap_setCell _ _ _ _ (λe=>(uh HD k hk).1 (by rw[show k=gA from e];exact uM)));have J2:=ab (AR (c:=c) (s:=mf a 2 s) (x:=x) (B:=0) ax.bs vI (uh HT) (λq _=>zq5 _) (λe=>(uh HD S e).1 fj) (zq5 _) fuel (by rw[<-uh HR];exact(uh U2).1));rw[<-uh HR]at J2;have Qd:fL w (w1.setCell ⟨gA,2,none⟩ (.bool true)) (cD S hv kv (.slice (some ⟨wB,0,none⟩) K.length wC) KV WV) (cD S hv kv (.slice (some ⟨wB,0,none⟩) K.length wC) KV WV) (dK K) (dK K) x.bs:=(fL.below (X:=x.bs) aO).trans (fL.stp (X:=[]) ((am.refl [gA] w1).setCell (p:=⟨gA,2,none⟩) (zq0 (by simp)) (.bool true)) (λk hk=>zq0 (by rw[mem_singleton]at hk;rw[hk];exact uM))) (λk hk=>by simp at hk);have H2:=ab (zq2 ax (zq2 Qd vI));clear mH aO h1 ax uM vI hlA Qd zH Wv c4 ct2 cw ef c2;go_wp2_with fail
   refine(uh J2).mono ?_;rintro e w3 ⟨v3,L3,rfl,kY,aeO,VP,yy,cd,dP⟩;obtain⟨va,vc,q7,-,-⟩:=ah kY.row;subst q7;have h3:=(uh H2).1.own (s':=R.2) (by rw[(uh U2).2.2];exact yy) dP (λk hk=>by
    rcases mem_cons.1 hk with p|p
    .exact zq0 p
    .exact zq1 (uh HD k p)) (uh U2).2.1.1 (uh U2).2.1.2
   have hg3:=(uh H2).2.1.trans (fL.stp (X:=x.bs) dP (λk hk=>by
    rcases mem_cons.1 hk with p|p
    .exact zq0 (by rw[p];exact fj)
    .exact zq1 p)) (λk hk=>zq0 hk)
   have YJ:∀k∈a6 (.slice va L3.length vc) L3,k∈x.bs\/w.heap.size<=k:=λk hk=>by
    rcases dP.foot k (mem_cons_of_mem _ hk) with p|p
    .rcases mem_cons.1 p with p|p
     .exact absurd (by rw[<-p];exact hk) cd
     .exact zq0 p
    .exact zq1 (zq3 (uh H2).2.1.st.size p)
   have MK:Pn w3 (.slice va L3.length vc) L3 0 (cD S hv kv (.slice (some ⟨wB,0,none⟩) K.length wC) KV WV) (dK K):=⟨kY.pend,aeO,λk hk=>by
    have kH:k∈a6 (.slice va L3.length vc) L3:=(by simpa[kU,a6] using hk);rcases YJ k kH with p|p
    .exact uh HD k p
    .exact⟨λe=>by have:=(uh H).lt k e;omega,λe=>by have:=(uh H).drlt k e;omega⟩⟩
   have gJ:((L3.drop 0).map (·.f)).foldl (λs g=>bQ c n g s) R.2=R.1.foldl (λs g=>bQ c n g s) R.2:=(by rw[drop_zero,VP]);have ahw:=ab YJ;have apt:L3.length<=9223372036854775807:=by
    obtain⟨a1,c1,e1,e2,e3⟩:=ah kY.row;omega
   have bR:=ab (zq2 h3 (zq2 hg3 (zq2 MK gJ)));clear kY aeO VP yy cd dP h3 hg3 YJ MK gJ H2 J2;go_wp2_with fail
   go_loopg [37] L3.length (λgn iv wx=>∃(j:Nat) (KV':List Value) (K':List (List En)) (s':Sr),j+gn=L3.length/\iv=.int .i64 j/\Hid (Sh wx S c c0 hv kv (.slice (some ⟨wB,0,none⟩) K.length wC) KV' WV K' s'/\K'.length=K.length/\fL w wx (cD S hv kv (.slice (some ⟨wB,0,none⟩) K.length wC) KV WV) (cD S hv kv (.slice (some ⟨wB,0,none⟩) K.length wC) KV' WV) (dK K) (dK K') x.bs/\Pn wx (.slice va L3.length vc) L3 j (cD S hv kv (.slice (some ⟨wB,0,none⟩) K.length wC) KV' WV) (dK K')/\((L3.drop j).map (·.f)).foldl (λs g=>bQ c n g s) s'=R.1.foldl (λs g=>bQ c n g s) R.2))
   case atStart=>exact⟨0,KV,K,R.2,by omega,rfl,ab ⟨(uh bR).1,rfl,(uh bR).2⟩⟩
   case round =>
    clear bR;obtain⟨j,KV',K',s',wU,rfl,hI⟩:=hrel;obtain⟨G1,wK⟩:∃G1,G1=gk:=⟨_,rfl⟩;by_cases ar:j<L3.length
    .have gx:decide ((j:Int)<(L3.length:Int))=true:=(by simp;omega);obtain⟨h1,h2,h3,h4,h5⟩:=uh hI;obtain⟨g2,cap2,cS,aq⟩:=h4.pe.cell ar;simp only[Value.slice.injEq,true_and]at cS;obtain⟨rfl,rfl⟩:=cS;obtain⟨n1,-,-,-,n5⟩:=h4.pe.next ar;have NB:=h4.td _ (getElem_mem ar);have tj:∀k∈L3[j].bs,k ∉ cD S hv kv (.slice (some ⟨wB,0,none⟩) K.length wC) KV' WV/\k ∉ dK K':=λk hk=>h4.fd k (n5 k hk);have lO:L3.drop j=L3[j]::L3.drop (j+1):=drop_eq_getElem_cons ar;rw[lO,map_cons,foldl_cons]at h5;have n8:(bQ c n L3[j].f s').ok=true:=jD _ (by rw[h5];exact uh kj);have qu:∀w' qH K2,fL wr w' (cD S hv kv (.slice (some ⟨wB,0,none⟩) K.length wC) KV' WV) (cD S hv kv (.slice (some ⟨wB,0,none⟩) K.length wC) qH WV) (dK K') (dK K2) L3[j].bs->Pn w' (.slice (some ⟨g2,0,none⟩) L3.length vc) L3 (j+1) (cD S hv kv (.slice (some ⟨wB,0,none⟩) K.length wC) qH WV) (dK K2)/\fL w w' (cD S hv kv (.slice (some ⟨wB,0,none⟩) K.length wC) KV WV) (cD S hv kv (.slice (some ⟨wB,0,none⟩) K.length wC) qH WV) (dK K) (dK K2) x.bs:=λw' qH K2 hg=>⟨h4.next ar hg,h3.trans hg (λk hk=>uh ahw k (mem_append_right _ (mem_flatMap.2 ⟨_,getElem_mem ar,hk⟩)))⟩;obtain⟨y,hy⟩:∃y,y=L3[j]:=⟨_,rfl⟩;rw[<-hy]at aq n1 NB tj h5 n8 qu;have Gw:y.p=.pointer (some ⟨y.A,0,none⟩):=rfl;rw[Gw]at aq;have HLJ:=ab (NQ h1 n1 NB tj (n:=n) (by omega) (by omega) n8);have nz:=ab (zq2 qu (zq2 h2 h5));have k1:(0:Int)<=(j:Int):=(by omega);have k2:(j:Int)<(L3.length:Int):=(by omega);clear h1 h2 h3 h4 h5 n1 n5 NB tj lO n8 qu hy Gw hI;go_wp2_with fail
     refine(uh HLJ).mono ?_;rintro e w5 ⟨rfl,qH,K2,g1,g2',g3⟩;obtain⟨p1,p2⟩:=(uh nz).1 w5 qH K2 g3;have HN:=ab (zq2 g1 (zq2 (g2'.trans (uh nz).2.1) (zq2 p2 (zq2 p1 (uh nz).2.2))));clear g1 g2' g3 p1 p2 HLJ nz;go_wp2_with fail
     go_roundg (G1-1)
     case rel=>exact⟨j+1,qH,K2,_,by omega,by go_num,HN⟩
     case measure=>omega
    .have gx:decide ((j:Int)<(L3.length:Int))=false:=(by simp;omega);have hP:dQ wr:=by
      obtain⟨h1,h2,h3,h4,h5⟩:=uh hI;rw[drop_eq_nil_of_le (by omega)]at h5;rw[uh eU];refine⟨KV',K',?_,h2,h3⟩;rw[<-h5];exact h1
     have HP:=ab hP;clear hP hI;go_wp2_with fail
     go_end0
     exact⟨rfl,uh HP⟩
end
