import Derived.Test.YtciihepbeacppaaGreatM21
set_option maxRecDepth 100000
set_option maxHeartbeats 0
namespace Go.Proofs.YtciihepbeacppaaGreat
open Tryz Go.RowKit List World Below
set_option linter.unusedVariables false
theorem bC{α:Type}{l:List α}{d:α}{i:Nat}(h:i<l.length):l.getD i d=l[i]:=by simp[h]
theorem infoEn:(prog.info? 258).map (λi=>(i.zero,i.size,i.bytes))=some (some (.agg #[.pointer none,.bool false]),2,16):=by kernel_rfl
structure gb(w w':World)(F F' D D' X:List Nat):Prop where
 st:aq (F++X) w F' w'
 dr:∀k∈D',k∈D\/k∈X\/w.heap.size<=k
theorem gb.trans{w w1 w2:World}{F F1 F2 D D1 D2 X Y:List Nat}(h:gb w w1 F F1 D D1 X)(h2:gb w1 w2 F1 F2 D1 D2 Y)(hY:∀k∈Y,k∈X\/w.heap.size<=k):gb w w2 F F2 D D2 X:=by
 have rh:∀k∈F1++Y,k∈F++X\/w.heap.size<=k:=λk hk=>by
  rcases mem_append.1 hk with p|p
  .exact h.st.foot k p
  .rcases hY k p with q|q
   .exact zq0 (mem_append_right _ q)
   .exact zq1 q
 refine⟨⟨h2.st.os.trans h.st.os,h2.st.tape.trans h.st.tape,h2.st.output.trans h.st.output,zq3 h.st.size h2.st.size,λk hk hn=>?_,λk hk=>?_⟩,λk hk=>?_⟩
 .refine(h2.st.block k (zq6 hk h.st.size) (λe=>?_)).trans (h.st.block k hk hn);rcases rh k e with p|p
  .exact hn p
  .omega
 .rcases h2.st.foot k hk with p|p
  .exact rh k p
  .exact zq1 (zq3 h.st.size p)
 .rcases h2.dr k hk with p|p|p
  .exact h.dr k p
  .rcases hY k p with q|q
   .exact zq1 (zq0 q)
   .exact zq1 (zq1 q)
  .exact zq1 (zq1 (zq3 h.st.size p))
theorem gb.below{w w':World}{F D X:List Nat}(h:Below w.heap.size w w'):gb w w' F F D D X:=⟨⟨h.os,h.tape,h.output,h.size,λk hk _=>h.block k hk,λ_ hk=>zq0 (mem_append_left _ hk)⟩,λ_ hk=>zq0 hk⟩
theorem gb.stp{w w':World}{F D X G G':List Nat}(h:aq G w G' w')(hG:∀k∈G,k∈F\/k∈X):gb w w' F F D D X:=⟨⟨h.os,h.tape,h.output,h.size,λk hk hn=>h.block k hk (λe=>hn (mem_append.2 (hG k e))),λ_ hk=>zq0 (mem_append_left _ hk)⟩,λ_ hk=>zq0 hk⟩
theorem aiL{W:World}{B g cap n i:Nat}{L:List En}(hr:W.ownsRow B 258 2 (.slice (some ⟨g,0,none⟩) n cap) n (pN L))(hn:n=L.length)(hi:i<n)(e:En):
  ((W.setCell ⟨g,i*2,none⟩ (.pointer (some ⟨e.D,0,none⟩))).setCell ⟨g,i*2+1,none⟩ (.bool e.d)).ownsRow B 258 2 (.slice (some ⟨g,0,none⟩) n cap) n (pN (L.set i e)) /\
  ((∃u,W.cell? ⟨g,i*2,none⟩=some u)/\∃u,W.cell? ⟨g,i*2+1,none⟩=some u) /\
  W.frozen? ⟨g,i*2,none⟩=false/\W.frozen? ⟨g,i*2+1,none⟩=false:=by
 subst hn;have r3:=((hr.stored (i*2) (.pointer (some ⟨e.D,0,none⟩))).1.stored (i*2+1) (.bool e.d)).1;rw[EF hi]at r3;have x0:=(hr.cellAt (i*2) (by omega)).trans (oF hi).1;have x1:=(hr.cellAt (i*2+1) (by omega)).trans (oF hi).2;exact⟨r3,⟨⟨_,x0⟩,⟨_,x1⟩⟩,hr.frozenAt _,hr.frozenAt _⟩
theorem lC{W:World}{B g cap n i:Nat}{L:List En}(hr:W.ownsRow B 258 2 (.slice (some ⟨g,0,none⟩) n cap) n (pN L))(hn:n=L.length)(hi:i<n):W.cell? ⟨g,i*2,none⟩=some (.pointer (some ⟨(L[i]'(by omega)).D,0,none⟩))/\W.cell? ⟨g,i*2+1,none⟩=some (.bool (L[i]'(by omega)).d):=by
 subst hn;exact⟨(hr.cellAt (i*2) (by omega)).trans (oF hi).1,(hr.cellAt (i*2+1) (by omega)).trans (oF hi).2⟩
theorem En.one(e:En):∀u∈e.c,u.oneCell'=true:=by
 intro u hu;simp only[En.c,mem_cons,not_mem_nil,or_false]at hu;rcases hu with rfl|rfl <;> rfl
section
variable {w:World} {S:Nat} {c:Cd} {c0 hv kv wv:Value} {KV WV:List Value} {K:List (List En)} {s:Sr} {x:FE}
theorem Sh.knE(h:Sh w S c c0 hv kv wv KV WV K s)(n:Nat):bf s n=(K.getD n []).map En.m:=by
 unfold bf;rw[h.km];by_cases hn:n<K.length
 .simp[hn]
 .simp[getD_eq_getElem?_getD,getElem?_eq_none (Nat.le_of_not_lt hn)]
theorem Sh.kc(h:Sh w S c c0 hv kv wv KV WV K s){n:Nat}(hn:n<K.length):∃g cap,kv=.slice (some ⟨g,0,none⟩) K.length cap/\w.cell? ⟨g,n,none⟩=some (KV.getD n aH):=by
 obtain⟨g,cap,hv,-,-,-⟩:=bT h.kr (by omega);have jz:=h.kvl;refine⟨g,cap,hv,?_⟩;have:=h.kr;rw[hv]at this;rw[this.cellAt n (by omega),getElem?_eq_getElem (by omega),bC (by omega)]
theorem Sh.hc(h:Sh w S c c0 hv kv wv KV WV K s){n:Nat}(hn:n<K.length):∃g cap,hv=.slice (some ⟨g,0,none⟩) K.length cap/\w.cell? ⟨g,n,none⟩=some (.bool (c.hd.getD n false)):=by
 have hl:=h.hl;obtain⟨g,cap,hv,-,-,-⟩:=bT h.hr (by omega);refine⟨g,cap,by rw[hv,hl],?_⟩;have:=h.hr;rw[hv]at this;rw[this.cellAt n (by omega)];exact eG (by omega)
def gf(w:World)(S:Nat)(c:Cd)(c0 hv kv wv:Value)(KV WV:List Value)(K:List (List En))(X:List Nat)(s':Sr)(w':World):Prop :=
 ∃KV' K',Sh w' S c c0 hv kv wv KV' WV K' s'/\K'.length=K.length/\gb w w' (cL S hv kv wv KV WV) (cL S hv kv wv KV' WV) (dK K) (dK K') X
theorem Sh.as(h:Sh w S c c0 hv kv wv KV WV K s){s':Sr}(e1:s'.kn=s.kn)(e2:s'.wr=s.wr)(e3:s'.lf=s.lf)(e4:s'.lo=s.lo)(e5:s'.fu=s.fu):Sh w S c c0 hv kv wv KV WV K s' :=
 ⟨by rw[e3,e4,e5];exact h.bs,h.hr,h.kr,h.ke,h.wr,by rw[e2];exact h.we,by rw[e2];exact h.wl,h.hl,h.nl,by rw[e1];exact h.km,h.dr,h.nd,h.da⟩
end
section
variable {w W:World} {S:Nat} {c:Cd} {c0 hv kv wv:Value} {KV WV:List Value} {K:List (List En)} {s:Sr} {n:Nat} {g:CF} {D A:Nat} {av ov:Value}
theorem Rl{o:Obj}{W1:World}{row:Option Nat}{F:List Nat}(h:Sh w S c c0 hv kv wv KV WV K s)(hn:n<K.length)(bp:(KV.getD n aH).ownBlock=row)(hW:aq row.toList w F W)(hg:(W.alloc o).grownBy W1 row):
  Bk W1 S 229 (ou c0 hv c.lp kv wv c.bd s.lf s.lo s.fu)/\W1.ownsRow 0 255 1 kv K.length KV:=by
 have hK:=h.kvl;have zG:(ny S hv kv wv KV WV)[4+n]?=some row:=by rw[vE (by omega),bp]
 have qP:∀i k,i≠4+n->(ny S hv kv wv KV WV)[i]?=some (some k)->W1.heap[k]?=w.heap[k]?:=λi k hi hk=>by
  have aY:row≠some k:=λe=>hi (h.nd i (4+n) k hk (by rw[zG,e]));have ar:=h.lt k (bJ hk);exact((hg.block k (by have:=hW.size;simp;omega) aY.symm).trans (heap_alloc _ _ _ (zq6 ar hW.size))).trans (hW.block k ar (by simpa[eq_comm] using aY))
 exact⟨h.bs.of_eq (qP 0 S (by omega) rfl),ae h.kr (λk hk=>qP 2 k (by omega) (congrArg some hk))⟩
theorem EL{l:List En}{P:En->Bool}{i:Nat}(hi:i<l.length):(l.take (i+1)).filter P=(l.take i).filter P++if P l[i]=true then [l[i]] else []:=by
 rw[take_succ_eq_append_getElem hi,filter_append];congr 1;by_cases h:P l[i]=true <;> simp[h]
theorem M8(a:Option Addr)(i j i' j':Nat):(Value.slice a i j).ownBlock=(Value.slice a i' j').ownBlock:=by cases a <;> rfl
theorem Rk {o:Obj} {W1:World} {gk ck g1 c1:Nat} {row:Option Nat} {F:List Nat} (h:Sh w S c c0 hv (.slice (some ⟨gk,0,none⟩) K.length ck) wv KV WV K s) (hn:n<K.length)
  (bp:(KV.getD n aH).ownBlock=row) (hD:pL W D A g av ov) (hT:Td g) (hW:aq row.toList w F W)
  (Wr:∀k∈D::aG A av ov,k ∉ cL S hv (.slice (some ⟨gk,0,none⟩) K.length ck) wv KV WV)
  (aO:W1.ownsRow 0 258 2 (.slice (some ⟨g1,0,none⟩) (((K.getD n []).filter (λe=>!Cm e.x.f g)).length+1) c1) (((K.getD n []).filter (λe=>!Cm e.x.f g)).length+1) (pN ((K.getD n []).filter (λe=>!Cm e.x.f g))++[.pointer (some ⟨D,0,none⟩),.bool false]))
  (hg:(W.alloc o).grownBy W1 row) (b7:some g1=row\/g1=(W.alloc o).heap.size) :
  ∃KV' K',Sh (W1.setCell ⟨gk,n,none⟩ (.slice (some ⟨g1,0,none⟩) (((K.getD n []).filter (λe=>!Cm e.x.f g)).length+1) c1)) S c c0 hv (.slice (some ⟨gk,0,none⟩) K.length ck) wv KV' WV K' (oZ n g s)/\K'.length=K.length /\
   aq (cL S hv (.slice (some ⟨gk,0,none⟩) K.length ck) wv KV WV) w (cL S hv (.slice (some ⟨gk,0,none⟩) K.length ck) wv KV' WV) (W1.setCell ⟨gk,n,none⟩ (.slice (some ⟨g1,0,none⟩) (((K.getD n []).filter (λe=>!Cm e.x.f g)).length+1) c1))/\∀k∈dK K',k∈dK K\/k∈D::aG A av ov:=by
 obtain⟨l,hl⟩:∃l,l=K.getD n []:=⟨_,rfl⟩;rw[<-hl]at aO ⊢;obtain⟨M,hM⟩:∃M,M=l.filter (λe=>!Cm e.x.f g):=⟨_,rfl⟩;rw[<-hM]at aO ⊢;obtain⟨v',Io⟩:∃v',v'=Value.slice (some ⟨g1,0,none⟩) (M.length+1) c1:=⟨_,rfl⟩;have QY:v'.ownBlock=some g1:=by rw[Io];rfl
 rw[<-Io]at aO ⊢;have hK:=h.kvl;have lu:W.heap.size<=W1.heap.size:=zq3 (by simp) hg.size;have zG:(ny S hv (.slice (some ⟨gk,0,none⟩) K.length ck) wv KV WV)[4+n]?=some row:=by rw[vE (by omega),bp]
 have ll:(ny S hv (.slice (some ⟨gk,0,none⟩) K.length ck) wv KV WV)[2]?=some (some gk):=rfl;have QK:row≠some gk:=λe=>by
  have:=h.nd (4+n) 2 gk (by rw[zG,e]) ll;omega
 -- what is neither the row's nor known's is as it was
 have qP:∀k,k<W.heap.size->row≠some k->W1.heap[k]?=W.heap[k]?:=λk hk aY=>(hg.block k (by simp;omega) aY.symm).trans (heap_alloc _ _ _ hk);have yj:∀k,k<w.heap.size->row≠some k->W1.heap[k]?=w.heap[k]?:=λk hk aY=>(qP k (zq6 hk hW.size) aY).trans (hW.block k hk (by simpa[eq_comm] using aY));have cW:∀k,k≠gk->(W1.setCell ⟨gk,n,none⟩ v').heap[k]?=W1.heap[k]?:=λk hk=>heap_setCell _ _ _ _ hk;have hrs:∀k,row=some k->k∈cL S hv (.slice (some ⟨gk,0,none⟩) K.length ck) wv KV WV:=λk hk=>bJ (by rw[zG,hk]);have uM:gk∈cL S hv (.slice (some ⟨gk,0,none⟩) K.length ck) wv KV WV:=bJ ll;have ahy:=h.lt gk uM;have Ib:some g1=row\/W.heap.size<=g1:=by
  rcases b7 with e|e
  .exact zq0 e
  .right;rw[e];simp
 have hg1k:g1≠gk:=λe=>by
  rcases Ib with q|q
  .exact QK (by rw[<-q,e])
  .have:=hW.size;omega
 have rh:∀k∈cL S hv (.slice (some ⟨gk,0,none⟩) K.length ck) wv (KV.set n v') WV,k∈cL S hv (.slice (some ⟨gk,0,none⟩) K.length ck) wv KV WV\/W.heap.size<=k:=λk hk=>by
  obtain⟨i,hi⟩:=aU.1 hk;rw[DB v' (by omega),getElem?_set]at hi;split at hi
  .split at hi
   .simp only[Option.some.injEq]at hi;rw[QY]at hi;injection hi with hi;subst hi;rcases Ib with q|q
    .exact zq0 (hrs _ q.symm)
    .exact zq1 q
   .simp at hi
  .exact zq0 (bJ hi)
 have hkr:W1.ownsRow 0 255 1 (.slice (some ⟨gk,0,none⟩) K.length ck) K.length KV:=ae h.kr (λk hk=>by
  have e:gk=k:=by simpa[Value.ownBlock] using hk
  subst e;exact yj gk ahy QK)
 have hdl:∀k∈dK K,(W1.setCell ⟨gk,n,none⟩ v').heap[k]?=w.heap[k]?:=λk hk=>by
  rw[cW k (λe=>h.da k hk (by rw[e];exact uM))];exact yj k (h.drlt k hk) (λe=>h.da k hk (hrs k e))
 have hlK:l∈K:=by rw[hl,bC hn];exact getElem_mem hn
 have iw:∀k∈D::aG A av ov,(W1.setCell ⟨gk,n,none⟩ v').heap[k]?=W.heap[k]?:=λk hk=>by
  rw[cW k (λe=>Wr k hk (by rw[e];exact uM))];exact qP k (hD.lt k hk) (λe=>Wr k hk (hrs k e))
 have qn:=h.put hn (w':=W1.setCell ⟨gk,n,none⟩ v') (v':=v') (l':=M++[⟨D,⟨A,g,av,ov⟩,false⟩]) (λi k h2 h4 hi=>by
   rw[cW k (λe=>h2 (h.nd i 2 k hi (by rw[e];exact ll)))];exact yj k (h.lt k (bJ hi)) (λe=>h4 (h.nd i (4+n) k hi (by rw[zG,e])))) (hkr.stored n v').1 (by
   rw[length_append,length_singleton,P1];exact ca aO (p:=⟨gk,n,none⟩) (by rw[QY];intro e;injection e with e;exact hg1k e) v') (λk hk=>by
   rw[QY]at hk;injection hk with hk;subst hk;rcases Ib with q|q
   .exact zq0 (by rw[bp,q])
   .exact zq1 (zq3 hW.size q)) hdl (λe he=>by
   rcases mem_append.1 he with p|p
   .have lg:e∈l:=(by rw[hM]at p;exact(mem_filter.1 p).1);refine⟨(h.dr l hlK e lg).of_eq (λk hk=>hdl k (bt.2 ⟨l,hlK,e,lg,hk⟩)),λk hk hm=>?_⟩;have hq:=bt.2 ⟨l,hlK,e,lg,hk⟩;rcases rh k hm with q|q
    .exact h.da k hq q
    .have:=h.drlt k hq;have:=hW.size;omega
   .rw[mem_singleton]at p;subst p;refine⟨⟨hD.of_eq iw,hT⟩,λk hk hm=>?_⟩;rcases rh k hm with q|q
    .exact Wr k hk q
    .have:=hD.lt k hk;omega)
 refine⟨KV.set n v',K.set n (M++[⟨D,⟨A,g,av,ov⟩,false⟩]),qn.as (s':=oZ n g s) ?_ rfl rfl rfl rfl,length_set,⟨hg.os.trans hW.os,hg.tape.trans hW.tape,hg.output.trans hW.output,?_,λk hk hm=>?_,λk hk=>?_⟩,λk hk=>?_⟩
 .show s.kn.set n _=s.kn.set n _;rw[h.knE n,<-hl,hM,map_append,filter_map];rfl
 .simpa[World.setCell] using zq3 hW.size lu
 .rw[cW k (λe=>hm (by rw[e];exact uM))];exact yj k hk (λe=>hm (hrs k e))
 .rcases rh k hk with q|q
  .exact zq0 q
  .exact zq1 (zq3 hW.size q)
 .obtain⟨l2,ye,e,lg,hk⟩:=bt.1 hk;rcases mem_or_eq_of_mem_set ye with p|p
  .exact zq0 (bt.2 ⟨l2,p,e,lg,hk⟩)
  .subst p;rcases mem_append.1 lg with q|q
   .exact zq0 (bt.2 ⟨l,hlK,e,by rw[hM]at q;exact(mem_filter.1 q).1,hk⟩)
   .rw[mem_singleton]at q;subst q;exact zq1 hk
end
section
variable {w:World} {S:Nat} {c:Cd} {c0 hv kv wv:Value} {KV WV:List Value} {K:List (List En)} {s:Sr} {x:FE}
theorem En.m_any(l:List En)(P:CF->Bool):(l.map En.m).any (λe=>P e.f)=l.any (λe=>P e.x.f):=by rw[any_map];rfl
theorem MI(h:Sh w S c c0 hv kv wv KV WV K s)(hx:Fm w x.A x.f x.av x.ov)(hT:Td x.f)(hd:∀k∈x.bs,k ∉ cL S hv kv wv KV WV/\k ∉ dK K){n:Nat}(hn:n<K.length)(vj:K.length<=100000)(bE:(bq c n x.f s).ok=true):
  Calls prog 201 #[.pointer (some ⟨S,0,none⟩),.int .i64 n,.pointer (some ⟨x.A,0,none⟩)] w λe w'=>e=.returned (.tuple #[])/\gf w S c c0 hv kv wv KV WV K x.bs (bq c n x.f s) w':=by
 obtain⟨i0,jN,fW,fy,fJ⟩:=info_parts infoEn;have tf:=(my bE).2;have f7:=h.knE n;rw[f7,length_map]at tf;obtain⟨hB,hC,hhv,chd⟩:=h.hc hn;subst hhv;obtain⟨kB,kC,O2,-⟩:=h.kc hn;subst O2;have c1:=h.bs.cell 1 rfl;obtain⟨l,hl⟩:∃l,l=K.getD n []:=⟨_,rfl⟩;rw[<-hl]at tf f7;have Jh:l.length<=1000000000000:=tf;obtain⟨va,vc,ym,Mv,QX⟩:=aj (h.ke n hn);rw[<-hl]at ym Mv;have hTG:Td (cG c n x.f):=yA hT;have acZ:∀(w':World) (s':Sr),s'=bq c n x.f s->gf w S c c0 (.slice (some ⟨hB,0,none⟩) K.length hC) (.slice (some ⟨kB,0,none⟩) K.length kC) wv KV WV K x.bs s' w'->(Ending.returned (.tuple #[]):Ending)=.returned (.tuple #[])/\gf w S c c0 (.slice (some ⟨hB,0,none⟩) K.length hC) (.slice (some ⟨kB,0,none⟩) K.length kC) wv KV WV K x.bs (bq c n x.f s) w':=λw' s' e hp=>⟨rfl,by rw[<-e];exact hp⟩;have acy:bq c n x.f s=if l.any (λe=>Cm (cG c n x.f) e.x.f)=true then { nS c s (2*l.length) with ok:=s.ok&&decide (l.length<=q8) } else ru c (oZ n (cG c n x.f) (nS c s (2*l.length))):=by
  unfold bq;rw[f7,length_map,En.m_any l (λf=>Cm (cG c n x.f) f)]
 obtain⟨QP,hQP⟩:∃QP:Ending->World->Prop,QP=(λe w'=>e=.returned (.tuple #[])/\gf w S c c0 (.slice (some ⟨hB,0,none⟩) K.length hC) (.slice (some ⟨kB,0,none⟩) K.length kC) wv KV WV K x.bs (bq c n x.f s) w'):=⟨_,rfl⟩;rw[<-hQP];have HQ:Hid (∀(w':World),gf w S c c0 (.slice (some ⟨hB,0,none⟩) K.length hC) (.slice (some ⟨kB,0,none⟩) K.length kC) wv KV WV K x.bs (bq c n x.f s) w'->QP (.returned (.tuple #[])) w'):=ab (λw' hp=>by rw[hQP];exact⟨rfl,hp⟩);have GI:=ab acy;have H:=ab h;have HX:=ab hx;have HT:=ab hT;have Y3:=ab hTG;have HD:=ab hd;have HL:=ab hl;have UR:=ab ym;obtain⟨xA,xf,xav,xov⟩:=x;simp only at HX HT Y3 GI HQ hTG ⊢;have TZ:(⟨xA,xf,xav,xov⟩:FE).bs=aG xA xav xov:=rfl;rw[TZ]at HD HQ;have i1:(0:Int)<=(n:Int):=by omega
 have i2:(n:Int)<(K.length:Int):=by omega
 clear h hx hT hd hl ym acy acZ f7 bE tf hQP hTG TZ;obtain⟨G,hG⟩:∃G,G=cG c n xf:=⟨_,rfl⟩;rw[<-hG]at Y3 GI;cases hh:c.hd.getD n false
 focus
  rw[hh]at chd;have uF:G=xf:=by rw[hG];unfold cG;rw[if_neg (by rw[hh];decide)]
  have OC:Hid (Fm w xA G xav xov/\aq (aG xA xav xov) w (aG xA xav xov) w):=ab ⟨by rw[uF];exact uh HX,aq.refl _ _⟩;clear hG uF hh HX;go_enter func201,ntmps201;go_upto_region 3 with fail;obtain⟨W1,dE⟩:∃W1,W1=w:=⟨_,rfl⟩;have Uz:Hid (∃av1 ov1,Fm W1 xA G av1 ov1/\aq (aG xA xav xov) w (aG xA av1 ov1) W1):=ab ⟨xav,xov,by rw[dE];exact(uh OC).1,by rw[dE];exact(uh OC).2⟩;rw[<-dE];clear dE OC
 rotate_left
 focus
  rw[hh]at chd;have uF:G=bR (OM xf):=by rw[hG];unfold cG;rw[if_pos hh]
  have Eb:=ab (KR (uh HX) (zq3 (uh HT).ok.owLen (by omega)));have UA:Hid (au (OM xf)/\(OM xf).ap=xf.ap):=ab (sX _ (uh HT).ok);clear hG hh;go_enter func201,ntmps201;go_wp2_with fail
  refine(uh Eb).mono ?_;rintro e w0 ⟨rfl,ov0,Hi,V5⟩;have Eg:=ab (j6 Hi (uh UA).1 (by rw[(uh UA).2];exact zq3 (uh HT).ln (by omega)));have qC:=ab V5;clear Hi V5 Eb UA;go_wp2_with fail
  refine(uh Eg).mono ?_;rintro e W1 ⟨rfl,av1,ov1,jJ,bN⟩;have Uz:Hid (∃av1 ov1,Fm W1 xA G av1 ov1/\aq (aG xA xav xov) w (aG xA av1 ov1) W1):=ab ⟨av1,ov1,by rw[uF];exact jJ,(uh qC).trans bN⟩;clear jJ bN uF Eg qC HX;go_upto_region 3 with fail
 all_goals
  obtain⟨av1,ov1,jJ,bN⟩:=uh Uz;have acm:∀k∈aG xA av1 ov1,(k ∉ cL S (.slice (some ⟨hB,0,none⟩) K.length hC) (.slice (some ⟨kB,0,none⟩) K.length kC) wv KV WV/\k ∉ dK K)/\(k∈aG xA xav xov\/w.heap.size<=k):=λk hk=>by
   rcases bN.foot k hk with p|p
   .exact⟨uh HD k p,zq0 p⟩
   .exact⟨⟨λe=>by have:=(uh H).lt k e;omega,λe=>by have:=(uh H).drlt k e;omega⟩,zq1 p⟩
  have h1:=(uh H).stp bN (λk hk e=>(uh HD k e).1 hk) (λk hk e=>(uh HD k e).2 hk);have HDR:=ab (Kq jJ.is (uh Y3).ok);have abf:=jJ.lt;have H1:=ab (zq2 h1 (zq2 bN (zq2 acm abf)));clear jJ bN acm h1 Uz abf;go_wp2_with fail
  refine(uh HDR).mono ?_;rintro e w2 ⟨D,rfl,VN,agI,aR⟩;have h2:=(uh H1).1.below aR;have c3:=h2.bs.cell 3 rfl;obtain⟨kB',kC',oL,ckc⟩:=h2.kc hn;simp only[Value.slice.injEq,Option.some.injEq,Addr.mk.injEq,and_true,true_and]at oL;obtain⟨rfl,rfl⟩:=oL;rw[uh UR]at ckc;obtain⟨q,hq⟩:∃q,q=2*l.length:=⟨_,rfl⟩;rw[<-hq]at GI;have hqw:IntKind.i64.wrap (2*(l.length:Int))=(q:Int):=by rw[IntKind.wrap_i64];omega
  have OF:=ab (MO h2.bs q);have TG:∀k∈D::aG xA av1 ov1,(k ∉ cL S (.slice (some ⟨hB,0,none⟩) K.length hC) (.slice (some ⟨kB,0,none⟩) K.length kC) wv KV WV/\k ∉ dK K)/\(k∈aG xA xav xov\/w.heap.size<=k):=λk hk=>by
   rcases mem_cons.1 hk with p|p
   .have hz:=(uh H1).2.1.size;exact⟨⟨λe=>by have:=(uh H1).1.lt k e;omega,λe=>by have:=(uh H1).1.drlt k e;omega⟩,zq1 (by omega)⟩
   .exact(uh H1).2.2.1 k p
  have acd:gb w w2 (cL S (.slice (some ⟨hB,0,none⟩) K.length hC) (.slice (some ⟨kB,0,none⟩) K.length kC) wv KV WV) (cL S (.slice (some ⟨hB,0,none⟩) K.length hC) (.slice (some ⟨kB,0,none⟩) K.length kC) wv KV WV) (dK K) (dK K) (aG xA xav xov):=(gb.stp (uh H1).2.1 (λk hk=>zq1 hk)).trans (gb.below (X:=[]) aR) (λk hk=>by simp at hk);have H2:=ab (zq2 h2 (zq2 VN (zq2 TG acd)));clear h2 VN agI aR TG acd hq H1 HDR;go_wp2_with fail
  refine(uh OF).mono ?_;rintro e w3 ⟨rfl,xY,fe⟩;have h3:=(uh H2).1.own (s':=nS c s q) xY fe (λk hk=>zq0 (mem_singleton.1 hk)) rfl rfl;have Hh:=(uh H2).2.1.of_eq (λk hk=>fe.block k ((uh H2).2.1.lt k hk) (λe=>((uh H2).2.2.1 k hk).1.1 (by rw[mem_singleton]at e;rw[e];exact fL)));have ace:=(uh H2).2.2.2.trans (gb.stp (X:=[]) fe (λk hk=>zq0 (by rw[mem_singleton]at hk;rw[hk];exact fL))) (λk hk=>by simp at hk);have bp:=h3.ke n hn;rw[uh UR,<-uh HL]at bp;have hlK:l∈K:=by rw[uh HL,bC hn];exact getElem_mem hn
  have H3:=ab (zq2 h3 (zq2 Hh (zq2 (uh H2).2.2.1 ace)));have jc:=ab bp;have UI:=ab hlK;have cd:Hid (Below w3.heap.size w3 w3/\∀i,i<0->∀e,l[i]?=some e->Cm G e.x.f=false):=ab ⟨Below.refl _ _,λi hi=>by omega⟩;clear h3 Hh ace bp hlK xY fe OF H2 hqw c1 c3 ckc chd H HD HT;go_wp2_with fail
  go_loopg [39] l.length (λgn iv wx=>∃(k:Nat),k+gn=l.length/\iv=.int .i64 k/\Hid (Below w3.heap.size w3 wx/\∀i,i<k->∀e,l[i]?=some e->Cm G e.x.f=false))
  case atStart=>exact⟨0,by omega,rfl,cd⟩
  case round =>
   clear cd;obtain⟨k,f7,rfl,hI⟩:=hrel;obtain⟨G1,uF⟩:∃G1,G1=gk:=⟨_,rfl⟩;by_cases ar:k<l.length
   .have hd:decide ((k:Int)<(l.length:Int))=true:=(by simp;omega);have ja:=eQ (uh jc) (uh hI).1;obtain⟨g,cap,c9,-,-⟩:=bT ja (by omega);simp only[Value.slice.injEq,true_and]at c9;obtain⟨rfl,rfl⟩:=c9;obtain⟨x0,x1⟩:=lC ja rfl ar;have wy:=(uh H3).1.dr l (uh UI) l[k] (getElem_mem ar);have cq:l[k]?=some l[k]:=getElem?_eq_getElem ar;obtain⟨e,Je⟩:∃e,e=l[k]:=⟨_,rfl⟩;rw[<-Je]at x0 x1 wy cq;obtain⟨W5,qK⟩:∃W5,W5=wr.alloc (.cells #[Value.pointer (some ⟨e.D,0,none⟩),.bool e.d] 258):=⟨_,rfl⟩;have bV:Below wr.heap.size wr W5:=(by rw[qK];exact ah wr _);have dL:=(uh hI).1.trans (bV.mono (uh hI).1.size);have lJ:Bk W5 wr.heap.size 258 [Value.pointer (some ⟨e.D,0,none⟩),.bool e.d]:=(by rw[qK];exact Bk.new wr _ _);obtain⟨Y,uG⟩:∃Y,Y=wr.heap.size:=⟨_,rfl⟩;rw[<-uG]at lJ;have b0:=lJ.cell 0 rfl;have PB:=ab (uz ((uh H3).2.1.below dL) (wy.1.below dL) (uh Y3) wy.2);have BP:=ab cq;have j9:=ab dL;have k1:(0:Int)<=(k:Int):=(by omega);have k2:(k:Int)<(l.length:Int):=(by omega);clear ja wy cq Je bV lJ dL;go_upto_region 9 with fail;rw[<-qK,<-uG];clear qK uG x0 x1;go_wp2_with fail
    refine(uh PB).mono ?_;rintro e6 w6 ⟨rfl,jx⟩;have uY:=ab ((uh j9).trans (jx.mono (uh j9).size));clear jx PB j9 b0;cases Fc:Cm G e.x.f
    .go_wp2_with fail
     go_roundg (G1-1)
     case rel=>exact⟨k+1,by omega,by go_num,ab ⟨uh uY,λi hi y hy=>by
      by_cases e':i=k
      .rw[e',uh BP]at hy;injection hy with hy;rw[<-hy];exact Fc
      .exact(uh hI).2 i (by omega) y hy⟩⟩
     case measure=>omega
    .have oI:l.any (λe=>Cm G e.x.f)=true:=(by rw[any_eq_true];exact⟨e,mem_of_getElem? (uh BP),Fc⟩);have HP:Hid (gf w S c c0 (.slice (some ⟨hB,0,none⟩) K.length hC) (.slice (some ⟨kB,0,none⟩) K.length kC) wv KV WV K (aG xA xav xov) (bq c n xf s) w6):=ab (by
      rw[uh GI,if_pos oI];exact⟨KV,K,((uh H3).1.below (uh uY)).as rfl rfl rfl rfl rfl,rfl,(uh H3).2.2.2.trans (gb.below (X:=[]) (uh uY)) (λk hk=>by simp at hk)⟩)
     clear Fc oI hI;go_wp2_with fail
     go_end0
     exact uh HQ _ (uh HP)
   .have hd:decide ((k:Int)<(l.length:Int))=false:=(by simp;omega);have oI:l.any (λe=>Cm G e.x.f)=false:=by
     rw[any_eq_false];intro e he;obtain⟨i,hi,rfl⟩:=mem_iff_getElem.1 he;rw[(uh hI).2 i (by omega) _ (getElem?_eq_getElem hi)];simp
    have L5:=uh GI;rw[oI,if_neg (by decide)]at L5;have aai:=ab L5;obtain⟨w4,Xc⟩:∃w4,w4=wr:=⟨_,rfl⟩;rw[<-Xc]at hI ⊢;have mp:=(uh hI).1;have AQ:=eQ (uh jc) mp;have h4:=(uh H3).1.below mp;have HRS:Hid (∀k,(Value.slice va l.length vc).ownBlock=some k->k∈cL S (.slice (some ⟨hB,0,none⟩) K.length hC) (.slice (some ⟨kB,0,none⟩) K.length kC) wv KV WV):=ab (λk hk=>bJ ((vE (by rw[h4.kvl];exact hn)).trans (by rw[uh UR];exact congrArg some hk)));have H4:=ab (zq2 h4 (zq2 ((uh H3).2.1.below mp) (zq2 (uh H3).2.2.1 ((uh H3).2.2.2.trans (gb.below (X:=[]) mp) (λk hk=>by simp at hk)))));have mQ:=ab AQ;clear oI L5 Xc mp AQ h4 hI H3 jc GI uF;go_wp2_with fail
    go_loopg [10,11] l.length (λgn jv iv wx=>∃(i:Nat) (cur:List En),i+gn=l.length/\iv=.int .i64 i/\jv=.int .i64 (((l.take i).filter (λe=>!Cm e.x.f G)).length:Nat)/\Hid (wx.ownsRow 0 258 2 (.slice va l.length vc) l.length (pN cur)/\cur.length=l.length/\cur.take ((l.take i).filter (λe=>!Cm e.x.f G)).length=(l.take i).filter (λe=>!Cm e.x.f G)/\cur.drop i=l.drop i/\aq (Value.slice va l.length vc).ownBlock.toList w4 (Value.slice va l.length vc).ownBlock.toList wx))
    case atStart=>exact⟨0,l,by omega,rfl,rfl,ab ⟨uh mQ,rfl,by simp,rfl,aq.refl _ _⟩⟩
    case round =>
     clear mQ;obtain⟨i,cur,rh,rfl,rfl,hJ⟩:=hrel;obtain⟨G2,CZ⟩:∃G2,G2=gk:=⟨_,rfl⟩;have kh:((l.take i).filter (λe=>!Cm e.x.f G)).length<=i:=zq3 (length_filter_le _ _) (by rw[length_take];omega);have Ts:=(uh H4).2.1.of_eq (λk hk=>(uh hJ).2.2.2.2.block k ((uh H4).2.1.lt k hk) (λe=>((uh H4).2.2.1 k hk).1.1 (uh HRS k (by simpa using e))));by_cases bS:i<l.length
     .have jk:decide ((i:Int)<(l.length:Int))=true:=(by simp;omega);obtain⟨g,cap,c9,-,-⟩:=bT (uh hJ).1 (by omega);simp only[Value.slice.injEq,true_and]at c9;obtain⟨rfl,rfl⟩:=c9;have fY:=(uh hJ).2.1;obtain⟨x0,x1⟩:=lC (uh hJ).1 fY.symm bS;have Zo:cur[i]'(by omega)=l[i]:=by
       have h1:=congrArg (λm:List En=>m[0]?) (uh hJ).2.2.2.1;simp only[getElem?_drop,Nat.add_zero]at h1;rw[getElem?_eq_getElem bS,getElem?_eq_getElem (by omega)]at h1;injection h1
      have aS:=EL (P:=λe=>!Cm e.x.f G) bS;have wy:=(uh H4).1.dr l (uh UI) l[i] (getElem_mem bS);have lg:∀k∈l[i].bs,k∈dK K:=λk hk=>bt.2 ⟨l,uh UI,l[i],getElem_mem bS,hk⟩;rw[Zo]at x0 x1;obtain⟨e,Je⟩:∃e,e=l[i]:=⟨_,rfl⟩;obtain⟨M,hM⟩:∃M,M=(l.take i).filter (λe=>!Cm e.x.f G):=⟨_,rfl⟩;rw[<-Je]at x0 x1 wy lg aS;rw[<-hM]at aS kh hJ ⊢;have ab5:=wy.1.of_eq (λk hk=>(uh hJ).2.2.2.2.block k (wy.1.lt k hk) (λe'=>(uh H4).1.da k (lg k hk) (uh HRS k (by simpa using e'))));have PB:=ab (uz ab5 Ts wy.2 (uh Y3));have om:cur.drop (i+1)=l.drop (i+1):=by
       have h1:=congrArg (λm=>m.drop 1) (uh hJ).2.2.2.1;simpa[drop_drop,Nat.add_comm] using h1
      have cI:=ab aS;have Pl:=ab om;have HJ:=ab (uh hJ);have uA:=ab fY;have k1:(0:Int)<=(i:Int):=(by omega);have k2:(i:Int)<(l.length:Int):=(by omega);have k3:(M.length:Int)<(l.length:Int):=(by omega);have k4:(0:Int)<=(M.length:Int):=(by omega);have VY:M.length<l.length:=(by omega);clear Zo aS wy lg Je hM ab5 om fY hJ Ts;cases Fc:Cm e.x.f G
      .rw[Fc]at PB;have JF:Hid ((l.take (i+1)).filter (λe=>!Cm e.x.f G)=M++[e]):=ab (by rw[uh cI,if_pos (by rw[Fc];rfl)]);clear Fc cI;go_wp2_with fail
       refine(uh PB).mono ?_;rintro e6 w6 ⟨rfl,jx⟩;have hr6:=eQ (uh HJ).1 jx;have y0:=(jx.cell (block_lt_of_cell? wr _ x0)).trans x0;have y1:=(jx.cell (block_lt_of_cell? wr _ x1)).trans x1;obtain⟨r6,⟨⟨u0,z0⟩,⟨u1,z1⟩⟩,f0,f1⟩:=aiL hr6 (uh uA).symm (i:=M.length) (by omega) e;have AR:=(((uh HJ).2.2.2.2.trans (aq.ofBw jx)).setCell (p:=⟨g,M.length*2,none⟩) (zq0 (by simp[Value.ownBlock])) (.pointer (some ⟨e.D,0,none⟩))).setCell (p:=⟨g,M.length*2+1,none⟩) (zq0 (by simp[Value.ownBlock])) (.bool e.d);have qn:(cur.set M.length e).length=l.length/\(cur.set M.length e).take (M++[e]).length=M++[e]/\(cur.set M.length e).drop (i+1)=l.drop (i+1):=by
        refine⟨by rw[length_set];exact uh uA,?_,?_⟩
        .have h1:=(uh HJ).2.2.1;rw[length_append,length_singleton,take_add_one,getElem?_set_self (by rw[uh uA];exact VY),take_set_of_le (zq4 _),h1];rfl
        .rw[drop_set_of_lt (by omega)];exact uh Pl
       have HN:=ab (zq2 r6 (zq2 qn.1 (zq2 qn.2.1 (zq2 qn.2.2 AR))));clear hr6 r6 AR qn jx PB HJ Pl uA x0 x1;go_wp2_with fail
       go_roundg (G2-1)
       case rel=>exact⟨i+1,_,by omega,by go_num,by rw[uh JF,length_append,length_singleton];go_num,by rw[uh JF];exact HN⟩
       case measure=>omega
      .rw[Fc]at PB;have JF:Hid ((l.take (i+1)).filter (λe=>!Cm e.x.f G)=M):=ab (by rw[uh cI,if_neg (by rw[Fc];decide),append_nil]);clear Fc cI;go_wp2_with fail
       refine(uh PB).mono ?_;rintro e6 w6 ⟨rfl,jx⟩;have HN:=ab (zq2 (eQ (uh HJ).1 jx) (zq2 (uh uA) (zq2 (uh HJ).2.2.1 (zq2 (uh Pl) ((uh HJ).2.2.2.2.trans (aq.ofBw jx))))));clear jx PB HJ Pl uA x0 x1;go_wp2_with fail
       go_roundg (G2-1)
       case rel=>exact⟨i+1,cur,by omega,by go_num,by rw[uh JF],by rw[uh JF];exact HN⟩
       case measure=>omega
     .have jk:decide ((i:Int)<(l.length:Int))=false:=(by simp;omega);have LX:l.take i=l:=take_of_length_le (by omega);rw[LX]at hJ kh ⊢;obtain⟨M,hM⟩:∃M,M=l.filter (λe=>!Cm e.x.f G):=⟨_,rfl⟩;rw[<-hM]at hJ kh ⊢;have VY:M.length<=l.length:=(by omega);have HRT:Hid (wr.ownsRow 0 258 2 (.slice va M.length vc) M.length (pN M)):=ab (by
       have h1:=Bm (uh hJ).1 VY;rw[Ky,(uh hJ).2.2.1]at h1;exact h1)
      have q1:(0:Int)<=(M.length:Int):=(by omega);have q2:(M.length:Int)<=(vc:Int):=(by omega);have HJ:=ab (zq2 (uh hJ).2.2.2.2 Ts);have HM:=ab hM;clear LX hJ kh hM Ts;go_wp2_with (at_builtin;refine qX _ rfl (.tmp 74) (.tmp 77) 255 rfl 0 258 i0 _ 2 16 underlying255 jN fW fy fJ rfl (by decide) _ M.length (pN M) rfl ((uh HRT).alloc _) ⟨_,0,none⟩ 1 [.pointer (some ⟨D,0,none⟩),.bool false] rfl rfl (aM _ _ (by simp) [.pointer (some ⟨D,0,none⟩),.bool false] _) (En.one ⟨D,⟨xA,G,av1,ov1⟩,false⟩) (by omega) (by omega) (zq5 _) ?_)
      intro g7 cap7 w7 gJ dh eZ;have ZE:(KV.getD n aH).ownBlock=(Value.slice va M.length vc).ownBlock:=(by rw[uh UR];exact M8 _ _ _ _ _);have qO:(Value.slice va l.length vc).ownBlock=(Value.slice va M.length vc).ownBlock:=M8 _ _ _ _ _;have QW:=(uh HJ).1;rw[qO]at QW;obtain⟨abW,Wz⟩:=Rl (uh H4).1 hn ZE QW dh;have c3:=abW.cell 3 rfl;have anB:=(uh H4).1.kvl;have ck:=Wz.cellAt n (by omega);have QM:n<KV.length:=(by omega);rw[getElem?_eq_getElem QM]at ck;have zk:=Wz.frozenAt n;have QG:=Rk (uh H4).1 hn ZE (uh HJ).2 (uh Y3) QW (λk hk=>((uh H4).2.2.1 k hk).1.1) (g1:=g7) (c1:=cap7) (by rw[<-uh HL,<-uh HM];exact gJ) dh (by simpa using eZ);rw[<-uh HL,<-uh HM]at QG;obtain⟨KV',K',Av,hK8,E9,hd8⟩:=QG;have I0:=ab (xn Av.bs);have H8:=ab (zq2 Av (zq2 hK8 (zq2 E9 hd8)));clear gJ dh eZ ZE qO QW abW Wz Av hK8 E9 hd8 HRT HJ;go_wp2_with fail
      refine(uh I0).mono ?_;rintro e w9 ⟨rfl,Ls,ZF⟩;have h9:=(uh H8).1.own (s':=ru c (oZ n G (nS c s q))) Ls ZF (λk hk=>zq0 (mem_singleton.1 hk)) rfl rfl;have hP:gf w S c c0 (.slice (some ⟨hB,0,none⟩) K.length hC) (.slice (some ⟨kB,0,none⟩) K.length kC) wv KV WV K (aG xA xav xov) (bq c n xf s) w9:=by
       rw[uh aai];refine⟨KV',K',h9,(uh H8).2.1,?_⟩;have g4:=(uh H4).2.2.2;have g8:gb w4 _ (cL S (.slice (some ⟨hB,0,none⟩) K.length hC) (.slice (some ⟨kB,0,none⟩) K.length kC) wv KV WV) (cL S (.slice (some ⟨hB,0,none⟩) K.length hC) (.slice (some ⟨kB,0,none⟩) K.length kC) wv KV' WV) (dK K) (dK K') (D::aG xA av1 ov1):=⟨(uh H8).2.2.1.wider (λk hk=>mem_append_left _ hk) (λk hk=>zq0 hk),λk hk=>((uh H8).2.2.2 k hk).elim zq0 (λp=>zq1 (zq0 p))⟩;exact(g4.trans g8 (λk hk=>((uh H4).2.2.1 k hk).2)).trans (gb.stp (X:=[]) ZF (λk hk=>zq0 (by rw[mem_singleton]at hk;rw[hk];exact fL))) (λk hk=>by simp at hk)
      have HP:=ab hP;clear Ls ZF h9 hP I0 H8;go_wp2_with fail
      go_end0
      exact uh HQ _ (uh HP)
end
structure Pn(W:World)(v:Value)(L:List FE)(j:Nat)(F D:List Nat):Prop where
 pe:fq W 0 v L j
 td:∀x∈L,Td x.f
 fd:∀k∈lG v L j,k ∉ F/\k ∉ D
theorem Pn.next{W W':World}{v:Value}{L:List FE}{j:Nat}{F F' D D':List Nat}(h:Pn W v L j F D)(hj:j<L.length)(hg:gb W W' F F' D D' L[j].bs):Pn W' v L (j+1) F' D':=by
 obtain⟨-,-,h3,h4,-⟩:=h.pe.next hj;refine⟨h3.stp hg.st (λk hk hn=>?_),h.td,λk hk=>⟨λhn=>?_,λhn=>?_⟩⟩
 .rcases mem_append.1 hn with p|p
  .exact(h.fd k (h4 k hk).1).1 p
  .exact(h4 k hk).2 p
 .rcases hg.st.foot k hn with p|p
  .rcases mem_append.1 p with p|p
   .exact(h.fd k (h4 k hk).1).1 p
   .exact(h4 k hk).2 p
  .have:=h3.lt k hk;omega
 .rcases hg.dr k hn with p|p|p
  .exact(h.fd k (h4 k hk).1).2 p
  .exact(h4 k hk).2 p
  .have:=h3.lt k hk;omega
section
variable {w w':World} {S:Nat} {c:Cd} {c0 hv kv wv:Value} {KV WV:List Value} {K:List (List En)} {s:Sr} {x:FE}
theorem Sh.wc(h:Sh w S c c0 hv kv wv KV WV K s){n:Nat}(hn:n<K.length):∃g cap g2 cap2,wv=.slice (some ⟨g,0,none⟩) K.length cap/\WV.getD n aH=.slice (some ⟨g2,0,none⟩) 5 cap2/\w.cell? ⟨g,n,none⟩=some (.slice (some ⟨g2,0,none⟩) 5 cap2)/\(∀t,t<5->w.cell? ⟨g2,t,none⟩=some (.bool ((s.wr.getD n []).getD t false)))/\∀t,w.frozen? ⟨g2,t,none⟩=false:=by
 obtain⟨g,cap,hv,-,-,-⟩:=bT h.wr (by omega);have h2:=h.we n hn;obtain⟨g2,cap2,wE,-,-,-⟩:=bT h2 (by omega);have hwl:=h.wvl;rw[wE]at h2;refine⟨g,cap,g2,cap2,hv,wE,?_,λt ht=>?_,λt=>h2.frozenAt t⟩
 .have:=h.wr;rw[hv]at this;rw[this.cellAt n (by omega),getElem?_eq_getElem (by omega),<-bC (d:=aH) (by omega),wE]
 .rw[h2.cellAt t (by omega)];have h5:(s.wr.getD n []).length=5:=by
   have:=h2.1;unfold cR at this;rw[length_map]at this;omega
  exact eG (by omega)
theorem gf.pre{X:List Nat}{s':Sr}{w1 w2:World}(h:gf w1 S c c0 hv kv wv KV WV K X s' w2)(hb:Below w.heap.size w w1):gf w S c c0 hv kv wv KV WV K X s' w2:=by
 obtain⟨KV',K',h1,h2,h3⟩:=h;exact⟨KV',K',h1,h2,(gb.below (X:=X) hb).trans h3 (λk hk=>zq0 hk)⟩
theorem pU(h:Sh w S c c0 hv kv wv KV WV K s)(hx:Fm w x.A x.f x.av x.ov)(hT:Td x.f)(hd:∀k∈x.bs,k ∉ cL S hv kv wv KV WV/\k ∉ dK K){a n:Nat}(ha:a<K.length)(hn:n<K.length)(vj:K.length<=100000){fuel:Nat}(bE:(cZ c fuel a n x.f s).ok=true):
  Calls prog 172 #[.pointer (some ⟨S,0,none⟩),.int .i64 a,.int .i64 n,.pointer (some ⟨x.A,0,none⟩)] w λe w'=>e=.returned (.tuple #[])/\gf w S c c0 hv kv wv KV WV K x.bs (cZ c fuel a n x.f s) w':=by
 have c2:=h.bs.cell 2 rfl;have vK:Hid (∀w1,Below w.heap.size w w1->(bq c n x.f s).ok=true->Calls prog 201 #[.pointer (some ⟨S,0,none⟩),.int .i64 n,.pointer (some ⟨x.A,0,none⟩)] w1 λe w'=>e=.returned (.tuple #[])/\gf w S c c0 hv kv wv KV WV K x.bs (bq c n x.f s) w'):=ab (λw1 hb ho=>(MI (h.below hb) (hx.below hb) hT hd hn vj ho).mono (λe w' hp=>⟨hp.1,hp.2.pre hb⟩));cases Ji:c.lp
 .have e:cZ c fuel a n x.f s=bq c n x.f s:=by unfold cZ;rw[if_pos (zq0 Ji)]
  rw[e]at bE ⊢;rw[Ji]at c2;have HL:=ab (uh vK w (Below.refl _ _) bE);clear h hx hT hd Ji e vK;go_enter func172,ntmps172;go_wp2_with fail
  refine(uh HL).mono ?_;rintro e w1 ⟨rfl,hp⟩;have HP:=ab hp;clear hp HL;go_wp2_with fail
  refine bodyPost_ret (results_none rfl _ _ _) rfl ?_;exact⟨rfl,uh HP⟩
 .rw[Ji]at c2;have zq:=ab (tC hx.is hT.ok);by_cases tq:fA x.f=[]
  .have e:cZ c fuel a n x.f s=bq c n x.f s:=(by unfold cZ;rw[if_pos (zq1 tq)]);rw[e]at bE ⊢;have hl0:(((fA x.f).length:Int)==(0:Int))=true:=(by rw[tq];rfl);have kQ:=ab bE;clear h hx hT hd Ji e tq bE;go_enter func172,ntmps172;go_wp2_with fail
   refine(uh zq).mono ?_;rintro e w1 ⟨lv,rfl,rj,bB⟩;obtain⟨la,lc,jO,-,-⟩:=aj rj;subst jO;have HL:=ab (uh vK w1 bB (uh kQ));clear rj bB vK zq;go_wp2_with fail
   refine(uh HL).mono ?_;rintro e w2 ⟨rfl,hp⟩;have HP:=ab hp;clear hp HL;go_wp2_with fail
   refine bodyPost_ret (results_none rfl _ _ _) rfl ?_;exact⟨rfl,uh HP⟩
  .have hl0:(((fA x.f).length:Int)==(0:Int))=false:=by
    have:(fA x.f).length≠0:=λe=>tq (length_eq_zero_iff.1 e);simp;omega
   obtain⟨R,hR⟩:∃R,R=fU c fuel 0 [] ([x.f],gV a 2 s):=⟨_,rfl⟩;have e:cZ c fuel a n x.f s=R.1.foldl (λs g=>bq c n g s) R.2:=(by unfold cZ;rw[if_neg (by rw[not_or];exact⟨by rw[Ji];decide,tq⟩),hR]);rw[e]at bE ⊢;have abE:R.2.ok=true:=jR _ bE;have hRk:R.2.kn=s.kn/\R.2.wr=(gV a 2 s).wr:=by
    have h1:cy [x.f]:=λy hy=>by rw[mem_singleton]at hy;subst hy;exact hT
    obtain⟨-,g2,g3⟩:=lD (c:=c) fuel 0 (r:=([x.f],gV a 2 s)) (res:=[]) h1 (λy hy=>by simp at hy);rw[<-hR]at g2 g3;exact⟨g2,g3⟩
   have OQ:R.2.lo=s.lo:=(by rw[hR];exact KI fuel 0 [] ([x.f],gV a 2 s));obtain⟨wB,wC,gA,cA,O5,QB,cw,ct,hz⟩:=h.wc ha;subst O5;have c4:=h.bs.cell 4 rfl;have ct2:=ct 2 (by omega);have fJ:=hz 2;have tb:=h.bad ha (t:=2) (by omega) QB;have H:=ab h;have HX:=ab hx;have HT:=ab hT;have HD:=ab hd;have HR:=ab hR;have SZ:=ab (zq2 abE (zq2 hRk OQ));have kQ:=ab bE;have Uv:=ab (zq2 QB tb);have i1:(0:Int)<=(a:Int):=(by omega);have i2:(a:Int)<(K.length:Int):=(by omega);obtain⟨dP,df⟩:∃dP:World->Prop,dP=λw'=>gf w S c c0 hv kv (.slice (some ⟨wB,0,none⟩) K.length wC) KV WV K x.bs (R.1.foldl (λs g=>bq c n g s) R.2) w':=⟨_,rfl⟩;have fD:=ab df;rw[show(fun(e:Ending) (w':World)=>e=.returned (.tuple #[])/\gf w S c c0 hv kv (.slice (some ⟨wB,0,none⟩) K.length wC) KV WV K x.bs (R.1.foldl (λs g=>bq c n g s) R.2) w')=(λe w'=>e=.returned (.tuple #[])/\dP w') by rw[df]];clear h hx hT hd Ji e tq bE vK hR abE hRk OQ QB tb ct hz df;go_enter func172,ntmps172;go_wp2_with fail
   refine(uh zq).mono ?_;rintro e w1 ⟨lv,rfl,rj,bB⟩;obtain⟨la,lc,jO,-,-⟩:=aj rj;subst jO;have h1:=(uh H).below bB;obtain⟨aR,uM⟩:=h1.bad ha (t:=2) (by omega) (uh Uv).1;have d4:=h1.bs.cell 4 rfl;have dw:=(bB.cell (block_lt_of_cell? w _ cw)).trans cw;have dt:=(bB.cell (block_lt_of_cell? w _ ct2)).trans ct2;have hlA:=block_lt_of_cell? w _ ct2;have dz:w1.frozen? ⟨gA,2,none⟩=false:=by
    have h5:=h1.we a ha;rw[(uh Uv).1]at h5;exact h5.frozenAt 2
   have uS:=((uh HX).below bB).of_eq (w':=w1.setCell ⟨gA,2,none⟩ (.bool true)) (λk hk=>heap_setCell _ _ _ _ (λe=>(uh HD k hk).1 (by rw[show k=gA from e];exact uM)));have IV:=ab (Ao (c:=c) (s:=gV a 2 s) (x:=x) (B:=0) aR.bs uS (uh HT) (λq _=>zq5 _) (λe=>(uh HD S e).1 fL) (zq5 _) fuel (by rw[<-uh HR];exact(uh SZ).1));rw[<-uh HR]at IV;have LK:gb w (w1.setCell ⟨gA,2,none⟩ (.bool true)) (cL S hv kv (.slice (some ⟨wB,0,none⟩) K.length wC) KV WV) (cL S hv kv (.slice (some ⟨wB,0,none⟩) K.length wC) KV WV) (dK K) (dK K) x.bs:=(gb.below (X:=x.bs) bB).trans (gb.stp (X:=[]) ((aq.refl [gA] w1).setCell (p:=⟨gA,2,none⟩) (zq0 (by simp)) (.bool true)) (λk hk=>zq0 (by rw[mem_singleton]at hk;rw[hk];exact uM))) (λk hk=>by simp at hk);have H2:=ab (zq2 aR (zq2 LK uS));clear rj bB h1 aR uM uS hlA LK zq Uv c4 ct2 cw fJ c2;go_wp2_with fail
   refine(uh IV).mono ?_;rintro e w3 ⟨v3,L3,rfl,lL,ada,TO,xY,cF,fe⟩;obtain⟨va,vc,ym,-,-⟩:=aj lL.row;subst ym;have h3:=(uh H2).1.own (s':=R.2) (by rw[(uh SZ).2.2];exact xY) fe (λk hk=>by
    rcases mem_cons.1 hk with p|p
    .exact zq0 p
    .exact zq1 (uh HD k p)) (uh SZ).2.1.1 (uh SZ).2.1.2
   have hg3:=(uh H2).2.1.trans (gb.stp (X:=x.bs) fe (λk hk=>by
    rcases mem_cons.1 hk with p|p
    .exact zq0 (by rw[p];exact fL)
    .exact zq1 p)) (λk hk=>zq0 hk)
   have Wx:∀k∈a9 (.slice va L3.length vc) L3,k∈x.bs\/w.heap.size<=k:=λk hk=>by
    rcases fe.foot k (mem_cons_of_mem _ hk) with p|p
    .rcases mem_cons.1 p with p|p
     .exact absurd (by rw[<-p];exact hk) cF
     .exact zq0 p
    .exact zq1 (zq3 (uh H2).2.1.st.size p)
   have Lk:Pn w3 (.slice va L3.length vc) L3 0 (cL S hv kv (.slice (some ⟨wB,0,none⟩) K.length wC) KV WV) (dK K):=⟨lL.pend,ada,λk hk=>by
    have ll:k∈a9 (.slice va L3.length vc) L3:=(by simpa[lG,a9] using hk);rcases Wx k ll with p|p
    .exact uh HD k p
    .exact⟨λe=>by have:=(uh H).lt k e;omega,λe=>by have:=(uh H).drlt k e;omega⟩⟩
   have ic:((L3.drop 0).map (·.f)).foldl (λs g=>bq c n g s) R.2=R.1.foldl (λs g=>bq c n g s) R.2:=(by rw[drop_zero,TO]);have afQ:=ab Wx;have amW:L3.length<=9223372036854775807:=by
    obtain⟨a1,c1,e1,e2,e3⟩:=aj lL.row;omega
   have cd:=ab (zq2 h3 (zq2 hg3 (zq2 Lk ic)));clear lL ada TO xY cF fe h3 hg3 Wx Lk ic H2 IV;go_wp2_with fail
   go_loopg [37] L3.length (λgn iv wx=>∃(j:Nat) (KV':List Value) (K':List (List En)) (s':Sr),j+gn=L3.length/\iv=.int .i64 j/\Hid (Sh wx S c c0 hv kv (.slice (some ⟨wB,0,none⟩) K.length wC) KV' WV K' s'/\K'.length=K.length/\gb w wx (cL S hv kv (.slice (some ⟨wB,0,none⟩) K.length wC) KV WV) (cL S hv kv (.slice (some ⟨wB,0,none⟩) K.length wC) KV' WV) (dK K) (dK K') x.bs/\Pn wx (.slice va L3.length vc) L3 j (cL S hv kv (.slice (some ⟨wB,0,none⟩) K.length wC) KV' WV) (dK K')/\((L3.drop j).map (·.f)).foldl (λs g=>bq c n g s) s'=R.1.foldl (λs g=>bq c n g s) R.2))
   case atStart=>exact⟨0,KV,K,R.2,by omega,rfl,ab ⟨(uh cd).1,rfl,(uh cd).2⟩⟩
   case round =>
    clear cd;obtain⟨j,KV',K',s',yc,rfl,hI⟩:=hrel;obtain⟨G1,uF⟩:∃G1,G1=gk:=⟨_,rfl⟩;by_cases ar:j<L3.length
    .have jk:decide ((j:Int)<(L3.length:Int))=true:=(by simp;omega);obtain⟨h1,h2,h3,h4,h5⟩:=uh hI;obtain⟨g2,cap2,cO,aw⟩:=h4.pe.cell ar;simp only[Value.slice.injEq,true_and]at cO;obtain⟨rfl,rfl⟩:=cO;obtain⟨n1,-,-,-,n5⟩:=h4.pe.next ar;have Mt:=h4.td _ (getElem_mem ar);have LG:∀k∈L3[j].bs,k ∉ cL S hv kv (.slice (some ⟨wB,0,none⟩) K.length wC) KV' WV/\k ∉ dK K':=λk hk=>h4.fd k (n5 k hk);have om:L3.drop j=L3[j]::L3.drop (j+1):=drop_eq_getElem_cons ar;rw[om,map_cons,foldl_cons]at h5;have oM:(bq c n L3[j].f s').ok=true:=jR _ (by rw[h5];exact uh kQ);have vy:∀w' q7 K2,gb wr w' (cL S hv kv (.slice (some ⟨wB,0,none⟩) K.length wC) KV' WV) (cL S hv kv (.slice (some ⟨wB,0,none⟩) K.length wC) q7 WV) (dK K') (dK K2) L3[j].bs->Pn w' (.slice (some ⟨g2,0,none⟩) L3.length vc) L3 (j+1) (cL S hv kv (.slice (some ⟨wB,0,none⟩) K.length wC) q7 WV) (dK K2)/\gb w w' (cL S hv kv (.slice (some ⟨wB,0,none⟩) K.length wC) KV WV) (cL S hv kv (.slice (some ⟨wB,0,none⟩) K.length wC) q7 WV) (dK K) (dK K2) x.bs:=λw' q7 K2 hg=>⟨h4.next ar hg,h3.trans hg (λk hk=>uh afQ k (mem_append_right _ (mem_flatMap.2 ⟨_,getElem_mem ar,hk⟩)))⟩;obtain⟨y,hy⟩:∃y,y=L3[j]:=⟨_,rfl⟩;rw[<-hy]at aw n1 Mt LG h5 oM vy;have Ff:y.p=.pointer (some ⟨y.A,0,none⟩):=rfl;rw[Ff]at aw;have HLJ:=ab (MI h1 n1 Mt LG (n:=n) (by omega) (by omega) oM);have od:=ab (zq2 vy (zq2 h2 h5));have k1:(0:Int)<=(j:Int):=(by omega);have k2:(j:Int)<(L3.length:Int):=(by omega);clear h1 h2 h3 h4 h5 n1 n5 Mt LG om oM vy hy Ff hI;go_wp2_with fail
     refine(uh HLJ).mono ?_;rintro e w5 ⟨rfl,q7,K2,g1,g2',g3⟩;obtain⟨p1,p2⟩:=(uh od).1 w5 q7 K2 g3;have HN:=ab (zq2 g1 (zq2 (g2'.trans (uh od).2.1) (zq2 p2 (zq2 p1 (uh od).2.2))));clear g1 g2' g3 p1 p2 HLJ od;go_wp2_with fail
     go_roundg (G1-1)
     case rel=>exact⟨j+1,q7,K2,_,by omega,by go_num,HN⟩
     case measure=>omega
    .have jk:decide ((j:Int)<(L3.length:Int))=false:=(by simp;omega);have hP:dP wr:=by
      obtain⟨h1,h2,h3,h4,h5⟩:=uh hI;rw[drop_eq_nil_of_le (by omega)]at h5;rw[uh fD];refine⟨KV',K',?_,h2,h3⟩;rw[<-h5];exact h1
     have HP:=ab hP;clear hP hI;go_wp2_with fail
     go_end0
     exact⟨rfl,uh HP⟩
end
def X0(A:Nat):Value:=.pointer (some ⟨A,0,none⟩)
structure Cp(w:World)(Q:Nat)(ws:List ByteArray)(s:PS)(al:List cf)(vv pv nv:Value):Prop where
 bk:Bk w Q 105 [.string ⟨(jn ws).toArray⟩,vv,pv,nv]
 vr:w.ownsRow 0 5 1 vv s.vars.length (bc s.vars)
 pr:w.ownsRow 0 239 5 pv al.length (bI al)
 nr:w.ownsRow 0 186 6 nv s.nodes.length (bi s.nodes)
def zy(Q:Nat)(vv pv nv:Value):List Nat:=Q::(vv.ownBlock.toList++(pv.ownBlock.toList++nv.ownBlock.toList))
section
variable {w w':World} {Q:Nat} {ws:List ByteArray} {s:PS} {al:List cf} {vv pv nv:Value}
theorem Cp.of_eq(h:Cp w Q ws s al vv pv nv)(he:∀k∈zy Q vv pv nv,w'.heap[k]?=w.heap[k]?):Cp w' Q ws s al vv pv nv :=
 ⟨h.bk.of_eq (he Q (by simp[zy])),ae h.vr (λk hk=>he k (by simp[zy,hk])),ae h.pr (λk hk=>he k (by simp[zy,hk])),ae h.nr (λk hk=>he k (by simp[zy,hk]))⟩
theorem Cp.lt(h:Cp w Q ws s al vv pv nv):∀k∈zy Q vv pv nv,k<w.heap.size:=by
 intro k hk;simp only[zy,mem_cons,mem_append,Option.mem_toList]at hk;rcases hk with rfl|hk|hk|hk
 .exact h.bk.lt
 .exact(h.vr.lt k hk).2
 .exact(h.pr.lt k hk).2
 .exact(h.nr.lt k hk).2
theorem Cp.below(h:Cp w Q ws s al vv pv nv)(hb:Below w.heap.size w w'):Cp w' Q ws s al vv pv nv:=h.of_eq (λk hk=>hb.block k (h.lt k hk))
end
theorem UV.cp{B:Nat}{w:World}{Q:Nat}{ws:List ByteArray}{s:PS}{al:List cf}(h:UV B w Q ws s al):∃vv pv nv,Cp w Q ws s al vv pv nv/\∀k∈zy Q vv pv nv,B<=k:=by
 obtain⟨vv,pv,nv,h0,hB,h1,h2,h3⟩:=h;refine⟨vv,pv,nv,⟨h0,dB h1 (zq5 _),dB h2 (zq5 _),dB h3 (zq5 _)⟩,λk hk=>?_⟩;simp only[zy,mem_cons,mem_append,Option.mem_toList]at hk;rcases hk with rfl|hk|hk|hk
 .exact hB
 .exact(h1.lt k hk).1
 .exact(h2.lt k hk).1
 .exact(h3.lt k hk).1
def ZL(nds:List Nd)(n:Nat):Nd:=nds.getD n ⟨0,0,0,0,0,0⟩
theorem M2{l:List Nd}{k:Nat}(h:k<l.length):∀j,j<6->(bi l)[k*6+j]?=l[k].cells[j]?:=by
 induction l generalizing k with
 |nil=>simp at h
 |cons x l ih =>
  have hx:bi (x::l)=x.cells++bi l:=rfl;have hl:x.cells.length=6:=rfl;intro j hj;cases k with
  |zero=>rw[hx,getElem?_append_left (by omega)];simp
  |succ k =>
   rw[hx,getElem?_append_right (by omega),hl,show(k+1)*6+j-6=k*6+j by omega,ih (by simpa using h) j hj];rfl
theorem U9{w:World}{Q:Nat}{ws:List ByteArray}{s:PS}{al:List cf}{vv pv nv:Value}(n:Nat)(h:Cp w Q ws s al vv pv nv)(hl:s.nodes.length<=100000):
  Calls prog 103 #[.pointer (some ⟨Q,0,none⟩),.int .i64 n] w λe w'=>e=.returned (.agg (ZL s.nodes n).cells.toArray)/\Below w.heap.size w w':=by
 have c3:=h.bk.cell 3 rfl;have hQ:=h.bk.lt;have hb:=ah w (.cells #[Value.int .i64 0,.int .i64 0,.int .i64 0,.int .i64 0,.int .i64 0,.int .i64 0] 186);have d3:=(hb.cell (block_lt_of_cell? w _ c3)).trans c3;by_cases hn:n<s.nodes.length
 .obtain⟨g,cap,rfl,je,hm,mq⟩:=bT h.nr (by omega);have hg:=M2 hn;have x:∀j,j<6->w.cell? ⟨g,n*6+j,none⟩=s.nodes[n].cells[j]?:=λj hj=>(h.nr.cellAt (n*6+j) (by omega)).trans (hg j hj);have x':∀j,j<6->(w.alloc (.cells #[Value.int .i64 0,.int .i64 0,.int .i64 0,.int .i64 0,.int .i64 0,.int .i64 0] 186)).cell? ⟨g,n*6+j,none⟩=s.nodes[n].cells[j]?:=λj hj=>(hb.cell (p:=⟨g,n*6+j,none⟩) mq).trans (x j hj);have HE:Hid (ZL s.nodes n=s.nodes[n]):=ab (by simp[ZL,hn]);generalize s.nodes[n]=nd at *;obtain⟨op,v,ak,ai,nx,ot⟩:=nd;have x0:=x' 0 (by omega);have x1:=x' 1 (by omega);have x2:=x' 2 (by omega);have x3:=x' 3 (by omega);have x4:=x' 4 (by omega);have x5:=x' 5 (by omega);simp only[Nd.cells,getElem?_cons_zero,getElem?_cons_succ,Nat.add_zero]at x0 x1 x2 x3 x4 x5;clear x x' hg h c3 hb;go_enter func103,ntmps103;go_wp2_with fail
  refine bodyPost_ret (v:=.agg #[.int .i64 op,.int .i64 v,.int .i64 ak,.int .i64 ai,.int .i64 nx,.int .i64 ot]) (by simp[results,Tryz.results103,go_sem]) rfl ⟨?_,?_⟩
  .rw[uh HE];rfl
  .exact ah _ _
 .obtain⟨ao,cap,rfl,je,hm⟩:=aj h.nr;have HE:Hid (ZL s.nodes n=⟨0,0,0,0,0,0⟩):=ab (by unfold ZL;simp[List.getD,getElem?_eq_none (Nat.le_of_not_lt hn)]);have cq:(s.nodes.length:Int)<=(n:Int):=by omega
  clear h c3 hb;go_enter func103,ntmps103;go_wp2_with fail
  refine bodyPost_ret (v:=.agg #[.int .i64 0,.int .i64 0,.int .i64 0,.int .i64 0,.int .i64 0,.int .i64 0]) (by simp[results,Tryz.results103,go_sem]) rfl ⟨?_,?_⟩
  .rw[uh HE];rfl
  .exact ah _ _
structure sE(nds:List Nd):Prop where
 v:∀n,(nds.getD n aK).v<4/\(nds.getD n aK).ai<4
 op:∀n,(nds.getD n aK).op<=1000
 nx:∀n,n<nds.length->(nds.getD n aK).op≠0->(nds.getD n aK).nx<nds.length
 ot:∀n,n<nds.length->((nds.getD n aK).op=7\/(nds.getD n aK).op=8\/(nds.getD n aK).op=9)->(nds.getD n aK).ot<nds.length
theorem nI{n:Nd}{f:CF}(h:(cN n f).nx≠[]):n.op≠0:=λe=>h (by unfold cN;rw[if_pos e];rfl)
theorem ky{n:Nd}{f:CF}(h:(cN n f).ot≠[]):n.op=7\/n.op=8\/n.op=9:=by
 apply Classical.byContradiction;intro hc;simp only[not_or]at hc;apply h;unfold cN;repeat' split
 all_goals first|rfl|(exfalso;omega)
structure Lp(w W:World)(S:Nat)(c:Cd)(c0 hv kv wv:Value)(PD WV:List Value)(K0:List (List En))(X:List Nat)(KV:List Value)(K:List (List En))(s:Sr)(v:Value)(L:List FE)(j:Nat)(Z:List Nat):Prop where
 sh:Sh W S c c0 hv kv wv KV WV K s
 kl:K.length=K0.length
 go:gb w W (cL S hv kv wv PD WV) (cL S hv kv wv KV WV) (dK K0) (dK K) X
 pn:Pn W v L j (cL S hv kv wv KV WV) (dK K)
 ap:∀k∈Z,(k ∉ cL S hv kv wv KV WV/\k ∉ dK K)/\k ∉ lG v L j/\k<W.heap.size
 nw:∀k∈lG v L j,k∈X\/w.heap.size<=k
section
variable {w W W':World} {S:Nat} {c:Cd} {c0 hv kv wv:Value} {PD WV KV:List Value} {K0 K:List (List En)} {X Z:List Nat} {s s':Sr} {v:Value} {L:List FE} {j:Nat}
theorem Lp.next(h:Lp w W S c c0 hv kv wv PD WV K0 X KV K s v L j Z)(hj:j<L.length)(hP:gf W S c c0 hv kv wv KV WV K L[j].bs s' W'):∃KV' K',Lp w W' S c c0 hv kv wv PD WV K0 X KV' K' s' v L (j+1) Z/\∀k∈Z,W'.heap[k]?=W.heap[k]?:=by
 obtain⟨KV',K',h1,h2,h3⟩:=hP;obtain⟨-,-,-,n4,n5⟩:=h.pn.pe.next hj;refine⟨KV',K',⟨h1,h2.trans h.kl,h.go.trans h3 (λk hk=>h.nw k (n5 k hk)),h.pn.next hj h3,λk hk=>?_,λk hk=>h.nw k (n4 k hk).1⟩,λk hk=>?_⟩
 .obtain⟨⟨a1,a2⟩,a3,a4⟩:=h.ap k hk;refine⟨⟨λhn=>?_,λhn=>?_⟩,λhn=>a3 (n4 k hn).1,zq6 a4 h3.st.size⟩
  .rcases h3.st.foot k hn with p|p
   .rcases mem_append.1 p with p|p
    .exact a1 p
    .exact a3 (n5 k p)
   .omega
  .rcases h3.dr k hn with p|p|p
   .exact a2 p
   .exact a3 (n5 k p)
   .omega
 .obtain⟨⟨a1,a2⟩,a3,a4⟩:=h.ap k hk;refine h3.st.block k a4 (λhn=>?_);rcases mem_append.1 hn with p|p
  .exact a1 p
  .exact a3 (n5 k p)
theorem Lp.end'(h:Lp w W S c c0 hv kv wv PD WV K0 X KV K s v L j Z):gf w S c c0 hv kv wv PD WV K0 X s W:=⟨KV,K,h.sh,h.kl,h.go⟩
end
structure Sx(w W:World)(S:Nat)(c:Cd)(c0 hv kv wv:Value)(KV WV:List Value)(K:List (List En))(s:Sr)(O:Nat)(nu da fu:Bool)(nv tv:Value)(Ln Lt:List FE)(Y:Nat)(nd:Nd):Prop where
 sh:Sh W S c c0 hv kv wv KV WV K s
 go:gb w W (cL S hv kv wv KV WV) (cL S hv kv wv KV WV) (dK K) (dK K) []
 oo:Oo W O nu da fu nv tv Ln Lt
 bx:Bk W Y 186 nd.cells
 on:∀k∈Y::dU O nv tv Ln Lt,(k ∉ cL S hv kv wv KV WV/\k ∉ dK K)/\w.heap.size<=k
 yn:Y ∉ dU O nv tv Ln Lt
section
variable {w W:World} {S:Nat} {c:Cd} {c0 hv kv wv:Value} {KV WV:List Value} {K:List (List En)} {s:Sr} {O:Nat} {nu da fu:Bool} {nv tv:Value} {Ln Lt:List FE} {Y:Nat} {nd:Nd}
theorem Sx.bad(h:Sx w W S c c0 hv kv wv KV WV K s O nu da fu nv tv Ln Lt Y nd){n:Nat}(hn:n<K.length){t:Nat}(ht:t<5){g cap:Nat}(hg:WV.getD n aH=.slice (some ⟨g,0,none⟩) 5 cap):Sx w (W.setCell ⟨g,t,none⟩ (.bool true)) S c c0 hv kv wv KV WV K (gV n t s) O nu da fu nv tv Ln Lt Y nd:=by
 obtain⟨h1,h2⟩:=h.sh.bad hn ht hg;have aY:∀k∈Y::dU O nv tv Ln Lt,(W.setCell ⟨g,t,none⟩ (.bool true)).heap[k]?=W.heap[k]?:=λk hk=>heap_setCell _ _ _ _ (λe=>(h.on k hk).1.1 (by rw[show k=g from e];exact h2));exact⟨h1,h.go.trans (gb.stp (X:=[]) ((aq.refl [g] W).setCell (p:=⟨g,t,none⟩) (zq0 (by simp)) (.bool true)) (λk hk=>zq0 (by rw[mem_singleton]at hk;rw[hk];exact h2))) (λk hk=>by simp at hk),h.oo.of_eq (λk hk=>aY k (mem_cons_of_mem _ hk)),h.bx.of_eq (aY Y (by simp)),h.on,h.yn⟩
theorem Sx.full(h:Sx w W S c c0 hv kv wv KV WV K s O nu da fu nv tv Ln Lt Y nd):Sx w (W.setCell ⟨S,8,none⟩ (.bool true)) S c c0 hv kv wv KV WV K { s with fu:=true } O nu da fu nv tv Ln Lt Y nd:=by
 have hs:aq [S] W [S] (W.setCell ⟨S,8,none⟩ (.bool true)):=(aq.refl [S] W).setCell (p:=⟨S,8,none⟩) (zq0 (by simp)) (.bool true);have h1:=h.sh.own (s':={ s with fu:=true }) (h.sh.bs.set 8 (.bool true)) hs (λk hk=>zq0 (mem_singleton.1 hk)) rfl rfl;have aY:∀k∈Y::dU O nv tv Ln Lt,(W.setCell ⟨S,8,none⟩ (.bool true)).heap[k]?=W.heap[k]?:=λk hk=>heap_setCell _ _ _ _ (λe=>(h.on k hk).1.1 (by rw[show k=S from e];exact fL));exact⟨h1,h.go.trans (gb.stp (X:=[]) hs (λk hk=>zq0 (by rw[mem_singleton]at hk;rw[hk];exact fL))) (λk hk=>by simp at hk),h.oo.of_eq (λk hk=>aY k (mem_cons_of_mem _ hk)),h.bx.of_eq (aY Y (by simp)),h.on,h.yn⟩
theorem Sx.lp(h:Sx w W S c c0 hv kv wv KV WV K s O nu da fu nv tv Ln Lt Y nd)(ht:∀x∈Ln,Td x.f):Lp w W S c c0 hv kv wv KV WV K [] KV K s nv Ln 0 (Y::O::a9 tv Lt):=by
 have dV:=nodup_cons.1 h.oo.nd;have ts:=nodup_append.1 dV.2;have e:lG nv Ln 0=a9 nv Ln:=by simp[lG,a9]
 refine⟨h.sh,rfl,h.go,⟨h.oo.nx.pend,ht,λk hk=>?_⟩,λk hk=>?_,λk hk=>zq1 ?_⟩
 .rw[e]at hk;exact(h.on k (by simp only[dU,mem_cons,mem_append];exact zq1 (zq1 (zq0 hk)))).1
 .have hm:k∈Y::dU O nv tv Ln Lt:=by
   simp only[dU,mem_cons,mem_append]at hk ⊢;rcases hk with p|p|p
   .exact zq0 p
   .exact zq1 (zq0 p)
   .exact zq1 (zq1 (zq1 p))
  refine⟨(h.on k hm).1,λhn=>?_,?_⟩
  .rw[e]at hn;rcases mem_cons.1 hk with p|p
   .exact h.yn (by rw[<-p];simp only[dU,mem_cons,mem_append];exact zq1 (zq0 hn))
   .rcases mem_cons.1 p with p|p
    .exact dV.1 (by rw[<-p];exact mem_append_left _ hn)
    .exact ts.2.2 k hn k p rfl
  .rcases mem_cons.1 hm with p|p
   .rw[p];exact h.bx.lt
   .exact h.oo.lt k p
 .rw[e]at hk;exact(h.on k (by simp only[dU,mem_cons,mem_append];exact zq1 (zq1 (zq0 hk)))).2
end
