import Derived.Test.YtciihepbeacppaaGreatM21
set_option maxRecDepth 100000
set_option maxHeartbeats 0
namespace Go.Proofs.YtciihepbeacppaaGreat
open Tryz Go.RowKit List World Below
set_option linter.unusedVariables false
theorem bF{α:Type}{l:List α}{d:α}{i:Nat}(h:i<l.length):l.getD i d=l[i]:=by simp[h]
theorem infoEn:(prog.info? 258).map (λi=>(i.zero,i.size,i.bytes))=some (some (.agg #[.pointer none,.bool false]),2,16):=by kernel_rfl
structure ii(w w':World)(F F' D D' X:List Nat):Prop where
 st:ar (F++X) w F' w'
 dr:∀k∈D',k∈D\/k∈X\/w.heap.size<=k
theorem ii.trans{w w1 w2:World}{F F1 F2 D D1 D2 X Y:List Nat}(h:ii w w1 F F1 D D1 X)(h2:ii w1 w2 F1 F2 D1 D2 Y)(hY:∀k∈Y,k∈X\/w.heap.size<=k):ii w w2 F F2 D D2 X:=by
 have uo:∀k∈F1++Y,k∈F++X\/w.heap.size<=k:=λk hk=>by
  rcases mem_append.1 hk with p|p
  .exact h.st.foot k p
  .rcases hY k p with q|q
   .exact zq0 (mem_append_right _ q)
   .exact zq1 q
 refine⟨⟨h2.st.os.trans h.st.os,h2.st.tape.trans h.st.tape,h2.st.output.trans h.st.output,zq3 h.st.size h2.st.size,λk hk hn=>?_,λk hk=>?_⟩,λk hk=>?_⟩
 .refine(h2.st.block k (zq6 hk h.st.size) (λe=>?_)).trans (h.st.block k hk hn);rcases uo k e with p|p
  .exact hn p
  .omega
 .rcases h2.st.foot k hk with p|p
  .exact uo k p
  .exact zq1 (zq3 h.st.size p)
 .rcases h2.dr k hk with p|p|p
  .exact h.dr k p
  .rcases hY k p with q|q
   .exact zq1 (zq0 q)
   .exact zq1 (zq1 q)
  .exact zq1 (zq1 (zq3 h.st.size p))
theorem ii.below{w w':World}{F D X:List Nat}(h:Below w.heap.size w w'):ii w w' F F D D X:=⟨⟨h.os,h.tape,h.output,h.size,λk hk _=>h.block k hk,λ_ hk=>zq0 (mem_append_left _ hk)⟩,λ_ hk=>zq0 hk⟩
theorem ii.stp{w w':World}{F D X G G':List Nat}(h:ar G w G' w')(hG:∀k∈G,k∈F\/k∈X):ii w w' F F D D X:=⟨⟨h.os,h.tape,h.output,h.size,λk hk hn=>h.block k hk (λe=>hn (mem_append.2 (hG k e))),λ_ hk=>zq0 (mem_append_left _ hk)⟩,λ_ hk=>zq0 hk⟩
theorem amF{W:World}{B g cap n i:Nat}{L:List En}(hr:W.ownsRow B 258 2 (.slice (some ⟨g,0,none⟩) n cap) n (rF L))(hn:n=L.length)(hi:i<n)(e:En):
  ((W.setCell ⟨g,i*2,none⟩ (.pointer (some ⟨e.D,0,none⟩))).setCell ⟨g,i*2+1,none⟩ (.bool e.d)).ownsRow B 258 2 (.slice (some ⟨g,0,none⟩) n cap) n (rF (L.set i e)) /\
  ((∃u,W.cell? ⟨g,i*2,none⟩=some u)/\∃u,W.cell? ⟨g,i*2+1,none⟩=some u) /\
  W.frozen? ⟨g,i*2,none⟩=false/\W.frozen? ⟨g,i*2+1,none⟩=false:=by
 subst hn;have r3:=((hr.stored (i*2) (.pointer (some ⟨e.D,0,none⟩))).1.stored (i*2+1) (.bool e.d)).1;rw[Id hi]at r3;have x0:=(hr.cellAt (i*2) (by omega)).trans (qC hi).1;have x1:=(hr.cellAt (i*2+1) (by omega)).trans (qC hi).2;exact⟨r3,⟨⟨_,x0⟩,⟨_,x1⟩⟩,hr.frozenAt _,hr.frozenAt _⟩
theorem mU{W:World}{B g cap n i:Nat}{L:List En}(hr:W.ownsRow B 258 2 (.slice (some ⟨g,0,none⟩) n cap) n (rF L))(hn:n=L.length)(hi:i<n):W.cell? ⟨g,i*2,none⟩=some (.pointer (some ⟨(L[i]'(by omega)).D,0,none⟩))/\W.cell? ⟨g,i*2+1,none⟩=some (.bool (L[i]'(by omega)).d):=by
 subst hn;exact⟨(hr.cellAt (i*2) (by omega)).trans (qC hi).1,(hr.cellAt (i*2+1) (by omega)).trans (qC hi).2⟩
theorem En.one(e:En):∀u∈e.c,u.oneCell'=true:=by
 intro u hu;simp only[En.c,mem_cons,not_mem_nil,or_false]at hu;rcases hu with rfl|rfl <;> rfl
section
variable {w:World} {S:Nat} {c:Cd} {c0 hv kv wv:Value} {KV WV:List Value} {K:List (List En)} {s:Sr} {x:FE}
theorem Sh.knE(h:Sh w S c c0 hv kv wv KV WV K s)(n:Nat):bq s n=(K.getD n []).map En.m:=by
 unfold bq;rw[h.km];by_cases hn:n<K.length
 .simp[hn]
 .simp[getD_eq_getElem?_getD,getElem?_eq_none (Nat.le_of_not_lt hn)]
theorem Sh.kc(h:Sh w S c c0 hv kv wv KV WV K s){n:Nat}(hn:n<K.length):∃g cap,kv=.slice (some ⟨g,0,none⟩) K.length cap/\w.cell? ⟨g,n,none⟩=some (KV.getD n aJ):=by
 obtain⟨g,cap,hv,-,-,-⟩:=b8 h.kr (by omega);have gJ:=h.kvl;refine⟨g,cap,hv,?_⟩;have:=h.kr;rw[hv]at this;rw[this.cellAt n (by omega),getElem?_eq_getElem (by omega),bF (by omega)]
theorem Sh.hc(h:Sh w S c c0 hv kv wv KV WV K s){n:Nat}(hn:n<K.length):∃g cap,hv=.slice (some ⟨g,0,none⟩) K.length cap/\w.cell? ⟨g,n,none⟩=some (.bool (c.hd.getD n false)):=by
 have hl:=h.hl;obtain⟨g,cap,hv,-,-,-⟩:=b8 h.hr (by omega);refine⟨g,cap,by rw[hv,hl],?_⟩;have:=h.hr;rw[hv]at this;rw[this.cellAt n (by omega)];exact fP (by omega)
def ik(w:World)(S:Nat)(c:Cd)(c0 hv kv wv:Value)(KV WV:List Value)(K:List (List En))(X:List Nat)(s':Sr)(w':World):Prop :=
 ∃KV' K',Sh w' S c c0 hv kv wv KV' WV K' s'/\K'.length=K.length/\ii w w' (cY S hv kv wv KV WV) (cY S hv kv wv KV' WV) (er K) (er K') X
theorem Sh.as(h:Sh w S c c0 hv kv wv KV WV K s){s':Sr}(e1:s'.kn=s.kn)(e2:s'.wr=s.wr)(e3:s'.lf=s.lf)(e4:s'.lo=s.lo)(e5:s'.fu=s.fu):Sh w S c c0 hv kv wv KV WV K s' :=
 ⟨by rw[e3,e4,e5];exact h.bs,h.hr,h.kr,h.ke,h.wr,by rw[e2];exact h.we,by rw[e2];exact h.wl,h.hl,h.nl,by rw[e1];exact h.km,h.dr,h.nd,h.da⟩
end
section
variable {w W:World} {S:Nat} {c:Cd} {c0 hv kv wv:Value} {KV WV:List Value} {K:List (List En)} {s:Sr} {n:Nat} {g:CF} {D A:Nat} {av ov:Value}
theorem Vd{o:Obj}{W1:World}{row:Option Nat}{F:List Nat}(h:Sh w S c c0 hv kv wv KV WV K s)(hn:n<K.length)(bp:(KV.getD n aJ).ownBlock=row)(hW:ar row.toList w F W)(hg:(W.alloc o).grownBy W1 row):
  Bk W1 S 229 (qt c0 hv c.lp kv wv c.bd s.lf s.lo s.fu)/\W1.ownsRow 0 255 1 kv K.length KV:=by
 have hK:=h.kvl;have Ct:(pA S hv kv wv KV WV)[4+n]?=some row:=by rw[yx (by omega),bp]
 have ti:∀i k,i≠4+n->(pA S hv kv wv KV WV)[i]?=some (some k)->W1.heap[k]?=w.heap[k]?:=λi k hi hk=>by
  have aH:row≠some k:=λe=>hi (h.nd i (4+n) k hk (by rw[Ct,e]));have au:=h.lt k (bP hk);exact((hg.block k (by have:=hW.size;simp;omega) aH.symm).trans (heap_alloc _ _ _ (zq6 au hW.size))).trans (hW.block k au (by simpa[eq_comm] using aH))
 exact⟨h.bs.of_eq (ti 0 S (by omega) rfl),ae h.kr (λk hk=>ti 2 k (by omega) (congrArg some hk))⟩
theorem Ij{l:List En}{P:En->Bool}{i:Nat}(hi:i<l.length):(l.take (i+1)).filter P=(l.take i).filter P++if P l[i]=true then [l[i]] else []:=by
 rw[take_succ_eq_append_getElem hi,filter_append];congr 1;by_cases h:P l[i]=true <;> simp[h]
theorem Qu(a:Option Addr)(i j i' j':Nat):(Value.slice a i j).ownBlock=(Value.slice a i' j').ownBlock:=by cases a <;> rfl
theorem Vc {o:Obj} {W1:World} {gk ck g1 c1:Nat} {row:Option Nat} {F:List Nat} (h:Sh w S c c0 hv (.slice (some ⟨gk,0,none⟩) K.length ck) wv KV WV K s) (hn:n<K.length)
  (bp:(KV.getD n aJ).ownBlock=row) (hD:rB W D A g av ov) (hT:Td g) (hW:ar row.toList w F W)
  (aaa:∀k∈D::aG A av ov,k ∉ cY S hv (.slice (some ⟨gk,0,none⟩) K.length ck) wv KV WV)
  (aL:W1.ownsRow 0 258 2 (.slice (some ⟨g1,0,none⟩) (((K.getD n []).filter (λe=>!Eg e.x.f g)).length+1) c1) (((K.getD n []).filter (λe=>!Eg e.x.f g)).length+1) (rF ((K.getD n []).filter (λe=>!Eg e.x.f g))++[.pointer (some ⟨D,0,none⟩),.bool false]))
  (hg:(W.alloc o).grownBy W1 row) (cB:some g1=row\/g1=(W.alloc o).heap.size) :
  ∃KV' K',Sh (W1.setCell ⟨gk,n,none⟩ (.slice (some ⟨g1,0,none⟩) (((K.getD n []).filter (λe=>!Eg e.x.f g)).length+1) c1)) S c c0 hv (.slice (some ⟨gk,0,none⟩) K.length ck) wv KV' WV K' (pW n g s)/\K'.length=K.length /\
   ar (cY S hv (.slice (some ⟨gk,0,none⟩) K.length ck) wv KV WV) w (cY S hv (.slice (some ⟨gk,0,none⟩) K.length ck) wv KV' WV) (W1.setCell ⟨gk,n,none⟩ (.slice (some ⟨g1,0,none⟩) (((K.getD n []).filter (λe=>!Eg e.x.f g)).length+1) c1))/\∀k∈er K',k∈er K\/k∈D::aG A av ov:=by
 obtain⟨l,hl⟩:∃l,l=K.getD n []:=⟨_,rfl⟩;rw[<-hl]at aL ⊢;obtain⟨M,hM⟩:∃M,M=l.filter (λe=>!Eg e.x.f g):=⟨_,rfl⟩;rw[<-hM]at aL ⊢;obtain⟨v',hv'⟩:∃v',v'=Value.slice (some ⟨g1,0,none⟩) (M.length+1) c1:=⟨_,rfl⟩;have UP:v'.ownBlock=some g1:=by rw[hv'];rfl
 rw[<-hv']at aL ⊢;have hK:=h.kvl;have mO:W.heap.size<=W1.heap.size:=zq3 (by simp) hg.size;have Ct:(pA S hv (.slice (some ⟨gk,0,none⟩) K.length ck) wv KV WV)[4+n]?=some row:=by rw[yx (by omega),bp]
 have mK:(pA S hv (.slice (some ⟨gk,0,none⟩) K.length ck) wv KV WV)[2]?=some (some gk):=rfl;have UB:row≠some gk:=λe=>by
  have:=h.nd (4+n) 2 gk (by rw[Ct,e]) mK;omega
 have ti:∀k,k<W.heap.size->row≠some k->W1.heap[k]?=W.heap[k]?:=λk hk aH=>(hg.block k (by simp;omega) aH.symm).trans (heap_alloc _ _ _ hk);have AH:∀k,k<w.heap.size->row≠some k->W1.heap[k]?=w.heap[k]?:=λk hk aH=>(ti k (zq6 hk hW.size) aH).trans (hW.block k hk (by simpa[eq_comm] using aH));have cS:∀k,k≠gk->(W1.setCell ⟨gk,n,none⟩ v').heap[k]?=W1.heap[k]?:=λk hk=>heap_setCell _ _ _ _ hk;have hrs:∀k,row=some k->k∈cY S hv (.slice (some ⟨gk,0,none⟩) K.length ck) wv KV WV:=λk hk=>bP (by rw[Ct,hk]);have xQ:gk∈cY S hv (.slice (some ⟨gk,0,none⟩) K.length ck) wv KV WV:=bP mK;have alq:=h.lt gk xQ;have KT:some g1=row\/W.heap.size<=g1:=by
  rcases cB with e|e
  .exact zq0 e
  .right;rw[e];simp
 have hg1k:g1≠gk:=λe=>by
  rcases KT with q|q
  .exact UB (by rw[<-q,e])
  .have:=hW.size;omega
 have uo:∀k∈cY S hv (.slice (some ⟨gk,0,none⟩) K.length ck) wv (KV.set n v') WV,k∈cY S hv (.slice (some ⟨gk,0,none⟩) K.length ck) wv KV WV\/W.heap.size<=k:=λk hk=>by
  obtain⟨i,hi⟩:=aU.1 hk;rw[Gt v' (by omega),getElem?_set]at hi;split at hi
  .split at hi
   .simp only[Option.some.injEq]at hi;rw[UP]at hi;injection hi with hi;subst hi;rcases KT with q|q
    .exact zq0 (hrs _ q.symm)
    .exact zq1 q
   .simp at hi
  .exact zq0 (bP hi)
 have hkr:W1.ownsRow 0 255 1 (.slice (some ⟨gk,0,none⟩) K.length ck) K.length KV:=ae h.kr (λk hk=>by
  have e:gk=k:=by simpa[Value.ownBlock] using hk
  subst e;exact AH gk alq UB)
 have hdl:∀k∈er K,(W1.setCell ⟨gk,n,none⟩ v').heap[k]?=w.heap[k]?:=λk hk=>by
  rw[cS k (λe=>h.da k hk (by rw[e];exact xQ))];exact AH k (h.drlt k hk) (λe=>h.da k hk (hrs k e))
 have hlK:l∈K:=by rw[hl,bF hn];exact getElem_mem hn
 have iF:∀k∈D::aG A av ov,(W1.setCell ⟨gk,n,none⟩ v').heap[k]?=W.heap[k]?:=λk hk=>by
  rw[cS k (λe=>aaa k hk (by rw[e];exact xQ))];exact ti k (hD.lt k hk) (λe=>aaa k hk (hrs k e))
 have sl:=h.put hn (w':=W1.setCell ⟨gk,n,none⟩ v') (v':=v') (l':=M++[⟨D,⟨A,g,av,ov⟩,false⟩]) (λi k h2 h4 hi=>by
   rw[cS k (λe=>h2 (h.nd i 2 k hi (by rw[e];exact mK)))];exact AH k (h.lt k (bP hi)) (λe=>h4 (h.nd i (4+n) k hi (by rw[Ct,e])))) (hkr.stored n v').1 (by
   rw[length_append,length_singleton,TP];exact cE aL (p:=⟨gk,n,none⟩) (by rw[UP];intro e;injection e with e;exact hg1k e) v') (λk hk=>by
   rw[UP]at hk;injection hk with hk;subst hk;rcases KT with q|q
   .exact zq0 (by rw[bp,q])
   .exact zq1 (zq3 hW.size q)) hdl (λe he=>by
   rcases mem_append.1 he with p|p
   .have mI:e∈l:=(by rw[hM]at p;exact(mem_filter.1 p).1);refine⟨(h.dr l hlK e mI).of_eq (λk hk=>hdl k (bB.2 ⟨l,hlK,e,mI,hk⟩)),λk hk hm=>?_⟩;have hq:=bB.2 ⟨l,hlK,e,mI,hk⟩;rcases uo k hm with q|q
    .exact h.da k hq q
    .have:=h.drlt k hq;have:=hW.size;omega
   .rw[mem_singleton]at p;subst p;refine⟨⟨hD.of_eq iF,hT⟩,λk hk hm=>?_⟩;rcases uo k hm with q|q
    .exact aaa k hk q
    .have:=hD.lt k hk;omega)
 refine⟨KV.set n v',K.set n (M++[⟨D,⟨A,g,av,ov⟩,false⟩]),sl.as (s':=pW n g s) ?_ rfl rfl rfl rfl,length_set,⟨hg.os.trans hW.os,hg.tape.trans hW.tape,hg.output.trans hW.output,?_,λk hk hm=>?_,λk hk=>?_⟩,λk hk=>?_⟩
 .show s.kn.set n _=s.kn.set n _;rw[h.knE n,<-hl,hM,map_append,filter_map];rfl
 .simpa[World.setCell] using zq3 hW.size mO
 .rw[cS k (λe=>hm (by rw[e];exact xQ))];exact AH k hk (λe=>hm (hrs k e))
 .rcases uo k hk with q|q
  .exact zq0 q
  .exact zq1 (zq3 hW.size q)
 .obtain⟨l2,ym,e,mI,hk⟩:=bB.1 hk;rcases mem_or_eq_of_mem_set ym with p|p
  .exact zq0 (bB.2 ⟨l2,p,e,mI,hk⟩)
  .subst p;rcases mem_append.1 mI with q|q
   .exact zq0 (bB.2 ⟨l,hlK,e,by rw[hM]at q;exact(mem_filter.1 q).1,hk⟩)
   .rw[mem_singleton]at q;subst q;exact zq1 hk
end
section
variable {w:World} {S:Nat} {c:Cd} {c0 hv kv wv:Value} {KV WV:List Value} {K:List (List En)} {s:Sr} {x:FE}
theorem En.m_any(l:List En)(P:CF->Bool):(l.map En.m).any (λe=>P e.f)=l.any (λe=>P e.x.f):=by rw[any_map];rfl
theorem P2(h:Sh w S c c0 hv kv wv KV WV K s)(hx:Fm w x.A x.f x.av x.ov)(hT:Td x.f)(hd:∀k∈x.bs,k ∉ cY S hv kv wv KV WV/\k ∉ er K){n:Nat}(hn:n<K.length)(ye:K.length<=100000)(bm:(bu c n x.f s).ok=true):
  Calls prog 201 #[.pointer (some ⟨S,0,none⟩),.int .i64 n,.pointer (some ⟨x.A,0,none⟩)] w λe w'=>e=.returned (.tuple #[])/\ik w S c c0 hv kv wv KV WV K x.bs (bu c n x.f s) w':=by
 obtain⟨i0,lr,gX,gy,gK⟩:=info_parts infoEn;have vN:=(og bm).2;have gu:=h.knE n;rw[gu,length_map]at vN;obtain⟨hB,hC,hhv,chd⟩:=h.hc hn;subst hhv;obtain⟨kB,kC,SF,-⟩:=h.kc hn;subst SF;have c1:=h.bs.cell 1 rfl;obtain⟨l,hl⟩:∃l,l=K.getD n []:=⟨_,rfl⟩;rw[<-hl]at vN gu;have EF:l.length<=1000000000000:=vN;obtain⟨va,vc,AL,PO,UO⟩:=am (h.ke n hn);rw[<-hl]at AL PO;have hTG:Td (bH c n x.f):=Bb hT;have agF:∀(w':World) (s':Sr),s'=bu c n x.f s->ik w S c c0 (.slice (some ⟨hB,0,none⟩) K.length hC) (.slice (some ⟨kB,0,none⟩) K.length kC) wv KV WV K x.bs s' w'->(Ending.returned (.tuple #[]):Ending)=.returned (.tuple #[])/\ik w S c c0 (.slice (some ⟨hB,0,none⟩) K.length hC) (.slice (some ⟨kB,0,none⟩) K.length kC) wv KV WV K x.bs (bu c n x.f s) w':=λw' s' e hp=>⟨rfl,by rw[<-e];exact hp⟩;have agf:bu c n x.f s=if l.any (λe=>Eg (bH c n x.f) e.x.f)=true then { oY c s (2*l.length) with ok:=s.ok&&decide (l.length<=tD) } else sJ c (pW n (bH c n x.f) (oY c s (2*l.length))):=by
  unfold bu;rw[gu,length_map,En.m_any l (λf=>Eg (bH c n x.f) f)]
 obtain⟨QP,hQP⟩:∃QP:Ending->World->Prop,QP=(λe w'=>e=.returned (.tuple #[])/\ik w S c c0 (.slice (some ⟨hB,0,none⟩) K.length hC) (.slice (some ⟨kB,0,none⟩) K.length kC) wv KV WV K x.bs (bu c n x.f s) w'):=⟨_,rfl⟩;rw[<-hQP];have HQ:Hid (∀(w':World),ik w S c c0 (.slice (some ⟨hB,0,none⟩) K.length hC) (.slice (some ⟨kB,0,none⟩) K.length kC) wv KV WV K x.bs (bu c n x.f s) w'->QP (.returned (.tuple #[])) w'):=ab (λw' hp=>by rw[hQP];exact⟨rfl,hp⟩);have J4:=ab agf;have H:=ab h;have HX:=ab hx;have HT:=ab hT;have HTG:=ab hTG;have HD:=ab hd;have HL:=ab hl;have YC:=ab AL;obtain⟨xA,xf,xav,xov⟩:=x;simp only at HX HT HTG J4 HQ hTG ⊢;have XL:(⟨xA,xf,xav,xov⟩:FE).bs=aG xA xav xov:=rfl;rw[XL]at HD HQ;have i1:(0:Int)<=(n:Int):=by omega
 have i2:(n:Int)<(K.length:Int):=by omega
 clear h hx hT hd hl AL agf agF gu bm vN hQP hTG XL;obtain⟨G,hG⟩:∃G,G=bH c n xf:=⟨_,rfl⟩;rw[<-hG]at HTG J4;cases hh:c.hd.getD n false
 focus
  rw[hh]at chd;have ze:G=xf:=by rw[hG];unfold bH;rw[if_neg (by rw[hh];decide)]
  have R6:Hid (Fm w xA G xav xov/\ar (aG xA xav xov) w (aG xA xav xov) w):=ab ⟨by rw[ze];exact uh HX,ar.refl _ _⟩;clear hG ze hh HX;go_enter func201,ntmps201;go_upto_region 3 with fail;obtain⟨W1,d7⟩:∃W1,W1=w:=⟨_,rfl⟩;have Yk:Hid (∃av1 ov1,Fm W1 xA G av1 ov1/\ar (aG xA xav xov) w (aG xA av1 ov1) W1):=ab ⟨xav,xov,by rw[d7];exact(uh R6).1,by rw[d7];exact(uh R6).2⟩;rw[<-d7];clear d7 R6
 rotate_left
 focus
  rw[hh]at chd;have ze:G=aQ (As xf):=by rw[hG];unfold bH;rw[if_pos hh]
  have G8:=ab (Ox (uh HX) (zq3 (uh HT).ok.owLen (by omega)));have Yl:Hid (aj (As xf)/\(As xf).ap=xf.ap):=ab (dp _ (uh HT).ok);clear hG hh;go_enter func201,ntmps201;go_wp2_with fail
  refine(uh G8).mono ?_;rintro e w0 ⟨rfl,ov0,FA,OW⟩;have Hc:=ab (lJ FA (uh Yl).1 (by rw[(uh Yl).2];exact zq3 (uh HT).ln (by omega)));have sP:=ab OW;clear FA OW G8 Yl;go_wp2_with fail
  refine(uh Hc).mono ?_;rintro e W1 ⟨rfl,av1,ov1,gf,bT⟩;have Yk:Hid (∃av1 ov1,Fm W1 xA G av1 ov1/\ar (aG xA xav xov) w (aG xA av1 ov1) W1):=ab ⟨av1,ov1,by rw[ze];exact gf,(uh sP).trans bT⟩;clear gf bT ze Hc sP HX;go_upto_region 3 with fail
 all_goals
  obtain⟨av1,ov1,gf,bT⟩:=uh Yk;have af3:∀k∈aG xA av1 ov1,(k ∉ cY S (.slice (some ⟨hB,0,none⟩) K.length hC) (.slice (some ⟨kB,0,none⟩) K.length kC) wv KV WV/\k ∉ er K)/\(k∈aG xA xav xov\/w.heap.size<=k):=λk hk=>by
   rcases bT.foot k hk with p|p
   .exact⟨uh HD k p,zq0 p⟩
   .exact⟨⟨λe=>by have:=(uh H).lt k e;omega,λe=>by have:=(uh H).drlt k e;omega⟩,zq1 p⟩
  have h1:=(uh H).stp bT (λk hk e=>(uh HD k e).1 hk) (λk hk e=>(uh HD k e).2 hk);have HDR:=ab (NP gf.is (uh HTG).ok);have aeX:=gf.lt;have H1:=ab (zq2 h1 (zq2 bT (zq2 af3 aeX)));clear gf bT af3 h1 Yk aeX;go_wp2_with fail
  refine(uh HDR).mono ?_;rintro e w2 ⟨D,rfl,hD2,aku,aW⟩;have h2:=(uh H1).1.below aW;have c3:=h2.bs.cell 3 rfl;obtain⟨kB',kC',qJ,ckc⟩:=h2.kc hn;simp only[Value.slice.injEq,Option.some.injEq,Addr.mk.injEq,and_true,true_and]at qJ;obtain⟨rfl,rfl⟩:=qJ;rw[uh YC]at ckc;obtain⟨q,hq⟩:∃q,q=2*l.length:=⟨_,rfl⟩;rw[<-hq]at J4;have hqw:IntKind.i64.wrap (2*(l.length:Int))=(q:Int):=by rw[IntKind.wrap_i64];omega
  have R9:=ab (Qa h2.bs q);have Cn:∀k∈D::aG xA av1 ov1,(k ∉ cY S (.slice (some ⟨hB,0,none⟩) K.length hC) (.slice (some ⟨kB,0,none⟩) K.length kC) wv KV WV/\k ∉ er K)/\(k∈aG xA xav xov\/w.heap.size<=k):=λk hk=>by
   rcases mem_cons.1 hk with p|p
   .have hz:=(uh H1).2.1.size;exact⟨⟨λe=>by have:=(uh H1).1.lt k e;omega,λe=>by have:=(uh H1).1.drlt k e;omega⟩,zq1 (by omega)⟩
   .exact(uh H1).2.2.1 k p
  have afU:ii w w2 (cY S (.slice (some ⟨hB,0,none⟩) K.length hC) (.slice (some ⟨kB,0,none⟩) K.length kC) wv KV WV) (cY S (.slice (some ⟨hB,0,none⟩) K.length hC) (.slice (some ⟨kB,0,none⟩) K.length kC) wv KV WV) (er K) (er K) (aG xA xav xov):=(ii.stp (uh H1).2.1 (λk hk=>zq1 hk)).trans (ii.below (X:=[]) aW) (λk hk=>by simp at hk);have H2:=ab (zq2 h2 (zq2 hD2 (zq2 Cn afU)));clear h2 hD2 aku aW Cn afU hq H1 HDR;go_wp2_with fail
  refine(uh R9).mono ?_;rintro e w3 ⟨rfl,Az,gi⟩;have h3:=(uh H2).1.own (s':=oY c s q) Az gi (λk hk=>zq0 (mem_singleton.1 hk)) rfl rfl;have Kz:=(uh H2).2.1.of_eq (λk hk=>gi.block k ((uh H2).2.1.lt k hk) (λe=>((uh H2).2.2.1 k hk).1.1 (by rw[mem_singleton]at e;rw[e];exact gN)));have afV:=(uh H2).2.2.2.trans (ii.stp (X:=[]) gi (λk hk=>zq0 (by rw[mem_singleton]at hk;rw[hk];exact gN))) (λk hk=>by simp at hk);have bp:=h3.ke n hn;rw[uh YC,<-uh HL]at bp;have hlK:l∈K:=by rw[uh HL,bF hn];exact getElem_mem hn
  have H3:=ab (zq2 h3 (zq2 Kz (zq2 (uh H2).2.2.1 afV)));have kh:=ab bp;have Yt:=ab hlK;have cF:Hid (Below w3.heap.size w3 w3/\∀i,i<0->∀e,l[i]?=some e->Eg G e.x.f=false):=ab ⟨Below.refl _ _,λi hi=>by omega⟩;clear h3 Kz afV bp hlK Az gi R9 H2 hqw c1 c3 ckc chd H HD HT;go_wp2_with fail
  go_loopg [39] l.length (λgn iv wx=>∃(k:Nat),k+gn=l.length/\iv=.int .i64 k/\Hid (Below w3.heap.size w3 wx/\∀i,i<k->∀e,l[i]?=some e->Eg G e.x.f=false))
  case atStart=>exact⟨0,by omega,rfl,cF⟩
  case round =>
   clear cF;obtain⟨k,gu,rfl,hI⟩:=hrel;obtain⟨G1,ze⟩:∃G1,G1=gk:=⟨_,rfl⟩;by_cases au:k<l.length
   .have hd:decide ((k:Int)<(l.length:Int))=true:=(by simp;omega);have j9:=eY (uh kh) (uh hI).1;obtain⟨g,cap,dE,-,-⟩:=b8 j9 (by omega);simp only[Value.slice.injEq,true_and]at dE;obtain⟨rfl,rfl⟩:=dE;obtain⟨x0,x1⟩:=mU j9 rfl au;have zi:=(uh H3).1.dr l (uh Yt) l[k] (getElem_mem au);have cW:l[k]?=some l[k]:=getElem?_eq_getElem au;obtain⟨e,Ml⟩:∃e,e=l[k]:=⟨_,rfl⟩;rw[<-Ml]at x0 x1 zi cW;obtain⟨W5,s7⟩:∃W5,W5=wr.alloc (.cells #[Value.pointer (some ⟨e.D,0,none⟩),.bool e.d] 258):=⟨_,rfl⟩;have ce:Below wr.heap.size wr W5:=(by rw[s7];exact ah wr _);have et:=(uh hI).1.trans (ce.mono (uh hI).1.size);have mZ:Bk W5 wr.heap.size 258 [Value.pointer (some ⟨e.D,0,none⟩),.bool e.d]:=(by rw[s7];exact Bk.new wr _ _);obtain⟨Y,xM⟩:∃Y,Y=wr.heap.size:=⟨_,rfl⟩;rw[<-xM]at mZ;have b0:=mZ.cell 0 rfl;have Tl:=ab (xF ((uh H3).2.1.below et) (zi.1.below et) (uh HTG) zi.2);have El:=ab cW;have lN:=ab et;have k1:(0:Int)<=(k:Int):=(by omega);have k2:(k:Int)<(l.length:Int):=(by omega);clear j9 zi cW Ml ce mZ et;go_upto_region 9 with fail;rw[<-s7,<-xM];clear s7 xM x0 x1;go_wp2_with fail
    refine(uh Tl).mono ?_;rintro e6 w6 ⟨rfl,kS⟩;have xY:=ab ((uh lN).trans (kS.mono (uh lN).size));clear kS Tl lN b0;cases IL:Eg G e.x.f
    .go_wp2_with fail
     go_roundg (G1-1)
     case rel=>exact⟨k+1,by omega,by go_num,ab ⟨uh xY,λi hi y hy=>by
      by_cases e':i=k
      .rw[e',uh El]at hy;injection hy with hy;rw[<-hy];exact IL
      .exact(uh hI).2 i (by omega) y hy⟩⟩
     case measure=>omega
    .have qG:l.any (λe=>Eg G e.x.f)=true:=(by rw[any_eq_true];exact⟨e,mem_of_getElem? (uh El),IL⟩);have HP:Hid (ik w S c c0 (.slice (some ⟨hB,0,none⟩) K.length hC) (.slice (some ⟨kB,0,none⟩) K.length kC) wv KV WV K (aG xA xav xov) (bu c n xf s) w6):=ab (by
      rw[uh J4,if_pos qG];exact⟨KV,K,((uh H3).1.below (uh xY)).as rfl rfl rfl rfl rfl,rfl,(uh H3).2.2.2.trans (ii.below (X:=[]) (uh xY)) (λk hk=>by simp at hk)⟩)
     clear IL qG hI;go_wp2_with fail
     go_end0
     exact uh HQ _ (uh HP)
   .have hd:decide ((k:Int)<(l.length:Int))=false:=(by simp;omega);have qG:l.any (λe=>Eg G e.x.f)=false:=by
     rw[any_eq_false];intro e he;obtain⟨i,hi,rfl⟩:=mem_iff_getElem.1 he;rw[(uh hI).2 i (by omega) _ (getElem?_eq_getElem hi)];simp
    have Pq:=uh J4;rw[qG,if_neg (by decide)]at Pq;have adW:=ab Pq;obtain⟨w4,SJ⟩:∃w4,w4=wr:=⟨_,rfl⟩;rw[<-SJ]at hI ⊢;have nU:=(uh hI).1;have Dt:=eY (uh kh) nU;have h4:=(uh H3).1.below nU;have HRS:Hid (∀k,(Value.slice va l.length vc).ownBlock=some k->k∈cY S (.slice (some ⟨hB,0,none⟩) K.length hC) (.slice (some ⟨kB,0,none⟩) K.length kC) wv KV WV):=ab (λk hk=>bP ((yx (by rw[h4.kvl];exact hn)).trans (by rw[uh YC];exact congrArg some hk)));have H4:=ab (zq2 h4 (zq2 ((uh H3).2.1.below nU) (zq2 (uh H3).2.2.1 ((uh H3).2.2.2.trans (ii.below (X:=[]) nU) (λk hk=>by simp at hk)))));have oO:=ab Dt;clear qG Pq SJ nU Dt h4 hI H3 kh J4 ze;go_wp2_with fail
    go_loopg [10,11] l.length (λgn jv iv wx=>∃(i:Nat) (cur:List En),i+gn=l.length/\iv=.int .i64 i/\jv=.int .i64 (((l.take i).filter (λe=>!Eg e.x.f G)).length:Nat)/\Hid (wx.ownsRow 0 258 2 (.slice va l.length vc) l.length (rF cur)/\cur.length=l.length/\cur.take ((l.take i).filter (λe=>!Eg e.x.f G)).length=(l.take i).filter (λe=>!Eg e.x.f G)/\cur.drop i=l.drop i/\ar (Value.slice va l.length vc).ownBlock.toList w4 (Value.slice va l.length vc).ownBlock.toList wx))
    case atStart=>exact⟨0,l,by omega,rfl,rfl,ab ⟨uh oO,rfl,by simp,rfl,ar.refl _ _⟩⟩
    case round =>
     clear oO;obtain⟨i,cur,uo,rfl,rfl,hJ⟩:=hrel;obtain⟨G2,FB⟩:∃G2,G2=gk:=⟨_,rfl⟩;have ju:((l.take i).filter (λe=>!Eg e.x.f G)).length<=i:=zq3 (length_filter_le _ _) (by rw[length_take];omega);have Ui:=(uh H4).2.1.of_eq (λk hk=>(uh hJ).2.2.2.2.block k ((uh H4).2.1.lt k hk) (λe=>((uh H4).2.2.1 k hk).1.1 (uh HRS k (by simpa using e))));by_cases b7:i<l.length
     .have kY:decide ((i:Int)<(l.length:Int))=true:=(by simp;omega);obtain⟨g,cap,dE,-,-⟩:=b8 (uh hJ).1 (by omega);simp only[Value.slice.injEq,true_and]at dE;obtain⟨rfl,rfl⟩:=dE;have dT:=(uh hJ).2.1;obtain⟨x0,x1⟩:=mU (uh hJ).1 dT.symm b7;have hci:cur[i]'(by omega)=l[i]:=by
       have h1:=congrArg (λm:List En=>m[0]?) (uh hJ).2.2.2.1;simp only[getElem?_drop,Nat.add_zero]at h1;rw[getElem?_eq_getElem b7,getElem?_eq_getElem (by omega)]at h1;injection h1
      have aP:=Ij (P:=λe=>!Eg e.x.f G) b7;have zi:=(uh H4).1.dr l (uh Yt) l[i] (getElem_mem b7);have mI:∀k∈l[i].bs,k∈er K:=λk hk=>bB.2 ⟨l,uh Yt,l[i],getElem_mem b7,hk⟩;rw[hci]at x0 x1;obtain⟨e,Ml⟩:∃e,e=l[i]:=⟨_,rfl⟩;obtain⟨M,hM⟩:∃M,M=(l.take i).filter (λe=>!Eg e.x.f G):=⟨_,rfl⟩;rw[<-Ml]at x0 x1 zi mI aP;rw[<-hM]at aP ju hJ ⊢;have afM:=zi.1.of_eq (λk hk=>(uh hJ).2.2.2.2.block k (zi.1.lt k hk) (λe'=>(uh H4).1.da k (mI k hk) (uh HRS k (by simpa using e'))));have Tl:=ab (xF afM Ui zi.2 (uh HTG));have nX:cur.drop (i+1)=l.drop (i+1):=by
       have h1:=congrArg (λm=>m.drop 1) (uh hJ).2.2.2.1;simpa[drop_drop,Nat.add_comm] using h1
      have dh:=ab aP;have S4:=ab nX;have HJ:=ab (uh hJ);have xH:=ab dT;have k1:(0:Int)<=(i:Int):=(by omega);have k2:(i:Int)<(l.length:Int):=(by omega);have k3:(M.length:Int)<(l.length:Int):=(by omega);have k4:(0:Int)<=(M.length:Int):=(by omega);have ZM:M.length<l.length:=(by omega);clear hci aP zi mI Ml hM afM nX dT hJ Ui;cases IL:Eg e.x.f G
      .rw[IL]at Tl;have MS:Hid ((l.take (i+1)).filter (λe=>!Eg e.x.f G)=M++[e]):=ab (by rw[uh dh,if_pos (by rw[IL];rfl)]);clear IL dh;go_wp2_with fail
       refine(uh Tl).mono ?_;rintro e6 w6 ⟨rfl,kS⟩;have hr6:=eY (uh HJ).1 kS;have y0:=(kS.cell (block_lt_of_cell? wr _ x0)).trans x0;have y1:=(kS.cell (block_lt_of_cell? wr _ x1)).trans x1;obtain⟨r6,⟨⟨u0,z0⟩,⟨u1,z1⟩⟩,f0,f1⟩:=amF hr6 (uh xH).symm (i:=M.length) (by omega) e;have Du:=(((uh HJ).2.2.2.2.trans (ar.ofBw kS)).setCell (p:=⟨g,M.length*2,none⟩) (zq0 (by simp[Value.ownBlock])) (.pointer (some ⟨e.D,0,none⟩))).setCell (p:=⟨g,M.length*2+1,none⟩) (zq0 (by simp[Value.ownBlock])) (.bool e.d);have sl:(cur.set M.length e).length=l.length/\(cur.set M.length e).take (M++[e]).length=M++[e]/\(cur.set M.length e).drop (i+1)=l.drop (i+1):=by
        refine⟨by rw[length_set];exact uh xH,?_,?_⟩
        .have h1:=(uh HJ).2.2.1;rw[length_append,length_singleton,take_add_one,getElem?_set_self (by rw[uh xH];exact ZM),take_set_of_le (zq4 _),h1];rfl
        .rw[drop_set_of_lt (by omega)];exact uh S4
       have HN:=ab (zq2 r6 (zq2 sl.1 (zq2 sl.2.1 (zq2 sl.2.2 Du))));clear hr6 r6 Du sl kS Tl HJ S4 xH x0 x1;go_wp2_with fail
       go_roundg (G2-1)
       case rel=>exact⟨i+1,_,by omega,by go_num,by rw[uh MS,length_append,length_singleton];go_num,by rw[uh MS];exact HN⟩
       case measure=>omega
      .rw[IL]at Tl;have MS:Hid ((l.take (i+1)).filter (λe=>!Eg e.x.f G)=M):=ab (by rw[uh dh,if_neg (by rw[IL];decide),append_nil]);clear IL dh;go_wp2_with fail
       refine(uh Tl).mono ?_;rintro e6 w6 ⟨rfl,kS⟩;have HN:=ab (zq2 (eY (uh HJ).1 kS) (zq2 (uh xH) (zq2 (uh HJ).2.2.1 (zq2 (uh S4) ((uh HJ).2.2.2.2.trans (ar.ofBw kS))))));clear kS Tl HJ S4 xH x0 x1;go_wp2_with fail
       go_roundg (G2-1)
       case rel=>exact⟨i+1,cur,by omega,by go_num,by rw[uh MS],by rw[uh MS];exact HN⟩
       case measure=>omega
     .have kY:decide ((i:Int)<(l.length:Int))=false:=(by simp;omega);have KU:l.take i=l:=take_of_length_le (by omega);rw[KU]at hJ ju ⊢;obtain⟨M,hM⟩:∃M,M=l.filter (λe=>!Eg e.x.f G):=⟨_,rfl⟩;rw[<-hM]at hJ ju ⊢;have ZM:M.length<=l.length:=(by omega);have HRT:Hid (wr.ownsRow 0 258 2 (.slice va M.length vc) M.length (rF M)):=ab (by
       have h1:=DO (uh hJ).1 ZM;rw[NZ,(uh hJ).2.2.1]at h1;exact h1)
      have q1:(0:Int)<=(M.length:Int):=(by omega);have q2:(M.length:Int)<=(vc:Int):=(by omega);have HJ:=ab (zq2 (uh hJ).2.2.2.2 Ui);have HM:=ab hM;clear KU hJ ju hM Ui;go_wp2_with (at_builtin;refine tz _ rfl (.tmp 74) (.tmp 77) 255 rfl 0 258 i0 _ 2 16 underlying255 lr gX gy gK rfl (by decide) _ M.length (rF M) rfl ((uh HRT).alloc _) ⟨_,0,none⟩ 1 [.pointer (some ⟨D,0,none⟩),.bool false] rfl rfl (aN _ _ (by simp) [.pointer (some ⟨D,0,none⟩),.bool false] _) (En.one ⟨D,⟨xA,G,av1,ov1⟩,false⟩) (by omega) (by omega) (zq5 _) ?_)
      intro g7 cap7 w7 iK dM gh;have hrw:(KV.getD n aJ).ownBlock=(Value.slice va M.length vc).ownBlock:=(by rw[uh YC];exact Qu _ _ _ _ _);have tf:(Value.slice va l.length vc).ownBlock=(Value.slice va M.length vc).ownBlock:=Qu _ _ _ _ _;have UN:=(uh HJ).1;rw[tf]at UN;obtain⟨afD,aai⟩:=Vd (uh H4).1 hn hrw UN dM;have c3:=afD.cell 3 rfl;have arD:=(uh H4).1.kvl;have ck:=aai.cellAt n (by omega);have hnk:n<KV.length:=(by omega);rw[getElem?_eq_getElem hnk]at ck;have zk:=aai.frozenAt n;have afL:=Vc (uh H4).1 hn hrw (uh HJ).2 (uh HTG) UN (λk hk=>((uh H4).2.2.1 k hk).1.1) (g1:=g7) (c1:=cap7) (by rw[<-uh HL,<-uh HM];exact iK) dM (by simpa using gh);rw[<-uh HL,<-uh HM]at afL;obtain⟨KV',K',C5,hK8,II,hd8⟩:=afL;have L5:=ab (zO C5.bs);have H8:=ab (zq2 C5 (zq2 hK8 (zq2 II hd8)));clear iK dM gh hrw tf UN afD aai C5 hK8 II hd8 HRT HJ;go_wp2_with fail
      refine(uh L5).mono ?_;rintro e w9 ⟨rfl,O0,hs9⟩;have h9:=(uh H8).1.own (s':=sJ c (pW n G (oY c s q))) O0 hs9 (λk hk=>zq0 (mem_singleton.1 hk)) rfl rfl;have hP:ik w S c c0 (.slice (some ⟨hB,0,none⟩) K.length hC) (.slice (some ⟨kB,0,none⟩) K.length kC) wv KV WV K (aG xA xav xov) (bu c n xf s) w9:=by
       rw[uh adW];refine⟨KV',K',h9,(uh H8).2.1,?_⟩;have g4:=(uh H4).2.2.2;have g8:ii w4 _ (cY S (.slice (some ⟨hB,0,none⟩) K.length hC) (.slice (some ⟨kB,0,none⟩) K.length kC) wv KV WV) (cY S (.slice (some ⟨hB,0,none⟩) K.length hC) (.slice (some ⟨kB,0,none⟩) K.length kC) wv KV' WV) (er K) (er K') (D::aG xA av1 ov1):=⟨(uh H8).2.2.1.wider (λk hk=>mem_append_left _ hk) (λk hk=>zq0 hk),λk hk=>((uh H8).2.2.2 k hk).elim zq0 (λp=>zq1 (zq0 p))⟩;exact(g4.trans g8 (λk hk=>((uh H4).2.2.1 k hk).2)).trans (ii.stp (X:=[]) hs9 (λk hk=>zq0 (by rw[mem_singleton]at hk;rw[hk];exact gN))) (λk hk=>by simp at hk)
      have HP:=ab hP;clear O0 hs9 h9 hP L5 H8;go_wp2_with fail
      go_end0
      exact uh HQ _ (uh HP)
end
structure Pn(W:World)(v:Value)(L:List FE)(j:Nat)(F D:List Nat):Prop where
 pe:gm W 0 v L j
 td:∀x∈L,Td x.f
 fd:∀k∈mX v L j,k ∉ F/\k ∉ D
theorem Pn.next{W W':World}{v:Value}{L:List FE}{j:Nat}{F F' D D':List Nat}(h:Pn W v L j F D)(hj:j<L.length)(hg:ii W W' F F' D D' L[j].bs):Pn W' v L (j+1) F' D':=by
 obtain⟨-,-,h3,h4,-⟩:=h.pe.next hj;refine⟨h3.stp hg.st (λk hk hn=>?_),h.td,λk hk=>⟨λhn=>?_,λhn=>?_⟩⟩
 .rcases mem_append.1 hn with p|p
  .exact(h.fd k (h4 k hk).1).1 p
  .exact(h4 k hk).2 p
 .rcases hg.st.foot k hn with p|p
  .rcases mem_append.1 p with p|p
   .exact(h.fd k (h4 k hk).1).1 p
   .exact(h4 k hk).2 p
  .have:=h3.lt k hk;omega
 .rcases hg.dr k hn with p|p|p
  .exact(h.fd k (h4 k hk).1).2 p
  .exact(h4 k hk).2 p
  .have:=h3.lt k hk;omega
section
variable {w w':World} {S:Nat} {c:Cd} {c0 hv kv wv:Value} {KV WV:List Value} {K:List (List En)} {s:Sr} {x:FE}
theorem Sh.wc(h:Sh w S c c0 hv kv wv KV WV K s){n:Nat}(hn:n<K.length):∃g cap g2 cap2,wv=.slice (some ⟨g,0,none⟩) K.length cap/\WV.getD n aJ=.slice (some ⟨g2,0,none⟩) 5 cap2/\w.cell? ⟨g,n,none⟩=some (.slice (some ⟨g2,0,none⟩) 5 cap2)/\(∀t,t<5->w.cell? ⟨g2,t,none⟩=some (.bool ((s.wr.getD n []).getD t false)))/\∀t,w.frozen? ⟨g2,t,none⟩=false:=by
 obtain⟨g,cap,hv,-,-,-⟩:=b8 h.wr (by omega);have h2:=h.we n hn;obtain⟨g2,cap2,AJ,-,-,-⟩:=b8 h2 (by omega);have hwl:=h.wvl;rw[AJ]at h2;refine⟨g,cap,g2,cap2,hv,AJ,?_,λt ht=>?_,λt=>h2.frozenAt t⟩
 .have:=h.wr;rw[hv]at this;rw[this.cellAt n (by omega),getElem?_eq_getElem (by omega),<-bF (d:=aJ) (by omega),AJ]
 .rw[h2.cellAt t (by omega)];have h5:(s.wr.getD n []).length=5:=by
   have:=h2.1;unfold dl at this;rw[length_map]at this;omega
  exact fP (by omega)
theorem ik.pre{X:List Nat}{s':Sr}{w1 w2:World}(h:ik w1 S c c0 hv kv wv KV WV K X s' w2)(hb:Below w.heap.size w w1):ik w S c c0 hv kv wv KV WV K X s' w2:=by
 obtain⟨KV',K',h1,h2,h3⟩:=h;exact⟨KV',K',h1,h2,(ii.below (X:=X) hb).trans h3 (λk hk=>zq0 hk)⟩
theorem rO(h:Sh w S c c0 hv kv wv KV WV K s)(hx:Fm w x.A x.f x.av x.ov)(hT:Td x.f)(hd:∀k∈x.bs,k ∉ cY S hv kv wv KV WV/\k ∉ er K){a n:Nat}(ha:a<K.length)(hn:n<K.length)(ye:K.length<=100000){fuel:Nat}(bm:(dU c fuel a n x.f s).ok=true):
  Calls prog 172 #[.pointer (some ⟨S,0,none⟩),.int .i64 a,.int .i64 n,.pointer (some ⟨x.A,0,none⟩)] w λe w'=>e=.returned (.tuple #[])/\ik w S c c0 hv kv wv KV WV K x.bs (dU c fuel a n x.f s) w':=by
 have c2:=h.bs.cell 2 rfl;have yE:Hid (∀w1,Below w.heap.size w w1->(bu c n x.f s).ok=true->Calls prog 201 #[.pointer (some ⟨S,0,none⟩),.int .i64 n,.pointer (some ⟨x.A,0,none⟩)] w1 λe w'=>e=.returned (.tuple #[])/\ik w S c c0 hv kv wv KV WV K x.bs (bu c n x.f s) w'):=ab (λw1 hb ho=>(P2 (h.below hb) (hx.below hb) hT hd hn ye ho).mono (λe w' hp=>⟨hp.1,hp.2.pre hb⟩));cases zj:c.lp
 .have e:dU c fuel a n x.f s=bu c n x.f s:=by unfold dU;rw[if_pos (zq0 zj)]
  rw[e]at bm ⊢;rw[zj]at c2;have HL:=ab (uh yE w (Below.refl _ _) bm);clear h hx hT hd zj e yE;go_enter func172,ntmps172;go_wp2_with fail
  refine(uh HL).mono ?_;rintro e w1 ⟨rfl,hp⟩;have HP:=ab hp;clear hp HL;go_wp2_with fail
  refine bodyPost_ret (results_none rfl _ _ _) rfl ?_;exact⟨rfl,uh HP⟩
 .rw[zj]at c2;have B4:=ab (wm hx.is hT.ok);by_cases jN:dc x.f=[]
  .have e:dU c fuel a n x.f s=bu c n x.f s:=(by unfold dU;rw[if_pos (zq1 jN)]);rw[e]at bm ⊢;have hl0:(((dc x.f).length:Int)==(0:Int))=true:=(by rw[jN];rfl);have mq:=ab bm;clear h hx hT hd zj e jN bm;go_enter func172,ntmps172;go_wp2_with fail
   refine(uh B4).mono ?_;rintro e w1 ⟨lv,rfl,tI,bz⟩;obtain⟨la,lc,it,-,-⟩:=am tI;subst it;have HL:=ab (uh yE w1 bz (uh mq));clear tI bz yE B4;go_wp2_with fail
   refine(uh HL).mono ?_;rintro e w2 ⟨rfl,hp⟩;have HP:=ab hp;clear hp HL;go_wp2_with fail
   refine bodyPost_ret (results_none rfl _ _ _) rfl ?_;exact⟨rfl,uh HP⟩
  .have hl0:(((dc x.f).length:Int)==(0:Int))=false:=by
    have:(dc x.f).length≠0:=λe=>jN (length_eq_zero_iff.1 e);simp;omega
   obtain⟨R,hR⟩:∃R,R=ip c fuel 0 [] ([x.f],kO a 2 s):=⟨_,rfl⟩;have e:dU c fuel a n x.f s=R.1.foldl (λs g=>bu c n g s) R.2:=(by unfold dU;rw[if_neg (by rw[not_or];exact⟨by rw[zj];decide,jN⟩),hR]);rw[e]at bm ⊢;have afl:R.2.ok=true:=jw _ bm;have hRk:R.2.kn=s.kn/\R.2.wr=(kO a 2 s).wr:=by
    have h1:bV [x.f]:=λy hy=>by rw[mem_singleton]at hy;subst hy;exact hT
    obtain⟨-,g2,g3⟩:=kQ (c:=c) fuel 0 (r:=([x.f],kO a 2 s)) (res:=[]) h1 (λy hy=>by simp at hy);rw[<-hR]at g2 g3;exact⟨g2,g3⟩
   have KF:R.2.lo=s.lo:=(by rw[hR];exact Oc fuel 0 [] ([x.f],kO a 2 s));obtain⟨wB,wC,gA,cA,SK,Uv,cw,ct,hz⟩:=h.wc ha;subst SK;have c4:=h.bs.cell 4 rfl;have ct2:=ct 2 (by omega);have gK:=hz 2;have vM:=h.bad ha (t:=2) (by omega) Uv;have H:=ab h;have HX:=ab hx;have HT:=ab hT;have HD:=ab hd;have HR:=ab hR;have WI:=ab (zq2 afl (zq2 hRk KF));have mq:=ab bm;have Yf:=ab (zq2 Uv vM);have i1:(0:Int)<=(a:Int):=(by omega);have i2:(a:Int)<(K.length:Int):=(by omega);obtain⟨eH,dK⟩:∃eH:World->Prop,eH=λw'=>ik w S c c0 hv kv (.slice (some ⟨wB,0,none⟩) K.length wC) KV WV K x.bs (R.1.foldl (λs g=>bu c n g s) R.2) w':=⟨_,rfl⟩;have gC:=ab dK;rw[show(fun(e:Ending) (w':World)=>e=.returned (.tuple #[])/\ik w S c c0 hv kv (.slice (some ⟨wB,0,none⟩) K.length wC) KV WV K x.bs (R.1.foldl (λs g=>bu c n g s) R.2) w')=(λe w'=>e=.returned (.tuple #[])/\eH w') by rw[dK]];clear h hx hT hd zj e jN bm yE hR afl hRk KF Uv vM ct hz dK;go_enter func172,ntmps172;go_wp2_with fail
   refine(uh B4).mono ?_;rintro e w1 ⟨lv,rfl,tI,bz⟩;obtain⟨la,lc,it,-,-⟩:=am tI;subst it;have h1:=(uh H).below bz;obtain⟨aW,xQ⟩:=h1.bad ha (t:=2) (by omega) (uh Yf).1;have d4:=h1.bs.cell 4 rfl;have dw:=(bz.cell (block_lt_of_cell? w _ cw)).trans cw;have dt:=(bz.cell (block_lt_of_cell? w _ ct2)).trans ct2;have hlA:=block_lt_of_cell? w _ ct2;have dz:w1.frozen? ⟨gA,2,none⟩=false:=by
    have h5:=h1.we a ha;rw[(uh Yf).1]at h5;exact h5.frozenAt 2
   have pU:=((uh HX).below bz).of_eq (w':=w1.setCell ⟨gA,2,none⟩ (.bool true)) (λk hk=>heap_setCell _ _ _ _ (λe=>(uh HD k hk).1 (by rw[show k=gA from e];exact xQ)));have LV:=ab (CV (c:=c) (s:=kO a 2 s) (x:=x) (B:=0) aW.bs pU (uh HT) (λq _=>zq5 _) (λe=>(uh HD S e).1 gN) (zq5 _) fuel (by rw[<-uh HR];exact(uh WI).1));rw[<-uh HR]at LV;have Pb:ii w (w1.setCell ⟨gA,2,none⟩ (.bool true)) (cY S hv kv (.slice (some ⟨wB,0,none⟩) K.length wC) KV WV) (cY S hv kv (.slice (some ⟨wB,0,none⟩) K.length wC) KV WV) (er K) (er K) x.bs:=(ii.below (X:=x.bs) bz).trans (ii.stp (X:=[]) ((ar.refl [gA] w1).setCell (p:=⟨gA,2,none⟩) (zq0 (by simp)) (.bool true)) (λk hk=>zq0 (by rw[mem_singleton]at hk;rw[hk];exact xQ))) (λk hk=>by simp at hk);have H2:=ab (zq2 aW (zq2 Pb pU));clear tI bz h1 aW xQ pU hlA Pb B4 Yf c4 ct2 cw gK c2;go_wp2_with fail
   refine(uh LV).mono ?_;rintro e w3 ⟨v3,L3,rfl,m7,agP,XA,Az,cR,gi⟩;obtain⟨va,vc,AL,-,-⟩:=am m7.row;subst AL;have h3:=(uh H2).1.own (s':=R.2) (by rw[(uh WI).2.2];exact Az) gi (λk hk=>by
    rcases mem_cons.1 hk with p|p
    .exact zq0 p
    .exact zq1 (uh HD k p)) (uh WI).2.1.1 (uh WI).2.1.2
   have hg3:=(uh H2).2.1.trans (ii.stp (X:=x.bs) gi (λk hk=>by
    rcases mem_cons.1 hk with p|p
    .exact zq0 (by rw[p];exact gN)
    .exact zq1 p)) (λk hk=>zq0 hk)
   have aag:∀k∈be (.slice va L3.length vc) L3,k∈x.bs\/w.heap.size<=k:=λk hk=>by
    rcases gi.foot k (mem_cons_of_mem _ hk) with p|p
    .rcases mem_cons.1 p with p|p
     .exact absurd (by rw[<-p];exact hk) cR
     .exact zq0 p
    .exact zq1 (zq3 (uh H2).2.1.st.size p)
   have Ck:Pn w3 (.slice va L3.length vc) L3 0 (cY S hv kv (.slice (some ⟨wB,0,none⟩) K.length wC) KV WV) (er K):=⟨m7.pend,agP,λk hk=>by
    have mK:k∈be (.slice va L3.length vc) L3:=(by simpa[mX,be] using hk);rcases aag k mK with p|p
    .exact uh HD k p
    .exact⟨λe=>by have:=(uh H).lt k e;omega,λe=>by have:=(uh H).drlt k e;omega⟩⟩
   have fj:((L3.drop 0).map (·.f)).foldl (λs g=>bu c n g s) R.2=R.1.foldl (λs g=>bu c n g s) R.2:=(by rw[drop_zero,XA]);have ajF:=ab aag;have aqY:L3.length<=9223372036854775807:=by
    obtain⟨a1,c1,e1,e2,e3⟩:=am m7.row;omega
   have cF:=ab (zq2 h3 (zq2 hg3 (zq2 Ck fj)));clear m7 agP XA Az cR gi h3 hg3 aag Ck fj H2 LV;go_wp2_with fail
   go_loopg [37] L3.length (λgn iv wx=>∃(j:Nat) (KV':List Value) (K':List (List En)) (s':Sr),j+gn=L3.length/\iv=.int .i64 j/\Hid (Sh wx S c c0 hv kv (.slice (some ⟨wB,0,none⟩) K.length wC) KV' WV K' s'/\K'.length=K.length/\ii w wx (cY S hv kv (.slice (some ⟨wB,0,none⟩) K.length wC) KV WV) (cY S hv kv (.slice (some ⟨wB,0,none⟩) K.length wC) KV' WV) (er K) (er K') x.bs/\Pn wx (.slice va L3.length vc) L3 j (cY S hv kv (.slice (some ⟨wB,0,none⟩) K.length wC) KV' WV) (er K')/\((L3.drop j).map (·.f)).foldl (λs g=>bu c n g s) s'=R.1.foldl (λs g=>bu c n g s) R.2))
   case atStart=>exact⟨0,KV,K,R.2,by omega,rfl,ab ⟨(uh cF).1,rfl,(uh cF).2⟩⟩
   case round =>
    clear cF;obtain⟨j,KV',K',s',Co,rfl,hI⟩:=hrel;obtain⟨G1,ze⟩:∃G1,G1=gk:=⟨_,rfl⟩;by_cases au:j<L3.length
    .have kY:decide ((j:Int)<(L3.length:Int))=true:=(by simp;omega);obtain⟨h1,h2,h3,h4,h5⟩:=uh hI;obtain⟨g2,cap2,db,ax⟩:=h4.pe.cell au;simp only[Value.slice.injEq,true_and]at db;obtain⟨rfl,rfl⟩:=db;obtain⟨n1,-,-,-,n5⟩:=h4.pe.next au;have PM:=h4.td _ (getElem_mem au);have O7:∀k∈L3[j].bs,k ∉ cY S hv kv (.slice (some ⟨wB,0,none⟩) K.length wC) KV' WV/\k ∉ er K':=λk hk=>h4.fd k (n5 k hk);have nX:L3.drop j=L3[j]::L3.drop (j+1):=drop_eq_getElem_cons au;rw[nX,map_cons,foldl_cons]at h5;have qL:(bu c n L3[j].f s').ok=true:=jw _ (by rw[h5];exact uh mq);have vX:∀w' tC K2,ii wr w' (cY S hv kv (.slice (some ⟨wB,0,none⟩) K.length wC) KV' WV) (cY S hv kv (.slice (some ⟨wB,0,none⟩) K.length wC) tC WV) (er K') (er K2) L3[j].bs->Pn w' (.slice (some ⟨g2,0,none⟩) L3.length vc) L3 (j+1) (cY S hv kv (.slice (some ⟨wB,0,none⟩) K.length wC) tC WV) (er K2)/\ii w w' (cY S hv kv (.slice (some ⟨wB,0,none⟩) K.length wC) KV WV) (cY S hv kv (.slice (some ⟨wB,0,none⟩) K.length wC) tC WV) (er K) (er K2) x.bs:=λw' tC K2 hg=>⟨h4.next au hg,h3.trans hg (λk hk=>uh ajF k (mem_append_right _ (mem_flatMap.2 ⟨_,getElem_mem au,hk⟩)))⟩;obtain⟨y,hy⟩:∃y,y=L3[j]:=⟨_,rfl⟩;rw[<-hy]at ax n1 PM O7 h5 qL vX;have IN:y.p=.pointer (some ⟨y.A,0,none⟩):=rfl;rw[IN]at ax;have HLJ:=ab (P2 h1 n1 PM O7 (n:=n) (by omega) (by omega) qL);have qn:=ab (zq2 vX (zq2 h2 h5));have k1:(0:Int)<=(j:Int):=(by omega);have k2:(j:Int)<(L3.length:Int):=(by omega);clear h1 h2 h3 h4 h5 n1 n5 PM O7 nX qL vX hy IN hI;go_wp2_with fail
     refine(uh HLJ).mono ?_;rintro e w5 ⟨rfl,tC,K2,g1,g2',g3⟩;obtain⟨p1,p2⟩:=(uh qn).1 w5 tC K2 g3;have HN:=ab (zq2 g1 (zq2 (g2'.trans (uh qn).2.1) (zq2 p2 (zq2 p1 (uh qn).2.2))));clear g1 g2' g3 p1 p2 HLJ qn;go_wp2_with fail
     go_roundg (G1-1)
     case rel=>exact⟨j+1,tC,K2,_,by omega,by go_num,HN⟩
     case measure=>omega
    .have kY:decide ((j:Int)<(L3.length:Int))=false:=(by simp;omega);have hP:eH wr:=by
      obtain⟨h1,h2,h3,h4,h5⟩:=uh hI;rw[drop_eq_nil_of_le (by omega)]at h5;rw[uh gC];refine⟨KV',K',?_,h2,h3⟩;rw[<-h5];exact h1
     have HP:=ab hP;clear hP hI;go_wp2_with fail
     go_end0
     exact⟨rfl,uh HP⟩
end
def abv(A:Nat):Value:=.pointer (some ⟨A,0,none⟩)
structure Cp(w:World)(Q:Nat)(ws:List ByteArray)(s:PS)(al:List ci)(vv pv nv:Value):Prop where
 bk:Bk w Q 105 [.string ⟨(jn ws).toArray⟩,vv,pv,nv]
 vr:w.ownsRow 0 5 1 vv s.vars.length (bc s.vars)
 pr:w.ownsRow 0 239 5 pv al.length (bN al)
 nr:w.ownsRow 0 186 6 nv s.nodes.length (bh s.nodes)
def Cb(Q:Nat)(vv pv nv:Value):List Nat:=Q::(vv.ownBlock.toList++(pv.ownBlock.toList++nv.ownBlock.toList))
section
variable {w w':World} {Q:Nat} {ws:List ByteArray} {s:PS} {al:List ci} {vv pv nv:Value}
theorem Cp.of_eq(h:Cp w Q ws s al vv pv nv)(he:∀k∈Cb Q vv pv nv,w'.heap[k]?=w.heap[k]?):Cp w' Q ws s al vv pv nv :=
 ⟨h.bk.of_eq (he Q (by simp[Cb])),ae h.vr (λk hk=>he k (by simp[Cb,hk])),ae h.pr (λk hk=>he k (by simp[Cb,hk])),ae h.nr (λk hk=>he k (by simp[Cb,hk]))⟩
theorem Cp.lt(h:Cp w Q ws s al vv pv nv):∀k∈Cb Q vv pv nv,k<w.heap.size:=by
 intro k hk;simp only[Cb,mem_cons,mem_append,Option.mem_toList]at hk;rcases hk with rfl|hk|hk|hk
 .exact h.bk.lt
 .exact(h.vr.lt k hk).2
 .exact(h.pr.lt k hk).2
 .exact(h.nr.lt k hk).2
theorem Cp.below(h:Cp w Q ws s al vv pv nv)(hb:Below w.heap.size w w'):Cp w' Q ws s al vv pv nv:=h.of_eq (λk hk=>hb.block k (h.lt k hk))
end
theorem YG.cp{B:Nat}{w:World}{Q:Nat}{ws:List ByteArray}{s:PS}{al:List ci}(h:YG B w Q ws s al):∃vv pv nv,Cp w Q ws s al vv pv nv/\∀k∈Cb Q vv pv nv,B<=k:=by
 obtain⟨vv,pv,nv,h0,hB,h1,h2,h3⟩:=h;refine⟨vv,pv,nv,⟨h0,dY h1 (zq5 _),dY h2 (zq5 _),dY h3 (zq5 _)⟩,λk hk=>?_⟩;simp only[Cb,mem_cons,mem_append,Option.mem_toList]at hk;rcases hk with rfl|hk|hk|hk
 .exact hB
 .exact(h1.lt k hk).1
 .exact(h2.lt k hk).1
 .exact(h3.lt k hk).1
def ndA(nds:List Nd)(n:Nat):Nd:=nds.getD n ⟨0,0,0,0,0,0⟩
theorem Qo{l:List Nd}{k:Nat}(h:k<l.length):∀j,j<6->(bh l)[k*6+j]?=l[k].cells[j]?:=by
 induction l generalizing k with
 |nil=>simp at h
 |cons x l ih =>
  have hx:bh (x::l)=x.cells++bh l:=rfl;have hl:x.cells.length=6:=rfl;intro j hj;cases k with
  |zero=>rw[hx,getElem?_append_left (by omega)];simp
  |succ k =>
   rw[hx,getElem?_append_right (by omega),hl,show(k+1)*6+j-6=k*6+j by omega,ih (by simpa using h) j hj];rfl
theorem YW{w:World}{Q:Nat}{ws:List ByteArray}{s:PS}{al:List ci}{vv pv nv:Value}(n:Nat)(h:Cp w Q ws s al vv pv nv)(hl:s.nodes.length<=100000):
  Calls prog 103 #[.pointer (some ⟨Q,0,none⟩),.int .i64 n] w λe w'=>e=.returned (.agg (ndA s.nodes n).cells.toArray)/\Below w.heap.size w w':=by
 have c3:=h.bk.cell 3 rfl;have hQ:=h.bk.lt;have hb:=ah w (.cells #[Value.int .i64 0,.int .i64 0,.int .i64 0,.int .i64 0,.int .i64 0,.int .i64 0] 186);have d3:=(hb.cell (block_lt_of_cell? w _ c3)).trans c3;by_cases hn:n<s.nodes.length
 .obtain⟨g,cap,rfl,kD,hm,nY⟩:=b8 h.nr (by omega);have hg:=Qo hn;have x:∀j,j<6->w.cell? ⟨g,n*6+j,none⟩=s.nodes[n].cells[j]?:=λj hj=>(h.nr.cellAt (n*6+j) (by omega)).trans (hg j hj);have x':∀j,j<6->(w.alloc (.cells #[Value.int .i64 0,.int .i64 0,.int .i64 0,.int .i64 0,.int .i64 0,.int .i64 0] 186)).cell? ⟨g,n*6+j,none⟩=s.nodes[n].cells[j]?:=λj hj=>(hb.cell (p:=⟨g,n*6+j,none⟩) nY).trans (x j hj);have HE:Hid (ndA s.nodes n=s.nodes[n]):=ab (by simp[ndA,hn]);generalize s.nodes[n]=nd at *;obtain⟨op,v,ak,ai,nx,ot⟩:=nd;have x0:=x' 0 (by omega);have x1:=x' 1 (by omega);have x2:=x' 2 (by omega);have x3:=x' 3 (by omega);have x4:=x' 4 (by omega);have x5:=x' 5 (by omega);simp only[Nd.cells,getElem?_cons_zero,getElem?_cons_succ,Nat.add_zero]at x0 x1 x2 x3 x4 x5;clear x x' hg h c3 hb;go_enter func103,ntmps103;go_wp2_with fail
  refine bodyPost_ret (v:=.agg #[.int .i64 op,.int .i64 v,.int .i64 ak,.int .i64 ai,.int .i64 nx,.int .i64 ot]) (by simp[results,Tryz.results103,go_sem]) rfl ⟨?_,?_⟩
  .rw[uh HE];rfl
  .exact ah _ _
 .obtain⟨ao,cap,rfl,kD,hm⟩:=am h.nr;have HE:Hid (ndA s.nodes n=⟨0,0,0,0,0,0⟩):=ab (by unfold ndA;simp[List.getD,getElem?_eq_none (Nat.le_of_not_lt hn)]);have cW:(s.nodes.length:Int)<=(n:Int):=by omega
  clear h c3 hb;go_enter func103,ntmps103;go_wp2_with fail
  refine bodyPost_ret (v:=.agg #[.int .i64 0,.int .i64 0,.int .i64 0,.int .i64 0,.int .i64 0,.int .i64 0]) (by simp[results,Tryz.results103,go_sem]) rfl ⟨?_,?_⟩
  .rw[uh HE];rfl
  .exact ah _ _
structure sQ(nds:List Nd):Prop where
 v:∀n,(nds.getD n aI).v<4/\(nds.getD n aI).ai<4
 op:∀n,(nds.getD n aI).op<=1000
 nx:∀n,n<nds.length->(nds.getD n aI).op≠0->(nds.getD n aI).nx<nds.length
 ot:∀n,n<nds.length->((nds.getD n aI).op=7\/(nds.getD n aI).op=8\/(nds.getD n aI).op=9)->(nds.getD n aI).ot<nds.length
theorem rS{n:Nd}{f:CF}(h:(cj n f).nx≠[]):n.op≠0:=λe=>h (by unfold cj;rw[if_pos e];rfl)
theorem rT{n:Nd}{f:CF}(h:(cj n f).ot≠[]):n.op=7\/n.op=8\/n.op=9:=by
 apply Classical.byContradiction;intro hc;simp only[not_or]at hc;apply h;unfold cj;repeat' split
 all_goals first|rfl|(exfalso;omega)
structure Lp(w W:World)(S:Nat)(c:Cd)(c0 hv kv wv:Value)(Tn WV:List Value)(K0:List (List En))(X:List Nat)(KV:List Value)(K:List (List En))(s:Sr)(v:Value)(L:List FE)(j:Nat)(Z:List Nat):Prop where
 sh:Sh W S c c0 hv kv wv KV WV K s
 kl:K.length=K0.length
 go:ii w W (cY S hv kv wv Tn WV) (cY S hv kv wv KV WV) (er K0) (er K) X
 pn:Pn W v L j (cY S hv kv wv KV WV) (er K)
 ap:∀k∈Z,(k ∉ cY S hv kv wv KV WV/\k ∉ er K)/\k ∉ mX v L j/\k<W.heap.size
 nw:∀k∈mX v L j,k∈X\/w.heap.size<=k
section
variable {w W W':World} {S:Nat} {c:Cd} {c0 hv kv wv:Value} {Tn WV KV:List Value} {K0 K:List (List En)} {X Z:List Nat} {s s':Sr} {v:Value} {L:List FE} {j:Nat}
theorem Lp.next(h:Lp w W S c c0 hv kv wv Tn WV K0 X KV K s v L j Z)(hj:j<L.length)(hP:ik W S c c0 hv kv wv KV WV K L[j].bs s' W'):∃KV' K',Lp w W' S c c0 hv kv wv Tn WV K0 X KV' K' s' v L (j+1) Z/\∀k∈Z,W'.heap[k]?=W.heap[k]?:=by
 obtain⟨KV',K',h1,h2,h3⟩:=hP;obtain⟨-,-,-,n4,n5⟩:=h.pn.pe.next hj;refine⟨KV',K',⟨h1,h2.trans h.kl,h.go.trans h3 (λk hk=>h.nw k (n5 k hk)),h.pn.next hj h3,λk hk=>?_,λk hk=>h.nw k (n4 k hk).1⟩,λk hk=>?_⟩
 .obtain⟨⟨a1,a2⟩,a3,a4⟩:=h.ap k hk;refine⟨⟨λhn=>?_,λhn=>?_⟩,λhn=>a3 (n4 k hn).1,zq6 a4 h3.st.size⟩
  .rcases h3.st.foot k hn with p|p
   .rcases mem_append.1 p with p|p
    .exact a1 p
    .exact a3 (n5 k p)
   .omega
  .rcases h3.dr k hn with p|p|p
   .exact a2 p
   .exact a3 (n5 k p)
   .omega
 .obtain⟨⟨a1,a2⟩,a3,a4⟩:=h.ap k hk;refine h3.st.block k a4 (λhn=>?_);rcases mem_append.1 hn with p|p
  .exact a1 p
  .exact a3 (n5 k p)
theorem Lp.end'(h:Lp w W S c c0 hv kv wv Tn WV K0 X KV K s v L j Z):ik w S c c0 hv kv wv Tn WV K0 X s W:=⟨KV,K,h.sh,h.kl,h.go⟩
end
structure Sx(w W:World)(S:Nat)(c:Cd)(c0 hv kv wv:Value)(KV WV:List Value)(K:List (List En))(s:Sr)(O:Nat)(nu da fu:Bool)(nv tv:Value)(Ln Lt:List FE)(Y:Nat)(nd:Nd):Prop where
 sh:Sh W S c c0 hv kv wv KV WV K s
 go:ii w W (cY S hv kv wv KV WV) (cY S hv kv wv KV WV) (er K) (er K) []
 oo:Oo W O nu da fu nv tv Ln Lt
 bx:Bk W Y 186 nd.cells
 on:∀k∈Y::eQ O nv tv Ln Lt,(k ∉ cY S hv kv wv KV WV/\k ∉ er K)/\w.heap.size<=k
 yn:Y ∉ eQ O nv tv Ln Lt
section
variable {w W:World} {S:Nat} {c:Cd} {c0 hv kv wv:Value} {KV WV:List Value} {K:List (List En)} {s:Sr} {O:Nat} {nu da fu:Bool} {nv tv:Value} {Ln Lt:List FE} {Y:Nat} {nd:Nd}
theorem Sx.bad(h:Sx w W S c c0 hv kv wv KV WV K s O nu da fu nv tv Ln Lt Y nd){n:Nat}(hn:n<K.length){t:Nat}(ht:t<5){g cap:Nat}(hg:WV.getD n aJ=.slice (some ⟨g,0,none⟩) 5 cap):Sx w (W.setCell ⟨g,t,none⟩ (.bool true)) S c c0 hv kv wv KV WV K (kO n t s) O nu da fu nv tv Ln Lt Y nd:=by
 obtain⟨h1,h2⟩:=h.sh.bad hn ht hg;have aH:∀k∈Y::eQ O nv tv Ln Lt,(W.setCell ⟨g,t,none⟩ (.bool true)).heap[k]?=W.heap[k]?:=λk hk=>heap_setCell _ _ _ _ (λe=>(h.on k hk).1.1 (by rw[show k=g from e];exact h2));exact⟨h1,h.go.trans (ii.stp (X:=[]) ((ar.refl [g] W).setCell (p:=⟨g,t,none⟩) (zq0 (by simp)) (.bool true)) (λk hk=>zq0 (by rw[mem_singleton]at hk;rw[hk];exact h2))) (λk hk=>by simp at hk),h.oo.of_eq (λk hk=>aH k (mem_cons_of_mem _ hk)),h.bx.of_eq (aH Y (by simp)),h.on,h.yn⟩
theorem Sx.full(h:Sx w W S c c0 hv kv wv KV WV K s O nu da fu nv tv Ln Lt Y nd):Sx w (W.setCell ⟨S,8,none⟩ (.bool true)) S c c0 hv kv wv KV WV K { s with fu:=true } O nu da fu nv tv Ln Lt Y nd:=by
 have hs:ar [S] W [S] (W.setCell ⟨S,8,none⟩ (.bool true)):=(ar.refl [S] W).setCell (p:=⟨S,8,none⟩) (zq0 (by simp)) (.bool true);have h1:=h.sh.own (s':={ s with fu:=true }) (h.sh.bs.set 8 (.bool true)) hs (λk hk=>zq0 (mem_singleton.1 hk)) rfl rfl;have aH:∀k∈Y::eQ O nv tv Ln Lt,(W.setCell ⟨S,8,none⟩ (.bool true)).heap[k]?=W.heap[k]?:=λk hk=>heap_setCell _ _ _ _ (λe=>(h.on k hk).1.1 (by rw[show k=S from e];exact gN));exact⟨h1,h.go.trans (ii.stp (X:=[]) hs (λk hk=>zq0 (by rw[mem_singleton]at hk;rw[hk];exact gN))) (λk hk=>by simp at hk),h.oo.of_eq (λk hk=>aH k (mem_cons_of_mem _ hk)),h.bx.of_eq (aH Y (by simp)),h.on,h.yn⟩
theorem Sx.lp(h:Sx w W S c c0 hv kv wv KV WV K s O nu da fu nv tv Ln Lt Y nd)(ht:∀x∈Ln,Td x.f):Lp w W S c c0 hv kv wv KV WV K [] KV K s nv Ln 0 (Y::O::be tv Lt):=by
 have dF:=nodup_cons.1 h.oo.nd;have vW:=nodup_append.1 dF.2;have e:mX nv Ln 0=be nv Ln:=by simp[mX,be]
 refine⟨h.sh,rfl,h.go,⟨h.oo.nx.pend,ht,λk hk=>?_⟩,λk hk=>?_,λk hk=>zq1 ?_⟩
 .rw[e]at hk;exact(h.on k (by simp only[eQ,mem_cons,mem_append];exact zq1 (zq1 (zq0 hk)))).1
 .have hm:k∈Y::eQ O nv tv Ln Lt:=by
   simp only[eQ,mem_cons,mem_append]at hk ⊢;rcases hk with p|p|p
   .exact zq0 p
   .exact zq1 (zq0 p)
   .exact zq1 (zq1 (zq1 p))
  refine⟨(h.on k hm).1,λhn=>?_,?_⟩
  .rw[e]at hn;rcases mem_cons.1 hk with p|p
   .exact h.yn (by rw[<-p];simp only[eQ,mem_cons,mem_append];exact zq1 (zq0 hn))
   .rcases mem_cons.1 p with p|p
    .exact dF.1 (by rw[<-p];exact mem_append_left _ hn)
    .exact vW.2.2 k hn k p rfl
  .rcases mem_cons.1 hm with p|p
   .rw[p];exact h.bx.lt
   .exact h.oo.lt k p
 .rw[e]at hk;exact(h.on k (by simp only[eQ,mem_cons,mem_append];exact zq1 (zq1 (zq0 hk)))).2
end
