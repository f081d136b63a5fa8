import Derived.Test.YtciihepbeacppaaGreatM22
set_option maxRecDepth 100000
set_option maxHeartbeats 0
namespace Go.Proofs.YtciihepbeacppaaGreat
open Tryz Go.RowKit List World Below
set_option linter.unusedVariables false
theorem bM{α:Type}{l:List α}{d:α}{i:Nat}(h:i<l.length):l.getD i d=l[i]:=by simp[h]
theorem infoEn:(prog.info? 258).map (λi=>(i.zero,i.size,i.bytes))=some (some (.agg #[.pointer none,.bool false]),2,16):=by kernel_rfl
structure ii(w w':World)(F F' D D' X:List Nat):Prop where
 st:au (F++X) w F' w'
 dr:∀k∈D',k∈D\/k∈X\/w.heap.size<=k
theorem ii.trans{w w1 w2:World}{F F1 F2 D D1 D2 X Y:List Nat}(h:ii w w1 F F1 D D1 X)(h2:ii w1 w2 F1 F2 D1 D2 Y)(hY:∀k∈Y,k∈X\/w.heap.size<=k):ii w w2 F F2 D D2 X:=by
 have tt:∀k∈F1++Y,k∈F++X\/w.heap.size<=k:=λk hk=>by
  rcases mem_append.1 hk with p|p
  .exact h.st.foot k p
  .rcases hY k p with q|q
   .exact zq0 (mem_append_right _ q)
   .exact zq1 q
 refine⟨⟨h2.st.os.trans h.st.os,h2.st.tape.trans h.st.tape,h2.st.output.trans h.st.output,zq3 h.st.size h2.st.size,λk hk hn=>?_,λk hk=>?_⟩,λk hk=>?_⟩
 .refine(h2.st.block k (zq6 hk h.st.size) (λe=>?_)).trans (h.st.block k hk hn);rcases tt k e with p|p
  .exact hn p
  .omega
 .rcases h2.st.foot k hk with p|p
  .exact tt k p
  .exact zq1 (zq3 h.st.size p)
 .rcases h2.dr k hk with p|p|p
  .exact h.dr k p
  .rcases hY k p with q|q
   .exact zq1 (zq0 q)
   .exact zq1 (zq1 q)
  .exact zq1 (zq1 (zq3 h.st.size p))
theorem ii.below{w w':World}{F D X:List Nat}(h:Below w.heap.size w w'):ii w w' F F D D X:=⟨⟨h.os,h.tape,h.output,h.size,λk hk _=>h.block k hk,λ_ hk=>zq0 (mem_append_left _ hk)⟩,λ_ hk=>zq0 hk⟩
theorem ii.stp{w w':World}{F D X G G':List Nat}(h:au G w G' w')(hG:∀k∈G,k∈F\/k∈X):ii w w' F F D D X:=⟨⟨h.os,h.tape,h.output,h.size,λk hk hn=>h.block k hk (λe=>hn (mem_append.2 (hG k e))),λ_ hk=>zq0 (mem_append_left _ hk)⟩,λ_ hk=>zq0 hk⟩
theorem amL{W:World}{B g cap n i:Nat}{L:List En}(hr:W.ownsRow B 258 2 (.slice (some ⟨g,0,none⟩) n cap) n (ru L))(hn:n=L.length)(hi:i<n)(e:En):
  ((W.setCell ⟨g,i*2,none⟩ (.pointer (some ⟨e.D,0,none⟩))).setCell ⟨g,i*2+1,none⟩ (.bool e.d)).ownsRow B 258 2 (.slice (some ⟨g,0,none⟩) n cap) n (ru (L.set i e)) /\
  ((∃u,W.cell? ⟨g,i*2,none⟩=some u)/\∃u,W.cell? ⟨g,i*2+1,none⟩=some u) /\
  W.frozen? ⟨g,i*2,none⟩=false/\W.frozen? ⟨g,i*2+1,none⟩=false:=by
 subst hn;have r3:=((hr.stored (i*2) (.pointer (some ⟨e.D,0,none⟩))).1.stored (i*2+1) (.bool e.d)).1;rw[Hl hi]at r3;have x0:=(hr.cellAt (i*2) (by omega)).trans (qt hi).1;have x1:=(hr.cellAt (i*2+1) (by omega)).trans (qt hi).2;exact⟨r3,⟨⟨_,x0⟩,⟨_,x1⟩⟩,hr.frozenAt _,hr.frozenAt _⟩
theorem mR{W:World}{B g cap n i:Nat}{L:List En}(hr:W.ownsRow B 258 2 (.slice (some ⟨g,0,none⟩) n cap) n (ru L))(hn:n=L.length)(hi:i<n):W.cell? ⟨g,i*2,none⟩=some (.pointer (some ⟨(L[i]'(by omega)).D,0,none⟩))/\W.cell? ⟨g,i*2+1,none⟩=some (.bool (L[i]'(by omega)).d):=by
 subst hn;exact⟨(hr.cellAt (i*2) (by omega)).trans (qt hi).1,(hr.cellAt (i*2+1) (by omega)).trans (qt hi).2⟩
theorem En.one(e:En):∀u∈e.c,u.oneCell'=true:=by
 intro u hu;simp only[En.c,mem_cons,not_mem_nil,or_false]at hu;rcases hu with rfl|rfl <;> rfl
section
variable {w:World} {S:Nat} {c:Cd} {c0 hv kv wv:Value} {KV WV:List Value} {K:List (List En)} {s:Sr} {x:FE}
theorem Sh.knE(h:Sh w S c c0 hv kv wv KV WV K s)(n:Nat):a7 s n=(K.getD n []).map En.m:=by
 unfold a7;rw[h.km];by_cases hn:n<K.length
 .simp[hn]
 .simp[getD_eq_getElem?_getD,getElem?_eq_none (Nat.le_of_not_lt hn)]
theorem Sh.kc(h:Sh w S c c0 hv kv wv KV WV K s){n:Nat}(hn:n<K.length):∃g cap,kv=.slice (some ⟨g,0,none⟩) K.length cap/\w.cell? ⟨g,n,none⟩=some (KV.getD n aJ):=by
 obtain⟨g,cap,hv,-,-,-⟩:=cR h.kr (by omega);have j5:=h.kvl;refine⟨g,cap,hv,?_⟩;have:=h.kr;rw[hv]at this;rw[this.cellAt n (by omega),getElem?_eq_getElem (by omega),bM (by omega)]
theorem Sh.hc(h:Sh w S c c0 hv kv wv KV WV K s){n:Nat}(hn:n<K.length):∃g cap,hv=.slice (some ⟨g,0,none⟩) K.length cap/\w.cell? ⟨g,n,none⟩=some (.bool (c.hd.getD n false)):=by
 have hl:=h.hl;obtain⟨g,cap,hv,-,-,-⟩:=cR h.hr (by omega);refine⟨g,cap,by rw[hv,hl],?_⟩;have:=h.hr;rw[hv]at this;rw[this.cellAt n (by omega)];exact fG (by omega)
def ij(w:World)(S:Nat)(c:Cd)(c0 hv kv wv:Value)(KV WV:List Value)(K:List (List En))(X:List Nat)(s':Sr)(w':World):Prop :=
 ∃KV' K',Sh w' S c c0 hv kv wv KV' WV K' s'/\K'.length=K.length/\ii w w' (cW S hv kv wv KV WV) (cW S hv kv wv KV' WV) (ee K) (ee K') X
theorem Sh.as(h:Sh w S c c0 hv kv wv KV WV K s){s':Sr}(e1:s'.kn=s.kn)(e2:s'.wr=s.wr)(e3:s'.lf=s.lf)(e4:s'.lo=s.lo)(e5:s'.fu=s.fu):Sh w S c c0 hv kv wv KV WV K s' :=
 ⟨by rw[e3,e4,e5];exact h.bs,h.hr,h.kr,h.ke,h.wr,by rw[e2];exact h.we,by rw[e2];exact h.wl,h.hl,h.nl,by rw[e1];exact h.km,h.dr,h.nd,h.da⟩
end
section
variable {w W:World} {S:Nat} {c:Cd} {c0 hv kv wv:Value} {KV WV:List Value} {K:List (List En)} {s:Sr} {n:Nat} {g:CF} {D A:Nat} {av ov:Value}
theorem UO{o:Obj}{W1:World}{row:Option Nat}{F:List Nat}(h:Sh w S c c0 hv kv wv KV WV K s)(hn:n<K.length)(bE:(KV.getD n aJ).ownBlock=row)(hW:au row.toList w F W)(hg:(W.alloc o).grownBy W1 row):
  Bk W1 S 229 (qi c0 hv c.lp kv wv c.bd s.lf s.lo s.fu)/\W1.ownsRow 0 255 1 kv K.length KV:=by
 have hK:=h.kvl;have BU:(pp S hv kv wv KV WV)[4+n]?=some row:=by rw[yd (by omega),bE]
 have sS:∀i k,i≠4+n->(pp S hv kv wv KV WV)[i]?=some (some k)->W1.heap[k]?=w.heap[k]?:=λi k hi hk=>by
  have aL:row≠some k:=λe=>hi (h.nd i (4+n) k hk (by rw[BU,e]));have ar:=h.lt k (bU hk);exact((hg.block k (by have:=hW.size;simp;omega) aL.symm).trans (heap_alloc _ _ _ (zq6 ar hW.size))).trans (hW.block k ar (by simpa[eq_comm] using aL))
 exact⟨h.bs.of_eq (sS 0 S (by omega) rfl),ae h.kr (λk hk=>sS 2 k (by omega) (congrArg some hk))⟩
theorem Hq{l:List En}{P:En->Bool}{i:Nat}(hi:i<l.length):(l.take (i+1)).filter P=(l.take i).filter P++if P l[i]=true then [l[i]] else []:=by
 rw[take_succ_eq_append_getElem hi,filter_append];congr 1;by_cases h:P l[i]=true <;> simp[h]
theorem Qa(a:Option Addr)(i j i' j':Nat):(Value.slice a i j).ownBlock=(Value.slice a i' j').ownBlock:=by cases a <;> rfl
theorem UN {o:Obj} {W1:World} {gk ck g1 c1:Nat} {row:Option Nat} {F:List Nat} (h:Sh w S c c0 hv (.slice (some ⟨gk,0,none⟩) K.length ck) wv KV WV K s) (hn:n<K.length)
  (bE:(KV.getD n aJ).ownBlock=row) (hD:rs W D A g av ov) (hT:Td g) (hW:au row.toList w F W)
  (Z1:∀k∈D::aH A av ov,k ∉ cW S hv (.slice (some ⟨gk,0,none⟩) K.length ck) wv KV WV)
  (aP:W1.ownsRow 0 258 2 (.slice (some ⟨g1,0,none⟩) (((K.getD n []).filter (λe=>!xF e.x.f g)).length+1) c1) (((K.getD n []).filter (λe=>!xF e.x.f g)).length+1) (ru ((K.getD n []).filter (λe=>!xF e.x.f g))++[.pointer (some ⟨D,0,none⟩),.bool false]))
  (hg:(W.alloc o).grownBy W1 row) (cj:some g1=row\/g1=(W.alloc o).heap.size) :
  ∃KV' K',Sh (W1.setCell ⟨gk,n,none⟩ (.slice (some ⟨g1,0,none⟩) (((K.getD n []).filter (λe=>!xF e.x.f g)).length+1) c1)) S c c0 hv (.slice (some ⟨gk,0,none⟩) K.length ck) wv KV' WV K' (nk n g s)/\K'.length=K.length /\
   au (cW S hv (.slice (some ⟨gk,0,none⟩) K.length ck) wv KV WV) w (cW S hv (.slice (some ⟨gk,0,none⟩) K.length ck) wv KV' WV) (W1.setCell ⟨gk,n,none⟩ (.slice (some ⟨g1,0,none⟩) (((K.getD n []).filter (λe=>!xF e.x.f g)).length+1) c1))/\∀k∈ee K',k∈ee K\/k∈D::aH A av ov:=by
 obtain⟨l,hl⟩:∃l,l=K.getD n []:=⟨_,rfl⟩;rw[<-hl]at aP ⊢;obtain⟨M,hM⟩:∃M,M=l.filter (λe=>!xF e.x.f g):=⟨_,rfl⟩;rw[<-hM]at aP ⊢;obtain⟨v',hv'⟩:∃v',v'=Value.slice (some ⟨g1,0,none⟩) (M.length+1) c1:=⟨_,rfl⟩;have Up:v'.ownBlock=some g1:=by rw[hv'];rfl
 rw[<-hv']at aP ⊢;have hK:=h.kvl;have nV:W.heap.size<=W1.heap.size:=zq3 (by simp) hg.size;have BU:(pp S hv (.slice (some ⟨gk,0,none⟩) K.length ck) wv KV WV)[4+n]?=some row:=by rw[yd (by omega),bE]
 have mF:(pp S hv (.slice (some ⟨gk,0,none⟩) K.length ck) wv KV WV)[2]?=some (some gk):=rfl;have T8:row≠some gk:=λe=>by
  have:=h.nd (4+n) 2 gk (by rw[BU,e]) mF;omega
 -- what is neither the row's nor known's is as it was
 have sS:∀k,k<W.heap.size->row≠some k->W1.heap[k]?=W.heap[k]?:=λk hk aL=>(hg.block k (by simp;omega) aL.symm).trans (heap_alloc _ _ _ hk);have Ae:∀k,k<w.heap.size->row≠some k->W1.heap[k]?=w.heap[k]?:=λk hk aL=>(sS k (zq6 hk hW.size) aL).trans (hW.block k hk (by simpa[eq_comm] using aL));have cO:∀k,k≠gk->(W1.setCell ⟨gk,n,none⟩ v').heap[k]?=W1.heap[k]?:=λk hk=>heap_setCell _ _ _ _ hk;have hrs:∀k,row=some k->k∈cW S hv (.slice (some ⟨gk,0,none⟩) K.length ck) wv KV WV:=λk hk=>bU (by rw[BU,hk]);have xu:gk∈cW S hv (.slice (some ⟨gk,0,none⟩) K.length ck) wv KV WV:=bU mF;have alp:=h.lt gk xu;have KF:some g1=row\/W.heap.size<=g1:=by
  rcases cj with e|e
  .exact zq0 e
  .right;rw[e];simp
 have hg1k:g1≠gk:=λe=>by
  rcases KF with q|q
  .exact T8 (by rw[<-q,e])
  .have:=hW.size;omega
 have tt:∀k∈cW S hv (.slice (some ⟨gk,0,none⟩) K.length ck) wv (KV.set n v') WV,k∈cW S hv (.slice (some ⟨gk,0,none⟩) K.length ck) wv KV WV\/W.heap.size<=k:=λk hk=>by
  obtain⟨i,hi⟩:=aT.1 hk;rw[Gg v' (by omega),getElem?_set]at hi;split at hi
  .split at hi
   .simp only[Option.some.injEq]at hi;rw[Up]at hi;injection hi with hi;subst hi;rcases KF with q|q
    .exact zq0 (hrs _ q.symm)
    .exact zq1 q
   .simp at hi
  .exact zq0 (bU hi)
 have hkr:W1.ownsRow 0 255 1 (.slice (some ⟨gk,0,none⟩) K.length ck) K.length KV:=ae h.kr (λk hk=>by
  have e:gk=k:=by simpa[Value.ownBlock] using hk
  subst e;exact Ae gk alp T8)
 have L7:∀k∈ee K,(W1.setCell ⟨gk,n,none⟩ v').heap[k]?=w.heap[k]?:=λk hk=>by
  rw[cO k (λe=>h.da k hk (by rw[e];exact xu))];exact Ae k (h.drlt k hk) (λe=>h.da k hk (hrs k e))
 have hlK:l∈K:=by rw[hl,bM hn];exact getElem_mem hn
 have iC:∀k∈D::aH A av ov,(W1.setCell ⟨gk,n,none⟩ v').heap[k]?=W.heap[k]?:=λk hk=>by
  rw[cO k (λe=>Z1 k hk (by rw[e];exact xu))];exact sS k (hD.lt k hk) (λe=>Z1 k hk (hrs k e))
 have rZ:=h.put hn (w':=W1.setCell ⟨gk,n,none⟩ v') (v':=v') (l':=M++[⟨D,⟨A,g,av,ov⟩,false⟩]) (λi k h2 h4 hi=>by
   rw[cO k (λe=>h2 (h.nd i 2 k hi (by rw[e];exact mF)))];exact Ae k (h.lt k (bU hi)) (λe=>h4 (h.nd i (4+n) k hi (by rw[BU,e])))) (hkr.stored n v').1 (by
   rw[length_append,length_singleton,Th];exact cy aP (p:=⟨gk,n,none⟩) (by rw[Up];intro e;injection e with e;exact hg1k e) v') (λk hk=>by
   rw[Up]at hk;injection hk with hk;subst hk;rcases KF with q|q
   .exact zq0 (by rw[bE,q])
   .exact zq1 (zq3 hW.size q)) L7 (λe he=>by
   rcases mem_append.1 he with p|p
   .have mD:e∈l:=(by rw[hM]at p;exact(mem_filter.1 p).1);refine⟨(h.dr l hlK e mD).of_eq (λk hk=>L7 k (bI.2 ⟨l,hlK,e,mD,hk⟩)),λk hk hm=>?_⟩;have hq:=bI.2 ⟨l,hlK,e,mD,hk⟩;rcases tt k hm with q|q
    .exact h.da k hq q
    .have:=h.drlt k hq;have:=hW.size;omega
   .rw[mem_singleton]at p;subst p;refine⟨⟨hD.of_eq iC,hT⟩,λk hk hm=>?_⟩;rcases tt k hm with q|q
    .exact Z1 k hk q
    .have:=hD.lt k hk;omega)
 refine⟨KV.set n v',K.set n (M++[⟨D,⟨A,g,av,ov⟩,false⟩]),rZ.as (s':=nk n g s) ?_ rfl rfl rfl rfl,length_set,⟨hg.os.trans hW.os,hg.tape.trans hW.tape,hg.output.trans hW.output,?_,λk hk hm=>?_,λk hk=>?_⟩,λk hk=>?_⟩
 .show s.kn.set n _=s.kn.set n _;rw[h.knE n,<-hl,hM,map_append,filter_map];rfl
 .simpa[World.setCell] using zq3 hW.size nV
 .rw[cO k (λe=>hm (by rw[e];exact xu))];exact Ae k hk (λe=>hm (hrs k e))
 .rcases tt k hk with q|q
  .exact zq0 q
  .exact zq1 (zq3 hW.size q)
 .obtain⟨l2,vt,e,mD,hk⟩:=bI.1 hk;rcases mem_or_eq_of_mem_set vt with p|p
  .exact zq0 (bI.2 ⟨l2,p,e,mD,hk⟩)
  .subst p;rcases mem_append.1 mD with q|q
   .exact zq0 (bI.2 ⟨l,hlK,e,by rw[hM]at q;exact(mem_filter.1 q).1,hk⟩)
   .rw[mem_singleton]at q;subst q;exact zq1 hk
end
section
variable {w:World} {S:Nat} {c:Cd} {c0 hv kv wv:Value} {KV WV:List Value} {K:List (List En)} {s:Sr} {x:FE}
theorem En.m_any(l:List En)(P:CF->Bool):(l.map En.m).any (λe=>P e.f)=l.any (λe=>P e.x.f):=by rw[any_map];rfl
theorem PI(h:Sh w S c c0 hv kv wv KV WV K s)(hx:Fm w x.A x.f x.av x.ov)(hT:Td x.f)(hd:∀k∈x.bs,k ∉ cW S hv kv wv KV WV/\k ∉ ee K){n:Nat}(hn:n<K.length)(xS:K.length<=100000)(bD:(bF c n x.f s).ok=true):
  Calls prog 201 #[.pointer (some ⟨S,0,none⟩),.int .i64 n,.pointer (some ⟨x.A,0,none⟩)] w λe w'=>e=.returned (.tuple #[])/\ij w S c c0 hv kv wv KV WV K x.bs (bF c n x.f s) w':=by
 obtain⟨i0,k9,gX,fK,f9⟩:=info_parts infoEn;have vn:=(n7 bD).2;have fJ:=h.knE n;rw[fJ,length_map]at vn;obtain⟨hB,hC,hhv,chd⟩:=h.hc hn;subst hhv;obtain⟨kB,kC,RQ,-⟩:=h.kc hn;subst RQ;have c1:=h.bs.cell 1 rfl;obtain⟨l,hl⟩:∃l,l=K.getD n []:=⟨_,rfl⟩;rw[<-hl]at vn fJ;have Ua:l.length<=1000000000000:=vn;obtain⟨va,vc,Ah,Ps,Uo⟩:=aj (h.ke n hn);rw[<-hl]at Ah Ps;have hTG:Td (bm c n x.f):=ua hT;have agF:∀(w':World) (s':Sr),s'=bF c n x.f s->ij w S c c0 (.slice (some ⟨hB,0,none⟩) K.length hC) (.slice (some ⟨kB,0,none⟩) K.length kC) wv KV WV K x.bs s' w'->(Ending.returned (.tuple #[]):Ending)=.returned (.tuple #[])/\ij w S c c0 (.slice (some ⟨hB,0,none⟩) K.length hC) (.slice (some ⟨kB,0,none⟩) K.length kC) wv KV WV K x.bs (bF c n x.f s) w':=λw' s' e hp=>⟨rfl,by rw[<-e];exact hp⟩;have agc:bF c n x.f s=if l.any (λe=>xF (bm c n x.f) e.x.f)=true then { mG c s (2*l.length) with ok:=s.ok&&decide (l.length<=th) } else pU c (nk n (bm c n x.f) (mG c s (2*l.length))):=by
  unfold bF;rw[fJ,length_map,En.m_any l (λf=>xF (bm c n x.f) f)]
 obtain⟨QP,hQP⟩:∃QP:Ending->World->Prop,QP=(λe w'=>e=.returned (.tuple #[])/\ij w S c c0 (.slice (some ⟨hB,0,none⟩) K.length hC) (.slice (some ⟨kB,0,none⟩) K.length kC) wv KV WV K x.bs (bF c n x.f s) w'):=⟨_,rfl⟩;rw[<-hQP];have HQ:Hid (∀(w':World),ij w S c c0 (.slice (some ⟨hB,0,none⟩) K.length hC) (.slice (some ⟨kB,0,none⟩) K.length kC) wv KV WV K x.bs (bF c n x.f s) w'->QP (.returned (.tuple #[])) w'):=ab (λw' hp=>by rw[hQP];exact⟨rfl,hp⟩);have JK:=ab agc;have H:=ab h;have HX:=ab hx;have HT:=ab hT;have HTG:=ab hTG;have HD:=ab hd;have HL:=ab hl;have Yq:=ab Ah;obtain⟨xA,xf,xav,xov⟩:=x;simp only at HX HT HTG JK HQ hTG ⊢;have XA:(⟨xA,xf,xav,xov⟩:FE).bs=aH xA xav xov:=rfl;rw[XA]at HD HQ;have i1:(0:Int)<=(n:Int):=by omega
 have i2:(n:Int)<(K.length:Int):=by omega
 clear h hx hT hd hl Ah agc agF fJ bD vn hQP hTG XA;obtain⟨G,hG⟩:∃G,G=bm c n xf:=⟨_,rfl⟩;rw[<-hG]at HTG JK;cases hh:c.hd.getD n false
 focus
  rw[hh]at chd;have zW:G=xf:=by rw[hG];unfold bm;rw[if_neg (by rw[hh];decide)]
  have Rw:Hid (Fm w xA G xav xov/\au (aH xA xav xov) w (aH xA xav xov) w):=ab ⟨by rw[zW];exact uh HX,au.refl _ _⟩;clear hG zW hh HX;go_enter func201,ntmps201;go_upto_region 3 with fail;obtain⟨W1,dV⟩:∃W1,W1=w:=⟨_,rfl⟩;have X8:Hid (∃av1 ov1,Fm W1 xA G av1 ov1/\au (aH xA xav xov) w (aH xA av1 ov1) W1):=ab ⟨xav,xov,by rw[dV];exact(uh Rw).1,by rw[dV];exact(uh Rw).2⟩;rw[<-dV];clear dV Rw
 rotate_left
 focus
  rw[hh]at chd;have zW:G=aZ (Eb xf):=by rw[hG];unfold bm;rw[if_pos hh]
  have GM:=ab (N3 (uh HX) (zq3 (uh HT).ok.owLen (by omega)));have X9:Hid (aq (Eb xf)/\(Eb xf).ap=xf.ap):=ab (df _ (uh HT).ok);clear hG hh;go_enter func201,ntmps201;go_wp2_with fail
  refine(uh GM).mono ?_;rintro e w0 ⟨rfl,ov0,Kl,Fp⟩;have GR:=ab (lD Kl (uh X9).1 (by rw[(uh X9).2];exact zq3 (uh HT).ln (by omega)));have sF:=ab Fp;clear Kl Fp GM X9;go_wp2_with fail
  refine(uh GR).mono ?_;rintro e W1 ⟨rfl,av1,ov1,kE,bX⟩;have X8:Hid (∃av1 ov1,Fm W1 xA G av1 ov1/\au (aH xA xav xov) w (aH xA av1 ov1) W1):=ab ⟨av1,ov1,by rw[zW];exact kE,(uh sF).trans bX⟩;clear kE bX zW GR sF HX;go_upto_region 3 with fail
 all_goals
  obtain⟨av1,ov1,kE,bX⟩:=uh X8;have af2:∀k∈aH xA av1 ov1,(k ∉ cW S (.slice (some ⟨hB,0,none⟩) K.length hC) (.slice (some ⟨kB,0,none⟩) K.length kC) wv KV WV/\k ∉ ee K)/\(k∈aH xA xav xov\/w.heap.size<=k):=λk hk=>by
   rcases bX.foot k hk with p|p
   .exact⟨uh HD k p,zq0 p⟩
   .exact⟨⟨λe=>by have:=(uh H).lt k e;omega,λe=>by have:=(uh H).drlt k e;omega⟩,zq1 p⟩
  have h1:=(uh H).stp bX (λk hk e=>(uh HD k e).1 hk) (λk hk e=>(uh HD k e).2 hk);have HDR:=ab (Ny kE.is (uh HTG).ok);have aeU:=kE.lt;have H1:=ab (zq2 h1 (zq2 bX (zq2 af2 aeU)));clear kE bX af2 h1 X8 aeU;go_wp2_with fail
  refine(uh HDR).mono ?_;rintro e w2 ⟨D,rfl,hD2,akm,aU⟩;have h2:=(uh H1).1.below aU;have c3:=h2.bs.cell 3 rfl;obtain⟨kB',kC',qA,ckc⟩:=h2.kc hn;simp only[Value.slice.injEq,Option.some.injEq,Addr.mk.injEq,and_true,true_and]at qA;obtain⟨rfl,rfl⟩:=qA;rw[uh Yq]at ckc;obtain⟨q,hq⟩:∃q,q=2*l.length:=⟨_,rfl⟩;rw[<-hq]at JK;have hqw:IntKind.i64.wrap (2*(l.length:Int))=(q:Int):=by rw[IntKind.wrap_i64];omega
  have RA:=ab (PO h2.bs q);have Xe:∀k∈D::aH xA av1 ov1,(k ∉ cW S (.slice (some ⟨hB,0,none⟩) K.length hC) (.slice (some ⟨kB,0,none⟩) K.length kC) wv KV WV/\k ∉ ee K)/\(k∈aH xA xav xov\/w.heap.size<=k):=λk hk=>by
   rcases mem_cons.1 hk with p|p
   .have hz:=(uh H1).2.1.size;exact⟨⟨λe=>by have:=(uh H1).1.lt k e;omega,λe=>by have:=(uh H1).1.drlt k e;omega⟩,zq1 (by omega)⟩
   .exact(uh H1).2.2.1 k p
  have afS:ii w w2 (cW S (.slice (some ⟨hB,0,none⟩) K.length hC) (.slice (some ⟨kB,0,none⟩) K.length kC) wv KV WV) (cW S (.slice (some ⟨hB,0,none⟩) K.length hC) (.slice (some ⟨kB,0,none⟩) K.length kC) wv KV WV) (ee K) (ee K) (aH xA xav xov):=(ii.stp (uh H1).2.1 (λk hk=>zq1 hk)).trans (ii.below (X:=[]) aU) (λk hk=>by simp at hk);have H2:=ab (zq2 h2 (zq2 hD2 (zq2 Xe afS)));clear h2 hD2 akm aU Xe afS hq H1 HDR;go_wp2_with fail
  refine(uh RA).mono ?_;rintro e w3 ⟨rfl,zY,f8⟩;have h3:=(uh H2).1.own (s':=mG c s q) zY f8 (λk hk=>zq0 (mem_singleton.1 hk)) rfl rfl;have Kk:=(uh H2).2.1.of_eq (λk hk=>f8.block k ((uh H2).2.1.lt k hk) (λe=>((uh H2).2.2.1 k hk).1.1 (by rw[mem_singleton]at e;rw[e];exact gL)));have afT:=(uh H2).2.2.2.trans (ii.stp (X:=[]) f8 (λk hk=>zq0 (by rw[mem_singleton]at hk;rw[hk];exact gL))) (λk hk=>by simp at hk);have bE:=h3.ke n hn;rw[uh Yq,<-uh HL]at bE;have hlK:l∈K:=by rw[uh HL,bM hn];exact getElem_mem hn
  have H3:=ab (zq2 h3 (zq2 Kk (zq2 (uh H2).2.2.1 afT)));have kY:=ab bE;have Yh:=ab hlK;have cG:Hid (Below w3.heap.size w3 w3/\∀i,i<0->∀e,l[i]?=some e->xF G e.x.f=false):=ab ⟨Below.refl _ _,λi hi=>by omega⟩;clear h3 Kk afT bE hlK zY f8 RA H2 hqw c1 c3 ckc chd H HD HT;go_wp2_with fail
  go_loopg [39] l.length (λgn iv wx=>∃(k:Nat),k+gn=l.length/\iv=.int .i64 k/\Hid (Below w3.heap.size w3 wx/\∀i,i<k->∀e,l[i]?=some e->xF G e.x.f=false))
  case atStart=>exact⟨0,by omega,rfl,cG⟩
  case round =>
   clear cG;obtain⟨k,fJ,rfl,hI⟩:=hrel;obtain⟨G1,zW⟩:∃G1,G1=gk:=⟨_,rfl⟩;by_cases ar:k<l.length
   .have hd:decide ((k:Int)<(l.length:Int))=true:=(by simp;omega);have mr:=ja (uh kY) (uh hI).1;obtain⟨g,cap,dQ,-,-⟩:=cR mr (by omega);simp only[Value.slice.injEq,true_and]at dQ;obtain⟨rfl,rfl⟩:=dQ;obtain⟨x0,x1⟩:=mR mr rfl ar;have yM:=(uh H3).1.dr l (uh Yh) l[k] (getElem_mem ar);have cN:l[k]?=some l[k]:=getElem?_eq_getElem ar;obtain⟨e,L9⟩:∃e,e=l[k]:=⟨_,rfl⟩;rw[<-L9]at x0 x1 yM cN;obtain⟨W5,sM⟩:∃W5,W5=wr.alloc (.cells #[Value.pointer (some ⟨e.D,0,none⟩),.bool e.d] 258):=⟨_,rfl⟩;have cf:Below wr.heap.size wr W5:=(by rw[sM];exact ah wr _);have dT:=(uh hI).1.trans (cf.mono (uh hI).1.size);have mX:Bk W5 wr.heap.size 258 [Value.pointer (some ⟨e.D,0,none⟩),.bool e.d]:=(by rw[sM];exact Bk.new wr _ _);obtain⟨Y,xo⟩:∃Y,Y=wr.heap.size:=⟨_,rfl⟩;rw[<-xo]at mX;have b0:=mX.cell 0 rfl;have SB:=ab (wX ((uh H3).2.1.below dT) (yM.1.below dT) (uh HTG) yM.2);have DZ:=ab cN;have lH:=ab dT;have k1:(0:Int)<=(k:Int):=(by omega);have k2:(k:Int)<(l.length:Int):=(by omega);clear mr yM cN L9 cf mX dT;go_upto_region 9 with fail;rw[<-sM,<-xo];clear sM xo x0 x1;go_wp2_with fail
    refine(uh SB).mono ?_;rintro e6 w6 ⟨rfl,kG⟩;have xH:=ab ((uh lH).trans (kG.mono (uh lH).size));clear kG SB lH b0;cases Ir:xF G e.x.f
    .go_wp2_with fail
     go_roundg (G1-1)
     case rel=>exact⟨k+1,by omega,by go_num,ab ⟨uh xH,λi hi y hy=>by
      by_cases e':i=k
      .rw[e',uh DZ]at hy;injection hy with hy;rw[<-hy];exact Ir
      .exact(uh hI).2 i (by omega) y hy⟩⟩
     case measure=>omega
    .have qx:l.any (λe=>xF G e.x.f)=true:=(by rw[any_eq_true];exact⟨e,mem_of_getElem? (uh DZ),Ir⟩);have HP:Hid (ij w S c c0 (.slice (some ⟨hB,0,none⟩) K.length hC) (.slice (some ⟨kB,0,none⟩) K.length kC) wv KV WV K (aH xA xav xov) (bF c n xf s) w6):=ab (by
      rw[uh JK,if_pos qx];exact⟨KV,K,((uh H3).1.below (uh xH)).as rfl rfl rfl rfl rfl,rfl,(uh H3).2.2.2.trans (ii.below (X:=[]) (uh xH)) (λk hk=>by simp at hk)⟩)
     clear Ir qx hI;go_wp2_with fail
     go_end0
     exact uh HQ _ (uh HP)
   .have hd:decide ((k:Int)<(l.length:Int))=false:=(by simp;omega);have qx:l.any (λe=>xF G e.x.f)=false:=by
     rw[any_eq_false];intro e he;obtain⟨i,hi,rfl⟩:=mem_iff_getElem.1 he;rw[(uh hI).2 i (by omega) _ (getElem?_eq_getElem hi)];simp
    have O2:=uh JK;rw[qx,if_neg (by decide)]at O2;have adZ:=ab O2;obtain⟨w4,hw4⟩:∃w4,w4=wr:=⟨_,rfl⟩;rw[<-hw4]at hI ⊢;have nR:=(uh hI).1;have C5:=ja (uh kY) nR;have h4:=(uh H3).1.below nR;have HRS:Hid (∀k,(Value.slice va l.length vc).ownBlock=some k->k∈cW S (.slice (some ⟨hB,0,none⟩) K.length hC) (.slice (some ⟨kB,0,none⟩) K.length kC) wv KV WV):=ab (λk hk=>bU ((yd (by rw[h4.kvl];exact hn)).trans (by rw[uh Yq];exact congrArg some hk)));have H4:=ab (zq2 h4 (zq2 ((uh H3).2.1.below nR) (zq2 (uh H3).2.2.1 ((uh H3).2.2.2.trans (ii.below (X:=[]) nR) (λk hk=>by simp at hk)))));have oK:=ab C5;clear qx O2 hw4 nR C5 h4 hI H3 kY JK zW;go_wp2_with fail
    go_loopg [10,11] l.length (λgn jv iv wx=>∃(i:Nat) (cur:List En),i+gn=l.length/\iv=.int .i64 i/\jv=.int .i64 (((l.take i).filter (λe=>!xF e.x.f G)).length:Nat)/\Hid (wx.ownsRow 0 258 2 (.slice va l.length vc) l.length (ru cur)/\cur.length=l.length/\cur.take ((l.take i).filter (λe=>!xF e.x.f G)).length=(l.take i).filter (λe=>!xF e.x.f G)/\cur.drop i=l.drop i/\au (Value.slice va l.length vc).ownBlock.toList w4 (Value.slice va l.length vc).ownBlock.toList wx))
    case atStart=>exact⟨0,l,by omega,rfl,rfl,ab ⟨uh oK,rfl,by simp,rfl,au.refl _ _⟩⟩
    case round =>
     clear oK;obtain⟨i,cur,tt,rfl,rfl,hJ⟩:=hrel;obtain⟨G2,Fi⟩:∃G2,G2=gk:=⟨_,rfl⟩;have kT:((l.take i).filter (λe=>!xF e.x.f G)).length<=i:=zq3 (length_filter_le _ _) (by rw[length_take];omega);have hD5:=(uh H4).2.1.of_eq (λk hk=>(uh hJ).2.2.2.2.block k ((uh H4).2.1.lt k hk) (λe=>((uh H4).2.2.1 k hk).1.1 (uh HRS k (by simpa using e))));by_cases cd:i<l.length
     .have kj:decide ((i:Int)<(l.length:Int))=true:=(by simp;omega);obtain⟨g,cap,dQ,-,-⟩:=cR (uh hJ).1 (by omega);simp only[Value.slice.injEq,true_and]at dQ;obtain⟨rfl,rfl⟩:=dQ;have dp:=(uh hJ).2.1;obtain⟨x0,x1⟩:=mR (uh hJ).1 dp.symm cd;have hci:cur[i]'(by omega)=l[i]:=by
       have h1:=congrArg (λm:List En=>m[0]?) (uh hJ).2.2.2.1;simp only[getElem?_drop,Nat.add_zero]at h1;rw[getElem?_eq_getElem cd,getElem?_eq_getElem (by omega)]at h1;injection h1
      have aV:=Hq (P:=λe=>!xF e.x.f G) cd;have yM:=(uh H4).1.dr l (uh Yh) l[i] (getElem_mem cd);have mD:∀k∈l[i].bs,k∈ee K:=λk hk=>bI.2 ⟨l,uh Yh,l[i],getElem_mem cd,hk⟩;rw[hci]at x0 x1;obtain⟨e,L9⟩:∃e,e=l[i]:=⟨_,rfl⟩;obtain⟨M,hM⟩:∃M,M=(l.take i).filter (λe=>!xF e.x.f G):=⟨_,rfl⟩;rw[<-L9]at x0 x1 yM mD aV;rw[<-hM]at aV kT hJ ⊢;have afL:=yM.1.of_eq (λk hk=>(uh hJ).2.2.2.2.block k (yM.1.lt k hk) (λe'=>(uh H4).1.da k (mD k hk) (uh HRS k (by simpa using e'))));have SB:=ab (wX afL hD5 yM.2 (uh HTG));have kS:cur.drop (i+1)=l.drop (i+1):=by
       have h1:=congrArg (λm=>m.drop 1) (uh hJ).2.2.2.1;simpa[drop_drop,Nat.add_comm] using h1
      have db:=ab aV;have Sg:=ab kS;have HJ:=ab (uh hJ);have wZ:=ab dp;have k1:(0:Int)<=(i:Int):=(by omega);have k2:(i:Int)<(l.length:Int):=(by omega);have k3:(M.length:Int)<(l.length:Int):=(by omega);have k4:(0:Int)<=(M.length:Int):=(by omega);have ZB:M.length<l.length:=(by omega);clear hci aV yM mD L9 hM afL kS dp hJ hD5;cases Ir:xF e.x.f G
      .rw[Ir]at SB;have MB:Hid ((l.take (i+1)).filter (λe=>!xF e.x.f G)=M++[e]):=ab (by rw[uh db,if_pos (by rw[Ir];rfl)]);clear Ir db;go_wp2_with fail
       refine(uh SB).mono ?_;rintro e6 w6 ⟨rfl,kG⟩;have hr6:=ja (uh HJ).1 kG;have y0:=(kG.cell (block_lt_of_cell? wr _ x0)).trans x0;have y1:=(kG.cell (block_lt_of_cell? wr _ x1)).trans x1;obtain⟨r6,⟨⟨u0,z0⟩,⟨u1,z1⟩⟩,f0,f1⟩:=amL hr6 (uh wZ).symm (i:=M.length) (by omega) e;have C6:=(((uh HJ).2.2.2.2.trans (au.ofBw kG)).setCell (p:=⟨g,M.length*2,none⟩) (zq0 (by simp[Value.ownBlock])) (.pointer (some ⟨e.D,0,none⟩))).setCell (p:=⟨g,M.length*2+1,none⟩) (zq0 (by simp[Value.ownBlock])) (.bool e.d);have rZ:(cur.set M.length e).length=l.length/\(cur.set M.length e).take (M++[e]).length=M++[e]/\(cur.set M.length e).drop (i+1)=l.drop (i+1):=by
        refine⟨by rw[length_set];exact uh wZ,?_,?_⟩
        .have h1:=(uh HJ).2.2.1;rw[length_append,length_singleton,take_add_one,getElem?_set_self (by rw[uh wZ];exact ZB),take_set_of_le (zq4 _),h1];rfl
        .rw[drop_set_of_lt (by omega)];exact uh Sg
       have HN:=ab (zq2 r6 (zq2 rZ.1 (zq2 rZ.2.1 (zq2 rZ.2.2 C6))));clear hr6 r6 C6 rZ kG SB HJ Sg wZ x0 x1;go_wp2_with fail
       go_roundg (G2-1)
       case rel=>exact⟨i+1,_,by omega,by go_num,by rw[uh MB,length_append,length_singleton];go_num,by rw[uh MB];exact HN⟩
       case measure=>omega
      .rw[Ir]at SB;have MB:Hid ((l.take (i+1)).filter (λe=>!xF e.x.f G)=M):=ab (by rw[uh db,if_neg (by rw[Ir];decide),append_nil]);clear Ir db;go_wp2_with fail
       refine(uh SB).mono ?_;rintro e6 w6 ⟨rfl,kG⟩;have HN:=ab (zq2 (ja (uh HJ).1 kG) (zq2 (uh wZ) (zq2 (uh HJ).2.2.1 (zq2 (uh Sg) ((uh HJ).2.2.2.2.trans (au.ofBw kG))))));clear kG SB HJ Sg wZ x0 x1;go_wp2_with fail
       go_roundg (G2-1)
       case rel=>exact⟨i+1,cur,by omega,by go_num,by rw[uh MB],by rw[uh MB];exact HN⟩
       case measure=>omega
     .have kj:decide ((i:Int)<(l.length:Int))=false:=(by simp;omega);have KG:l.take i=l:=take_of_length_le (by omega);rw[KG]at hJ kT ⊢;obtain⟨M,hM⟩:∃M,M=l.filter (λe=>!xF e.x.f G):=⟨_,rfl⟩;rw[<-hM]at hJ kT ⊢;have ZB:M.length<=l.length:=(by omega);have HRT:Hid (wr.ownsRow 0 258 2 (.slice va M.length vc) M.length (ru M)):=ab (by
       have h1:=Dq (uh hJ).1 ZB;rw[NH,(uh hJ).2.2.1]at h1;exact h1)
      have q1:(0:Int)<=(M.length:Int):=(by omega);have q2:(M.length:Int)<=(vc:Int):=(by omega);have HJ:=ab (zq2 (uh hJ).2.2.2.2 hD5);have HM:=ab hM;clear KG hJ kT hM hD5;go_wp2_with (at_builtin;refine s7 _ rfl (.tmp 74) (.tmp 77) 255 rfl 0 258 i0 _ 2 16 underlying255 k9 gX fK f9 rfl (by decide) _ M.length (ru M) rfl ((uh HRT).alloc _) ⟨_,0,none⟩ 1 [.pointer (some ⟨D,0,none⟩),.bool false] rfl rfl (aN _ _ (by simp) [.pointer (some ⟨D,0,none⟩),.bool false] _) (En.one ⟨D,⟨xA,G,av1,ov1⟩,false⟩) (by omega) (by omega) (zq5 _) ?_)
      intro g7 cap7 w7 iH dF fY;have hrw:(KV.getD n aJ).ownBlock=(Value.slice va M.length vc).ownBlock:=(by rw[uh Yq];exact Qa _ _ _ _ _);have sR:(Value.slice va l.length vc).ownBlock=(Value.slice va M.length vc).ownBlock:=Qa _ _ _ _ _;have Un:=(uh HJ).1;rw[sR]at Un;obtain⟨afB,aab⟩:=UO (uh H4).1 hn hrw Un dF;have c3:=afB.cell 3 rfl;have arH:=(uh H4).1.kvl;have ck:=aab.cellAt n (by omega);have hnk:n<KV.length:=(by omega);rw[getElem?_eq_getElem hnk]at ck;have zk:=aab.frozenAt n;have afK:=UN (uh H4).1 hn hrw (uh HJ).2 (uh HTG) Un (λk hk=>((uh H4).2.2.1 k hk).1.1) (g1:=g7) (c1:=cap7) (by rw[<-uh HL,<-uh HM];exact iH) dF (by simpa using fY);rw[<-uh HL,<-uh HM]at afK;obtain⟨KV',K',CH,hK8,Io,hd8⟩:=afK;have LO:=ab (zn CH.bs);have H8:=ab (zq2 CH (zq2 hK8 (zq2 Io hd8)));clear iH dF fY hrw sR Un afB aab CH hK8 Io hd8 HRT HJ;go_wp2_with fail
      refine(uh LO).mono ?_;rintro e w9 ⟨rfl,OD,hs9⟩;have h9:=(uh H8).1.own (s':=pU c (nk n G (mG c s q))) OD hs9 (λk hk=>zq0 (mem_singleton.1 hk)) rfl rfl;have hP:ij w S c c0 (.slice (some ⟨hB,0,none⟩) K.length hC) (.slice (some ⟨kB,0,none⟩) K.length kC) wv KV WV K (aH xA xav xov) (bF c n xf s) w9:=by
       rw[uh adZ];refine⟨KV',K',h9,(uh H8).2.1,?_⟩;have g4:=(uh H4).2.2.2;have g8:ii w4 _ (cW S (.slice (some ⟨hB,0,none⟩) K.length hC) (.slice (some ⟨kB,0,none⟩) K.length kC) wv KV WV) (cW S (.slice (some ⟨hB,0,none⟩) K.length hC) (.slice (some ⟨kB,0,none⟩) K.length kC) wv KV' WV) (ee K) (ee K') (D::aH xA av1 ov1):=⟨(uh H8).2.2.1.wider (λk hk=>mem_append_left _ hk) (λk hk=>zq0 hk),λk hk=>((uh H8).2.2.2 k hk).elim zq0 (λp=>zq1 (zq0 p))⟩;exact(g4.trans g8 (λk hk=>((uh H4).2.2.1 k hk).2)).trans (ii.stp (X:=[]) hs9 (λk hk=>zq0 (by rw[mem_singleton]at hk;rw[hk];exact gL))) (λk hk=>by simp at hk)
      have HP:=ab hP;clear OD hs9 h9 hP LO H8;go_wp2_with fail
      go_end0
      exact uh HQ _ (uh HP)
end
structure Pn(W:World)(v:Value)(L:List FE)(j:Nat)(F D:List Nat):Prop where
 pe:gi W 0 v L j
 td:∀x∈L,Td x.f
 fd:∀k∈mU v L j,k ∉ F/\k ∉ D
theorem Pn.next{W W':World}{v:Value}{L:List FE}{j:Nat}{F F' D D':List Nat}(h:Pn W v L j F D)(hj:j<L.length)(hg:ii W W' F F' D D' L[j].bs):Pn W' v L (j+1) F' D':=by
 obtain⟨-,-,h3,h4,-⟩:=h.pe.next hj;refine⟨h3.stp hg.st (λk hk hn=>?_),h.td,λk hk=>⟨λhn=>?_,λhn=>?_⟩⟩
 .rcases mem_append.1 hn with p|p
  .exact(h.fd k (h4 k hk).1).1 p
  .exact(h4 k hk).2 p
 .rcases hg.st.foot k hn with p|p
  .rcases mem_append.1 p with p|p
   .exact(h.fd k (h4 k hk).1).1 p
   .exact(h4 k hk).2 p
  .have:=h3.lt k hk;omega
 .rcases hg.dr k hn with p|p|p
  .exact(h.fd k (h4 k hk).1).2 p
  .exact(h4 k hk).2 p
  .have:=h3.lt k hk;omega
section
variable {w w':World} {S:Nat} {c:Cd} {c0 hv kv wv:Value} {KV WV:List Value} {K:List (List En)} {s:Sr} {x:FE}
theorem Sh.wc(h:Sh w S c c0 hv kv wv KV WV K s){n:Nat}(hn:n<K.length):∃g cap g2 cap2,wv=.slice (some ⟨g,0,none⟩) K.length cap/\WV.getD n aJ=.slice (some ⟨g2,0,none⟩) 5 cap2/\w.cell? ⟨g,n,none⟩=some (.slice (some ⟨g2,0,none⟩) 5 cap2)/\(∀t,t<5->w.cell? ⟨g2,t,none⟩=some (.bool ((s.wr.getD n []).getD t false)))/\∀t,w.frozen? ⟨g2,t,none⟩=false:=by
 obtain⟨g,cap,hv,-,-,-⟩:=cR h.wr (by omega);have h2:=h.we n hn;obtain⟨g2,cap2,Em,-,-,-⟩:=cR h2 (by omega);have hwl:=h.wvl;rw[Em]at h2;refine⟨g,cap,g2,cap2,hv,Em,?_,λt ht=>?_,λt=>h2.frozenAt t⟩
 .have:=h.wr;rw[hv]at this;rw[this.cellAt n (by omega),getElem?_eq_getElem (by omega),<-bM (d:=aJ) (by omega),Em]
 .rw[h2.cellAt t (by omega)];have h5:(s.wr.getD n []).length=5:=by
   have:=h2.1;unfold dd at this;rw[length_map]at this;omega
  exact fG (by omega)
theorem ij.pre{X:List Nat}{s':Sr}{w1 w2:World}(h:ij w1 S c c0 hv kv wv KV WV K X s' w2)(hb:Below w.heap.size w w1):ij w S c c0 hv kv wv KV WV K X s' w2:=by
 obtain⟨KV',K',h1,h2,h3⟩:=h;exact⟨KV',K',h1,h2,(ii.below (X:=X) hb).trans h3 (λk hk=>zq0 hk)⟩
theorem rH(h:Sh w S c c0 hv kv wv KV WV K s)(hx:Fm w x.A x.f x.av x.ov)(hT:Td x.f)(hd:∀k∈x.bs,k ∉ cW S hv kv wv KV WV/\k ∉ ee K){a n:Nat}(ha:a<K.length)(hn:n<K.length)(xS:K.length<=100000){fuel:Nat}(bD:(dJ c fuel a n x.f s).ok=true):
  Calls prog 172 #[.pointer (some ⟨S,0,none⟩),.int .i64 a,.int .i64 n,.pointer (some ⟨x.A,0,none⟩)] w λe w'=>e=.returned (.tuple #[])/\ij w S c c0 hv kv wv KV WV K x.bs (dJ c fuel a n x.f s) w':=by
 have c2:=h.bs.cell 2 rfl;have yi:Hid (∀w1,Below w.heap.size w w1->(bF c n x.f s).ok=true->Calls prog 201 #[.pointer (some ⟨S,0,none⟩),.int .i64 n,.pointer (some ⟨x.A,0,none⟩)] w1 λe w'=>e=.returned (.tuple #[])/\ij w S c c0 hv kv wv KV WV K x.bs (bF c n x.f s) w'):=ab (λw1 hb ho=>(PI (h.below hb) (hx.below hb) hT hd hn xS ho).mono (λe w' hp=>⟨hp.1,hp.2.pre hb⟩));cases yN:c.lp
 .have e:dJ c fuel a n x.f s=bF c n x.f s:=by unfold dJ;rw[if_pos (zq0 yN)]
  rw[e]at bD ⊢;rw[yN]at c2;have HL:=ab (uh yi w (Below.refl _ _) bD);clear h hx hT hd yN e yi;go_enter func172,ntmps172;go_wp2_with fail
  refine(uh HL).mono ?_;rintro e w1 ⟨rfl,hp⟩;have HP:=ab hp;clear hp HL;go_wp2_with fail
  refine bodyPost_ret (results_none rfl _ _ _) rfl ?_;exact⟨rfl,uh HP⟩
 .rw[yN]at c2;have Bv:=ab (vK hx.is hT.ok);by_cases vx:fj x.f=[]
  .have e:dJ c fuel a n x.f s=bF c n x.f s:=(by unfold dJ;rw[if_pos (zq1 vx)]);rw[e]at bD ⊢;have hl0:(((fj x.f).length:Int)==(0:Int))=true:=(by rw[vx];rfl);have kO:=ab bD;clear h hx hT hd yN e vx bD;go_enter func172,ntmps172;go_wp2_with fail
   refine(uh Bv).mono ?_;rintro e w1 ⟨lv,rfl,tu,bH⟩;obtain⟨la,lc,ic,-,-⟩:=aj tu;subst ic;have HL:=ab (uh yi w1 bH (uh kO));clear tu bH yi Bv;go_wp2_with fail
   refine(uh HL).mono ?_;rintro e w2 ⟨rfl,hp⟩;have HP:=ab hp;clear hp HL;go_wp2_with fail
   refine bodyPost_ret (results_none rfl _ _ _) rfl ?_;exact⟨rfl,uh HP⟩
  .have hl0:(((fj x.f).length:Int)==(0:Int))=false:=by
    have:(fj x.f).length≠0:=λe=>vx (length_eq_zero_iff.1 e);simp;omega
   obtain⟨R,hR⟩:∃R,R=jC c fuel 0 [] ([x.f],mm a 2 s):=⟨_,rfl⟩;have e:dJ c fuel a n x.f s=R.1.foldl (λs g=>bF c n g s) R.2:=(by unfold dJ;rw[if_neg (by rw[not_or];exact⟨by rw[yN];decide,vx⟩),hR]);rw[e]at bD ⊢;have afi:R.2.ok=true:=lm _ bD;have hRk:R.2.kn=s.kn/\R.2.wr=(mm a 2 s).wr:=by
    have h1:cX [x.f]:=λy hy=>by rw[mem_singleton]at hy;subst hy;exact hT
    obtain⟨-,g2,g3⟩:=mS (c:=c) fuel 0 (r:=([x.f],mm a 2 s)) (res:=[]) h1 (λy hy=>by simp at hy);rw[<-hR]at g2 g3;exact⟨g2,g3⟩
   have Oy:R.2.lo=s.lo:=(by rw[hR];exact NU fuel 0 [] ([x.f],mm a 2 s));obtain⟨wB,wC,gA,cA,RU,TX,cw,ct,hz⟩:=h.wc ha;subst RU;have c4:=h.bs.cell 4 rfl;have ct2:=ct 2 (by omega);have f9:=hz 2;have vm:=h.bad ha (t:=2) (by omega) TX;have H:=ab h;have HX:=ab hx;have HT:=ab hT;have HD:=ab hd;have HR:=ab hR;have Wl:=ab (zq2 afi (zq2 hRk Oy));have kO:=ab bD;have X4:=ab (zq2 TX vm);have i1:(0:Int)<=(a:Int):=(by omega);have i2:(a:Int)<(K.length:Int):=(by omega);obtain⟨eo,dD⟩:∃eo:World->Prop,eo=λw'=>ij w S c c0 hv kv (.slice (some ⟨wB,0,none⟩) K.length wC) KV WV K x.bs (R.1.foldl (λs g=>bF c n g s) R.2) w':=⟨_,rfl⟩;have gq:=ab dD;rw[show(fun(e:Ending) (w':World)=>e=.returned (.tuple #[])/\ij w S c c0 hv kv (.slice (some ⟨wB,0,none⟩) K.length wC) KV WV K x.bs (R.1.foldl (λs g=>bF c n g s) R.2) w')=(λe w'=>e=.returned (.tuple #[])/\eo w') by rw[dD]];clear h hx hT hd yN e vx bD yi hR afi hRk Oy TX vm ct hz dD;go_enter func172,ntmps172;go_wp2_with fail
   refine(uh Bv).mono ?_;rintro e w1 ⟨lv,rfl,tu,bH⟩;obtain⟨la,lc,ic,-,-⟩:=aj tu;subst ic;have h1:=(uh H).below bH;obtain⟨aU,xu⟩:=h1.bad ha (t:=2) (by omega) (uh X4).1;have d4:=h1.bs.cell 4 rfl;have dw:=(bH.cell (block_lt_of_cell? w _ cw)).trans cw;have dt:=(bH.cell (block_lt_of_cell? w _ ct2)).trans ct2;have hlA:=block_lt_of_cell? w _ ct2;have dz:w1.frozen? ⟨gA,2,none⟩=false:=by
    have h5:=h1.we a ha;rw[(uh X4).1]at h5;exact h5.frozenAt 2
   have r9:=((uh HX).below bH).of_eq (w':=w1.setCell ⟨gA,2,none⟩ (.bool true)) (λk hk=>heap_setCell _ _ _ _ (λe=>(uh HD k hk).1 (by rw[show k=gA from e];exact xu)));have LJ:=ab (Cy (c:=c) (s:=mm a 2 s) (x:=x) (B:=0) aU.bs r9 (uh HT) (λq _=>zq5 _) (λe=>(uh HD S e).1 gL) (zq5 _) fuel (by rw[<-uh HR];exact(uh Wl).1));rw[<-uh HR]at LJ;have OQ:ii w (w1.setCell ⟨gA,2,none⟩ (.bool true)) (cW S hv kv (.slice (some ⟨wB,0,none⟩) K.length wC) KV WV) (cW S hv kv (.slice (some ⟨wB,0,none⟩) K.length wC) KV WV) (ee K) (ee K) x.bs:=(ii.below (X:=x.bs) bH).trans (ii.stp (X:=[]) ((au.refl [gA] w1).setCell (p:=⟨gA,2,none⟩) (zq0 (by simp)) (.bool true)) (λk hk=>zq0 (by rw[mem_singleton]at hk;rw[hk];exact xu))) (λk hk=>by simp at hk);have H2:=ab (zq2 aU (zq2 OQ r9));clear tu bH h1 aU xu r9 hlA OQ Bv X4 c4 ct2 cw f9 c2;go_wp2_with fail
   refine(uh LJ).mono ?_;rintro e w3 ⟨v3,L3,rfl,mZ,agP,Xo,zY,cB,f8⟩;obtain⟨va,vc,Ah,-,-⟩:=aj mZ.row;subst Ah;have h3:=(uh H2).1.own (s':=R.2) (by rw[(uh Wl).2.2];exact zY) f8 (λk hk=>by
    rcases mem_cons.1 hk with p|p
    .exact zq0 p
    .exact zq1 (uh HD k p)) (uh Wl).2.1.1 (uh Wl).2.1.2
   have hg3:=(uh H2).2.1.trans (ii.stp (X:=x.bs) f8 (λk hk=>by
    rcases mem_cons.1 hk with p|p
    .exact zq0 (by rw[p];exact gL)
    .exact zq1 p)) (λk hk=>zq0 hk)
   have Z9:∀k∈bn (.slice va L3.length vc) L3,k∈x.bs\/w.heap.size<=k:=λk hk=>by
    rcases f8.foot k (mem_cons_of_mem _ hk) with p|p
    .rcases mem_cons.1 p with p|p
     .exact absurd (by rw[<-p];exact hk) cB
     .exact zq0 p
    .exact zq1 (zq3 (uh H2).2.1.st.size p)
   have BK:Pn w3 (.slice va L3.length vc) L3 0 (cW S hv kv (.slice (some ⟨wB,0,none⟩) K.length wC) KV WV) (ee K):=⟨mZ.pend,agP,λk hk=>by
    have mF:k∈bn (.slice va L3.length vc) L3:=(by simpa[mU,bn] using hk);rcases Z9 k mF with p|p
    .exact uh HD k p
    .exact⟨λe=>by have:=(uh H).lt k e;omega,λe=>by have:=(uh H).drlt k e;omega⟩⟩
   have eP:((L3.drop 0).map (·.f)).foldl (λs g=>bF c n g s) R.2=R.1.foldl (λs g=>bF c n g s) R.2:=(by rw[drop_zero,Xo]);have ajv:=ab Z9;have aq2:L3.length<=9223372036854775807:=by
    obtain⟨a1,c1,e1,e2,e3⟩:=aj mZ.row;omega
   have cG:=ab (zq2 h3 (zq2 hg3 (zq2 BK eP)));clear mZ agP Xo zY cB f8 h3 hg3 Z9 BK eP H2 LJ;go_wp2_with fail
   go_loopg [37] L3.length (λgn iv wx=>∃(j:Nat) (KV':List Value) (K':List (List En)) (s':Sr),j+gn=L3.length/\iv=.int .i64 j/\Hid (Sh wx S c c0 hv kv (.slice (some ⟨wB,0,none⟩) K.length wC) KV' WV K' s'/\K'.length=K.length/\ii w wx (cW S hv kv (.slice (some ⟨wB,0,none⟩) K.length wC) KV WV) (cW S hv kv (.slice (some ⟨wB,0,none⟩) K.length wC) KV' WV) (ee K) (ee K') x.bs/\Pn wx (.slice va L3.length vc) L3 j (cW S hv kv (.slice (some ⟨wB,0,none⟩) K.length wC) KV' WV) (ee K')/\((L3.drop j).map (·.f)).foldl (λs g=>bF c n g s) s'=R.1.foldl (λs g=>bF c n g s) R.2))
   case atStart=>exact⟨0,KV,K,R.2,by omega,rfl,ab ⟨(uh cG).1,rfl,(uh cG).2⟩⟩
   case round =>
    clear cG;obtain⟨j,KV',K',s',BO,rfl,hI⟩:=hrel;obtain⟨G1,zW⟩:∃G1,G1=gk:=⟨_,rfl⟩;by_cases ar:j<L3.length
    .have kj:decide ((j:Int)<(L3.length:Int))=true:=(by simp;omega);obtain⟨h1,h2,h3,h4,h5⟩:=uh hI;obtain⟨g2,cap2,dx,ay⟩:=h4.pe.cell ar;simp only[Value.slice.injEq,true_and]at dx;obtain⟨rfl,rfl⟩:=dx;obtain⟨n1,-,-,-,n5⟩:=h4.pe.next ar;have Po:=h4.td _ (getElem_mem ar);have OL:∀k∈L3[j].bs,k ∉ cW S hv kv (.slice (some ⟨wB,0,none⟩) K.length wC) KV' WV/\k ∉ ee K':=λk hk=>h4.fd k (n5 k hk);have kS:L3.drop j=L3[j]::L3.drop (j+1):=drop_eq_getElem_cons ar;rw[kS,map_cons,foldl_cons]at h5;have qB:(bF c n L3[j].f s').ok=true:=lm _ (by rw[h5];exact uh kO);have vA:∀w' tb K2,ii wr w' (cW S hv kv (.slice (some ⟨wB,0,none⟩) K.length wC) KV' WV) (cW S hv kv (.slice (some ⟨wB,0,none⟩) K.length wC) tb WV) (ee K') (ee K2) L3[j].bs->Pn w' (.slice (some ⟨g2,0,none⟩) L3.length vc) L3 (j+1) (cW S hv kv (.slice (some ⟨wB,0,none⟩) K.length wC) tb WV) (ee K2)/\ii w w' (cW S hv kv (.slice (some ⟨wB,0,none⟩) K.length wC) KV WV) (cW S hv kv (.slice (some ⟨wB,0,none⟩) K.length wC) tb WV) (ee K) (ee K2) x.bs:=λw' tb K2 hg=>⟨h4.next ar hg,h3.trans hg (λk hk=>uh ajv k (mem_append_right _ (mem_flatMap.2 ⟨_,getElem_mem ar,hk⟩)))⟩;obtain⟨y,hy⟩:∃y,y=L3[j]:=⟨_,rfl⟩;rw[<-hy]at ay n1 Po OL h5 qB vA;have It:y.p=.pointer (some ⟨y.A,0,none⟩):=rfl;rw[It]at ay;have HLJ:=ab (PI h1 n1 Po OL (n:=n) (by omega) (by omega) qB);have pX:=ab (zq2 vA (zq2 h2 h5));have k1:(0:Int)<=(j:Int):=(by omega);have k2:(j:Int)<(L3.length:Int):=(by omega);clear h1 h2 h3 h4 h5 n1 n5 Po OL kS qB vA hy It hI;go_wp2_with fail
     refine(uh HLJ).mono ?_;rintro e w5 ⟨rfl,tb,K2,g1,g2',g3⟩;obtain⟨p1,p2⟩:=(uh pX).1 w5 tb K2 g3;have HN:=ab (zq2 g1 (zq2 (g2'.trans (uh pX).2.1) (zq2 p2 (zq2 p1 (uh pX).2.2))));clear g1 g2' g3 p1 p2 HLJ pX;go_wp2_with fail
     go_roundg (G1-1)
     case rel=>exact⟨j+1,tb,K2,_,by omega,by go_num,HN⟩
     case measure=>omega
    .have kj:decide ((j:Int)<(L3.length:Int))=false:=(by simp;omega);have hP:eo wr:=by
      obtain⟨h1,h2,h3,h4,h5⟩:=uh hI;rw[drop_eq_nil_of_le (by omega)]at h5;rw[uh gq];refine⟨KV',K',?_,h2,h3⟩;rw[<-h5];exact h1
     have HP:=ab hP;clear hP hI;go_wp2_with fail
     go_end0
     exact⟨rfl,uh HP⟩
end
def abD(A:Nat):Value:=.pointer (some ⟨A,0,none⟩)
structure Cp(w:World)(Q:Nat)(ws:List ByteArray)(s:PS)(al:List cn)(vv pv nv:Value):Prop where
 bk:Bk w Q 105 [.string ⟨(jn ws).toArray⟩,vv,pv,nv]
 vr:w.ownsRow 0 5 1 vv s.vars.length (bc s.vars)
 pr:w.ownsRow 0 239 5 pv al.length (bT al)
 nr:w.ownsRow 0 186 6 nv s.nodes.length (bq s.nodes)
def BE(Q:Nat)(vv pv nv:Value):List Nat:=Q::(vv.ownBlock.toList++(pv.ownBlock.toList++nv.ownBlock.toList))
section
variable {w w':World} {Q:Nat} {ws:List ByteArray} {s:PS} {al:List cn} {vv pv nv:Value}
theorem Cp.of_eq(h:Cp w Q ws s al vv pv nv)(he:∀k∈BE Q vv pv nv,w'.heap[k]?=w.heap[k]?):Cp w' Q ws s al vv pv nv :=
 ⟨h.bk.of_eq (he Q (by simp[BE])),ae h.vr (λk hk=>he k (by simp[BE,hk])),ae h.pr (λk hk=>he k (by simp[BE,hk])),ae h.nr (λk hk=>he k (by simp[BE,hk]))⟩
theorem Cp.lt(h:Cp w Q ws s al vv pv nv):∀k∈BE Q vv pv nv,k<w.heap.size:=by
 intro k hk;simp only[BE,mem_cons,mem_append,Option.mem_toList]at hk;rcases hk with rfl|hk|hk|hk
 .exact h.bk.lt
 .exact(h.vr.lt k hk).2
 .exact(h.pr.lt k hk).2
 .exact(h.nr.lt k hk).2
theorem Cp.below(h:Cp w Q ws s al vv pv nv)(hb:Below w.heap.size w w'):Cp w' Q ws s al vv pv nv:=h.of_eq (λk hk=>hb.block k (h.lt k hk))
end
theorem Yu.cp{B:Nat}{w:World}{Q:Nat}{ws:List ByteArray}{s:PS}{al:List cn}(h:Yu B w Q ws s al):∃vv pv nv,Cp w Q ws s al vv pv nv/\∀k∈BE Q vv pv nv,B<=k:=by
 obtain⟨vv,pv,nv,h0,hB,h1,h2,h3⟩:=h;refine⟨vv,pv,nv,⟨h0,ej h1 (zq5 _),ej h2 (zq5 _),ej h3 (zq5 _)⟩,λk hk=>?_⟩;simp only[BE,mem_cons,mem_append,Option.mem_toList]at hk;rcases hk with rfl|hk|hk|hk
 .exact hB
 .exact(h1.lt k hk).1
 .exact(h2.lt k hk).1
 .exact(h3.lt k hk).1
def ndA(nds:List Nd)(n:Nat):Nd:=nds.getD n ⟨0,0,0,0,0,0⟩
theorem P2{l:List Nd}{k:Nat}(h:k<l.length):∀j,j<6->(bq l)[k*6+j]?=l[k].cells[j]?:=by
 induction l generalizing k with
 |nil=>simp at h
 |cons x l ih =>
  have hx:bq (x::l)=x.cells++bq l:=rfl;have hl:x.cells.length=6:=rfl;intro j hj;cases k with
  |zero=>rw[hx,getElem?_append_left (by omega)];simp
  |succ k =>
   rw[hx,getElem?_append_right (by omega),hl,show(k+1)*6+j-6=k*6+j by omega,ih (by simpa using h) j hj];rfl
theorem YK{w:World}{Q:Nat}{ws:List ByteArray}{s:PS}{al:List cn}{vv pv nv:Value}(n:Nat)(h:Cp w Q ws s al vv pv nv)(hl:s.nodes.length<=100000):
  Calls prog 103 #[.pointer (some ⟨Q,0,none⟩),.int .i64 n] w λe w'=>e=.returned (.agg (ndA s.nodes n).cells.toArray)/\Below w.heap.size w w':=by
 have c3:=h.bk.cell 3 rfl;have hQ:=h.bk.lt;have hb:=ah w (.cells #[Value.int .i64 0,.int .i64 0,.int .i64 0,.int .i64 0,.int .i64 0,.int .i64 0] 186);have d3:=(hb.cell (block_lt_of_cell? w _ c3)).trans c3;by_cases hn:n<s.nodes.length
 .obtain⟨g,cap,rfl,fZ,hm,nS⟩:=cR h.nr (by omega);have hg:=P2 hn;have x:∀j,j<6->w.cell? ⟨g,n*6+j,none⟩=s.nodes[n].cells[j]?:=λj hj=>(h.nr.cellAt (n*6+j) (by omega)).trans (hg j hj);have x':∀j,j<6->(w.alloc (.cells #[Value.int .i64 0,.int .i64 0,.int .i64 0,.int .i64 0,.int .i64 0,.int .i64 0] 186)).cell? ⟨g,n*6+j,none⟩=s.nodes[n].cells[j]?:=λj hj=>(hb.cell (p:=⟨g,n*6+j,none⟩) nS).trans (x j hj);have HE:Hid (ndA s.nodes n=s.nodes[n]):=ab (by simp[ndA,hn]);generalize s.nodes[n]=nd at *;obtain⟨op,v,ak,ai,nx,ot⟩:=nd;have x0:=x' 0 (by omega);have x1:=x' 1 (by omega);have x2:=x' 2 (by omega);have x3:=x' 3 (by omega);have x4:=x' 4 (by omega);have x5:=x' 5 (by omega);simp only[Nd.cells,getElem?_cons_zero,getElem?_cons_succ,Nat.add_zero]at x0 x1 x2 x3 x4 x5;clear x x' hg h c3 hb;go_enter func103,ntmps103;go_wp2_with fail
  refine bodyPost_ret (v:=.agg #[.int .i64 op,.int .i64 v,.int .i64 ak,.int .i64 ai,.int .i64 nx,.int .i64 ot]) (by simp[results,Tryz.results103,go_sem]) rfl ⟨?_,?_⟩
  .rw[uh HE];rfl
  .exact ah _ _
 .obtain⟨ao,cap,rfl,fZ,hm⟩:=aj h.nr;have HE:Hid (ndA s.nodes n=⟨0,0,0,0,0,0⟩):=ab (by unfold ndA;simp[List.getD,getElem?_eq_none (Nat.le_of_not_lt hn)]);have cN:(s.nodes.length:Int)<=(n:Int):=by omega
  clear h c3 hb;go_enter func103,ntmps103;go_wp2_with fail
  refine bodyPost_ret (v:=.agg #[.int .i64 0,.int .i64 0,.int .i64 0,.int .i64 0,.int .i64 0,.int .i64 0]) (by simp[results,Tryz.results103,go_sem]) rfl ⟨?_,?_⟩
  .rw[uh HE];rfl
  .exact ah _ _
structure uG(nds:List Nd):Prop where
 v:∀n,(nds.getD n aI).v<4/\(nds.getD n aI).ai<4
 op:∀n,(nds.getD n aI).op<=1000
 nx:∀n,n<nds.length->(nds.getD n aI).op≠0->(nds.getD n aI).nx<nds.length
 ot:∀n,n<nds.length->((nds.getD n aI).op=7\/(nds.getD n aI).op=8\/(nds.getD n aI).op=9)->(nds.getD n aI).ot<nds.length
theorem rM{n:Nd}{f:CF}(h:(bL n f).nx≠[]):n.op≠0:=λe=>h (by unfold bL;rw[if_pos e];rfl)
theorem mQ{n:Nd}{f:CF}(h:(bL n f).ot≠[]):n.op=7\/n.op=8\/n.op=9:=by
 apply Classical.byContradiction;intro hc;simp only[not_or]at hc;apply h;unfold bL;repeat' split
 all_goals first|rfl|(exfalso;omega)
structure Lp(w W:World)(S:Nat)(c:Cd)(c0 hv kv wv:Value)(SD WV:List Value)(K0:List (List En))(X:List Nat)(KV:List Value)(K:List (List En))(s:Sr)(v:Value)(L:List FE)(j:Nat)(Z:List Nat):Prop where
 sh:Sh W S c c0 hv kv wv KV WV K s
 kl:K.length=K0.length
 go:ii w W (cW S hv kv wv SD WV) (cW S hv kv wv KV WV) (ee K0) (ee K) X
 pn:Pn W v L j (cW S hv kv wv KV WV) (ee K)
 ap:∀k∈Z,(k ∉ cW S hv kv wv KV WV/\k ∉ ee K)/\k ∉ mU v L j/\k<W.heap.size
 nw:∀k∈mU v L j,k∈X\/w.heap.size<=k
section
variable {w W W':World} {S:Nat} {c:Cd} {c0 hv kv wv:Value} {SD WV KV:List Value} {K0 K:List (List En)} {X Z:List Nat} {s s':Sr} {v:Value} {L:List FE} {j:Nat}
theorem Lp.next(h:Lp w W S c c0 hv kv wv SD WV K0 X KV K s v L j Z)(hj:j<L.length)(hP:ij W S c c0 hv kv wv KV WV K L[j].bs s' W'):∃KV' K',Lp w W' S c c0 hv kv wv SD WV K0 X KV' K' s' v L (j+1) Z/\∀k∈Z,W'.heap[k]?=W.heap[k]?:=by
 obtain⟨KV',K',h1,h2,h3⟩:=hP;obtain⟨-,-,-,n4,n5⟩:=h.pn.pe.next hj;refine⟨KV',K',⟨h1,h2.trans h.kl,h.go.trans h3 (λk hk=>h.nw k (n5 k hk)),h.pn.next hj h3,λk hk=>?_,λk hk=>h.nw k (n4 k hk).1⟩,λk hk=>?_⟩
 .obtain⟨⟨a1,a2⟩,a3,a4⟩:=h.ap k hk;refine⟨⟨λhn=>?_,λhn=>?_⟩,λhn=>a3 (n4 k hn).1,zq6 a4 h3.st.size⟩
  .rcases h3.st.foot k hn with p|p
   .rcases mem_append.1 p with p|p
    .exact a1 p
    .exact a3 (n5 k p)
   .omega
  .rcases h3.dr k hn with p|p|p
   .exact a2 p
   .exact a3 (n5 k p)
   .omega
 .obtain⟨⟨a1,a2⟩,a3,a4⟩:=h.ap k hk;refine h3.st.block k a4 (λhn=>?_);rcases mem_append.1 hn with p|p
  .exact a1 p
  .exact a3 (n5 k p)
theorem Lp.end'(h:Lp w W S c c0 hv kv wv SD WV K0 X KV K s v L j Z):ij w S c c0 hv kv wv SD WV K0 X s W:=⟨KV,K,h.sh,h.kl,h.go⟩
end
structure Sx(w W:World)(S:Nat)(c:Cd)(c0 hv kv wv:Value)(KV WV:List Value)(K:List (List En))(s:Sr)(O:Nat)(nu da fu:Bool)(nv tv:Value)(Ln Lt:List FE)(Y:Nat)(nd:Nd):Prop where
 sh:Sh W S c c0 hv kv wv KV WV K s
 go:ii w W (cW S hv kv wv KV WV) (cW S hv kv wv KV WV) (ee K) (ee K) []
 oo:Oo W O nu da fu nv tv Ln Lt
 bx:Bk W Y 186 nd.cells
 on:∀k∈Y::ez O nv tv Ln Lt,(k ∉ cW S hv kv wv KV WV/\k ∉ ee K)/\w.heap.size<=k
 yn:Y ∉ ez O nv tv Ln Lt
section
variable {w W:World} {S:Nat} {c:Cd} {c0 hv kv wv:Value} {KV WV:List Value} {K:List (List En)} {s:Sr} {O:Nat} {nu da fu:Bool} {nv tv:Value} {Ln Lt:List FE} {Y:Nat} {nd:Nd}
theorem Sx.bad(h:Sx w W S c c0 hv kv wv KV WV K s O nu da fu nv tv Ln Lt Y nd){n:Nat}(hn:n<K.length){t:Nat}(ht:t<5){g cap:Nat}(hg:WV.getD n aJ=.slice (some ⟨g,0,none⟩) 5 cap):Sx w (W.setCell ⟨g,t,none⟩ (.bool true)) S c c0 hv kv wv KV WV K (mm n t s) O nu da fu nv tv Ln Lt Y nd:=by
 obtain⟨h1,h2⟩:=h.sh.bad hn ht hg;have aL:∀k∈Y::ez O nv tv Ln Lt,(W.setCell ⟨g,t,none⟩ (.bool true)).heap[k]?=W.heap[k]?:=λk hk=>heap_setCell _ _ _ _ (λe=>(h.on k hk).1.1 (by rw[show k=g from e];exact h2));exact⟨h1,h.go.trans (ii.stp (X:=[]) ((au.refl [g] W).setCell (p:=⟨g,t,none⟩) (zq0 (by simp)) (.bool true)) (λk hk=>zq0 (by rw[mem_singleton]at hk;rw[hk];exact h2))) (λk hk=>by simp at hk),h.oo.of_eq (λk hk=>aL k (mem_cons_of_mem _ hk)),h.bx.of_eq (aL Y (by simp)),h.on,h.yn⟩
theorem Sx.full(h:Sx w W S c c0 hv kv wv KV WV K s O nu da fu nv tv Ln Lt Y nd):Sx w (W.setCell ⟨S,8,none⟩ (.bool true)) S c c0 hv kv wv KV WV K { s with fu:=true } O nu da fu nv tv Ln Lt Y nd:=by
 have hs:au [S] W [S] (W.setCell ⟨S,8,none⟩ (.bool true)):=(au.refl [S] W).setCell (p:=⟨S,8,none⟩) (zq0 (by simp)) (.bool true);have h1:=h.sh.own (s':={ s with fu:=true }) (h.sh.bs.set 8 (.bool true)) hs (λk hk=>zq0 (mem_singleton.1 hk)) rfl rfl;have aL:∀k∈Y::ez O nv tv Ln Lt,(W.setCell ⟨S,8,none⟩ (.bool true)).heap[k]?=W.heap[k]?:=λk hk=>heap_setCell _ _ _ _ (λe=>(h.on k hk).1.1 (by rw[show k=S from e];exact gL));exact⟨h1,h.go.trans (ii.stp (X:=[]) hs (λk hk=>zq0 (by rw[mem_singleton]at hk;rw[hk];exact gL))) (λk hk=>by simp at hk),h.oo.of_eq (λk hk=>aL k (mem_cons_of_mem _ hk)),h.bx.of_eq (aL Y (by simp)),h.on,h.yn⟩
theorem Sx.lp(h:Sx w W S c c0 hv kv wv KV WV K s O nu da fu nv tv Ln Lt Y nd)(ht:∀x∈Ln,Td x.f):Lp w W S c c0 hv kv wv KV WV K [] KV K s nv Ln 0 (Y::O::bn tv Lt):=by
 have c9:=nodup_cons.1 h.oo.nd;have vy:=nodup_append.1 c9.2;have e:mU nv Ln 0=bn nv Ln:=by simp[mU,bn]
 refine⟨h.sh,rfl,h.go,⟨h.oo.nx.pend,ht,λk hk=>?_⟩,λk hk=>?_,λk hk=>zq1 ?_⟩
 .rw[e]at hk;exact(h.on k (by simp only[ez,mem_cons,mem_append];exact zq1 (zq1 (zq0 hk)))).1
 .have hm:k∈Y::ez O nv tv Ln Lt:=by
   simp only[ez,mem_cons,mem_append]at hk ⊢;rcases hk with p|p|p
   .exact zq0 p
   .exact zq1 (zq0 p)
   .exact zq1 (zq1 (zq1 p))
  refine⟨(h.on k hm).1,λhn=>?_,?_⟩
  .rw[e]at hn;rcases mem_cons.1 hk with p|p
   .exact h.yn (by rw[<-p];simp only[ez,mem_cons,mem_append];exact zq1 (zq0 hn))
   .rcases mem_cons.1 p with p|p
    .exact c9.1 (by rw[<-p];exact mem_append_left _ hn)
    .exact vy.2.2 k hn k p rfl
  .rcases mem_cons.1 hm with p|p
   .rw[p];exact h.bx.lt
   .exact h.oo.lt k p
 .rw[e]at hk;exact(h.on k (by simp only[ez,mem_cons,mem_append];exact zq1 (zq1 (zq0 hk)))).2
end
