import Derived.Test.YtciihepbeacppaaGreatM21
set_option maxRecDepth 100000
set_option maxHeartbeats 0
namespace Go.Proofs.YtciihepbeacppaaGreat
open Tryz Go.RowKit List World Below
set_option linter.unusedVariables false
theorem bG{α:Type}{l:List α}{d:α}{i:Nat}(h:i<l.length):l.getD i d=l[i]:=by simp[h]
theorem infoEn:(prog.info? 258).map (λi=>(i.zero,i.size,i.bytes))=some (some (.agg #[.pointer none,.bool false]),2,16):=by kernel_rfl
structure ij(w w':World)(F F' D D' X:List Nat):Prop where
 st:ar (F++X) w F' w'
 dr:∀k∈D',k∈D\/k∈X\/w.heap.size<=k
theorem ij.trans{w w1 w2:World}{F F1 F2 D D1 D2 X Y:List Nat}(h:ij w w1 F F1 D D1 X)(h2:ij w1 w2 F1 F2 D1 D2 Y)(hY:∀k∈Y,k∈X\/w.heap.size<=k):ij w w2 F F2 D D2 X:=by
 have us:∀k∈F1++Y,k∈F++X\/w.heap.size<=k:=λk hk=>by
  rcases mem_append.1 hk with p|p
  .exact h.st.foot k p
  .rcases hY k p with q|q
   .exact zq0 (mem_append_right _ q)
   .exact zq1 q
 refine⟨⟨h2.st.os.trans h.st.os,h2.st.tape.trans h.st.tape,h2.st.output.trans h.st.output,zq3 h.st.size h2.st.size,λk hk hn=>?_,λk hk=>?_⟩,λk hk=>?_⟩
 .refine(h2.st.block k (zq6 hk h.st.size) (λe=>?_)).trans (h.st.block k hk hn);rcases us k e with p|p
  .exact hn p
  .omega
 .rcases h2.st.foot k hk with p|p
  .exact us k p
  .exact zq1 (zq3 h.st.size p)
 .rcases h2.dr k hk with p|p|p
  .exact h.dr k p
  .rcases hY k p with q|q
   .exact zq1 (zq0 q)
   .exact zq1 (zq1 q)
  .exact zq1 (zq1 (zq3 h.st.size p))
theorem ij.below{w w':World}{F D X:List Nat}(h:Below w.heap.size w w'):ij w w' F F D D X:=⟨⟨h.os,h.tape,h.output,h.size,λk hk _=>h.block k hk,λ_ hk=>zq0 (mem_append_left _ hk)⟩,λ_ hk=>zq0 hk⟩
theorem ij.stp{w w':World}{F D X G G':List Nat}(h:ar G w G' w')(hG:∀k∈G,k∈F\/k∈X):ij w w' F F D D X:=⟨⟨h.os,h.tape,h.output,h.size,λk hk hn=>h.block k hk (λe=>hn (mem_append.2 (hG k e))),λ_ hk=>zq0 (mem_append_left _ hk)⟩,λ_ hk=>zq0 hk⟩
theorem amH{W:World}{B g cap n i:Nat}{L:List En}(hr:W.ownsRow B 258 2 (.slice (some ⟨g,0,none⟩) n cap) n (rG L))(hn:n=L.length)(hi:i<n)(e:En):
  ((W.setCell ⟨g,i*2,none⟩ (.pointer (some ⟨e.D,0,none⟩))).setCell ⟨g,i*2+1,none⟩ (.bool e.d)).ownsRow B 258 2 (.slice (some ⟨g,0,none⟩) n cap) n (rG (L.set i e)) /\
  ((∃u,W.cell? ⟨g,i*2,none⟩=some u)/\∃u,W.cell? ⟨g,i*2+1,none⟩=some u) /\
  W.frozen? ⟨g,i*2,none⟩=false/\W.frozen? ⟨g,i*2+1,none⟩=false:=by
 subst hn;have r3:=((hr.stored (i*2) (.pointer (some ⟨e.D,0,none⟩))).1.stored (i*2+1) (.bool e.d)).1;rw[If hi]at r3;have x0:=(hr.cellAt (i*2) (by omega)).trans (qC hi).1;have x1:=(hr.cellAt (i*2+1) (by omega)).trans (qC hi).2;exact⟨r3,⟨⟨_,x0⟩,⟨_,x1⟩⟩,hr.frozenAt _,hr.frozenAt _⟩
theorem mV{W:World}{B g cap n i:Nat}{L:List En}(hr:W.ownsRow B 258 2 (.slice (some ⟨g,0,none⟩) n cap) n (rG L))(hn:n=L.length)(hi:i<n):W.cell? ⟨g,i*2,none⟩=some (.pointer (some ⟨(L[i]'(by omega)).D,0,none⟩))/\W.cell? ⟨g,i*2+1,none⟩=some (.bool (L[i]'(by omega)).d):=by
 subst hn;exact⟨(hr.cellAt (i*2) (by omega)).trans (qC hi).1,(hr.cellAt (i*2+1) (by omega)).trans (qC hi).2⟩
theorem En.one(e:En):∀u∈e.c,u.oneCell'=true:=by
 intro u hu;simp only[En.c,mem_cons,not_mem_nil,or_false]at hu;rcases hu with rfl|rfl <;> rfl
section
variable {w:World} {S:Nat} {c:Cd} {c0 hv kv wv:Value} {KV WV:List Value} {K:List (List En)} {s:Sr} {x:FE}
theorem Sh.knE(h:Sh w S c c0 hv kv wv KV WV K s)(n:Nat):br s n=(K.getD n []).map En.m:=by
 unfold br;rw[h.km];by_cases hn:n<K.length
 .simp[hn]
 .simp[getD_eq_getElem?_getD,getElem?_eq_none (Nat.le_of_not_lt hn)]
theorem Sh.kc(h:Sh w S c c0 hv kv wv KV WV K s){n:Nat}(hn:n<K.length):∃g cap,kv=.slice (some ⟨g,0,none⟩) K.length cap/\w.cell? ⟨g,n,none⟩=some (KV.getD n aJ):=by
 obtain⟨g,cap,hv,-,-,-⟩:=b9 h.kr (by omega);have gK:=h.kvl;refine⟨g,cap,hv,?_⟩;have:=h.kr;rw[hv]at this;rw[this.cellAt n (by omega),getElem?_eq_getElem (by omega),bG (by omega)]
theorem Sh.hc(h:Sh w S c c0 hv kv wv KV WV K s){n:Nat}(hn:n<K.length):∃g cap,hv=.slice (some ⟨g,0,none⟩) K.length cap/\w.cell? ⟨g,n,none⟩=some (.bool (c.hd.getD n false)):=by
 have hl:=h.hl;obtain⟨g,cap,hv,-,-,-⟩:=b9 h.hr (by omega);refine⟨g,cap,by rw[hv,hl],?_⟩;have:=h.hr;rw[hv]at this;rw[this.cellAt n (by omega)];exact fQ (by omega)
def il(w:World)(S:Nat)(c:Cd)(c0 hv kv wv:Value)(KV WV:List Value)(K:List (List En))(X:List Nat)(s':Sr)(w':World):Prop :=
 ∃KV' K',Sh w' S c c0 hv kv wv KV' WV K' s'/\K'.length=K.length/\ij w w' (cZ S hv kv wv KV WV) (cZ S hv kv wv KV' WV) (et K) (et K') X
theorem Sh.as(h:Sh w S c c0 hv kv wv KV WV K s){s':Sr}(e1:s'.kn=s.kn)(e2:s'.wr=s.wr)(e3:s'.lf=s.lf)(e4:s'.lo=s.lo)(e5:s'.fu=s.fu):Sh w S c c0 hv kv wv KV WV K s' :=
 ⟨by rw[e3,e4,e5];exact h.bs,h.hr,h.kr,h.ke,h.wr,by rw[e2];exact h.we,by rw[e2];exact h.wl,h.hl,h.nl,by rw[e1];exact h.km,h.dr,h.nd,h.da⟩
end
section
variable {w W:World} {S:Nat} {c:Cd} {c0 hv kv wv:Value} {KV WV:List Value} {K:List (List En)} {s:Sr} {n:Nat} {g:CF} {D A:Nat} {av ov:Value}
theorem Vf{o:Obj}{W1:World}{row:Option Nat}{F:List Nat}(h:Sh w S c c0 hv kv wv KV WV K s)(hn:n<K.length)(bq:(KV.getD n aJ).ownBlock=row)(hW:ar row.toList w F W)(hg:(W.alloc o).grownBy W1 row):
  Bk W1 S 229 (qt c0 hv c.lp kv wv c.bd s.lf s.lo s.fu)/\W1.ownsRow 0 255 1 kv K.length KV:=by
 have hK:=h.kvl;have Cw:(pB S hv kv wv KV WV)[4+n]?=some row:=by rw[yA (by omega),bq]
 have tp:∀i k,i≠4+n->(pB S hv kv wv KV WV)[i]?=some (some k)->W1.heap[k]?=w.heap[k]?:=λi k hi hk=>by
  have aH:row≠some k:=λe=>hi (h.nd i (4+n) k hk (by rw[Cw,e]));have au:=h.lt k (bQ hk);exact((hg.block k (by have:=hW.size;simp;omega) aH.symm).trans (heap_alloc _ _ _ (zq6 au hW.size))).trans (hW.block k au (by simpa[eq_comm] using aH))
 exact⟨h.bs.of_eq (tp 0 S (by omega) rfl),ae h.kr (λk hk=>tp 2 k (by omega) (congrArg some hk))⟩
theorem Il{l:List En}{P:En->Bool}{i:Nat}(hi:i<l.length):(l.take (i+1)).filter P=(l.take i).filter P++if P l[i]=true then [l[i]] else []:=by
 rw[take_succ_eq_append_getElem hi,filter_append];congr 1;by_cases h:P l[i]=true <;> simp[h]
theorem Qw(a:Option Addr)(i j i' j':Nat):(Value.slice a i j).ownBlock=(Value.slice a i' j').ownBlock:=by cases a <;> rfl
theorem Ve {o:Obj} {W1:World} {gk ck g1 c1:Nat} {row:Option Nat} {F:List Nat} (h:Sh w S c c0 hv (.slice (some ⟨gk,0,none⟩) K.length ck) wv KV WV K s) (hn:n<K.length)
  (bq:(KV.getD n aJ).ownBlock=row) (hD:rC W D A g av ov) (hT:Td g) (hW:ar row.toList w F W)
  (aac:∀k∈D::aG A av ov,k ∉ cZ S hv (.slice (some ⟨gk,0,none⟩) K.length ck) wv KV WV)
  (aL:W1.ownsRow 0 258 2 (.slice (some ⟨g1,0,none⟩) (((K.getD n []).filter (λe=>!Ei e.x.f g)).length+1) c1) (((K.getD n []).filter (λe=>!Ei e.x.f g)).length+1) (rG ((K.getD n []).filter (λe=>!Ei e.x.f g))++[.pointer (some ⟨D,0,none⟩),.bool false]))
  (hg:(W.alloc o).grownBy W1 row) (cC:some g1=row\/g1=(W.alloc o).heap.size) :
  ∃KV' K',Sh (W1.setCell ⟨gk,n,none⟩ (.slice (some ⟨g1,0,none⟩) (((K.getD n []).filter (λe=>!Ei e.x.f g)).length+1) c1)) S c c0 hv (.slice (some ⟨gk,0,none⟩) K.length ck) wv KV' WV K' (pX n g s)/\K'.length=K.length /\
   ar (cZ S hv (.slice (some ⟨gk,0,none⟩) K.length ck) wv KV WV) w (cZ S hv (.slice (some ⟨gk,0,none⟩) K.length ck) wv KV' WV) (W1.setCell ⟨gk,n,none⟩ (.slice (some ⟨g1,0,none⟩) (((K.getD n []).filter (λe=>!Ei e.x.f g)).length+1) c1))/\∀k∈et K',k∈et K\/k∈D::aG A av ov:=by
 obtain⟨l,hl⟩:∃l,l=K.getD n []:=⟨_,rfl⟩;rw[<-hl]at aL ⊢;obtain⟨M,hM⟩:∃M,M=l.filter (λe=>!Ei e.x.f g):=⟨_,rfl⟩;rw[<-hM]at aL ⊢;obtain⟨v',hv'⟩:∃v',v'=Value.slice (some ⟨g1,0,none⟩) (M.length+1) c1:=⟨_,rfl⟩;have UR:v'.ownBlock=some g1:=by rw[hv'];rfl
 rw[<-hv']at aL ⊢;have hK:=h.kvl;have mP:W.heap.size<=W1.heap.size:=zq3 (by simp) hg.size;have Cw:(pB S hv (.slice (some ⟨gk,0,none⟩) K.length ck) wv KV WV)[4+n]?=some row:=by rw[yA (by omega),bq]
 have mL:(pB S hv (.slice (some ⟨gk,0,none⟩) K.length ck) wv KV WV)[2]?=some (some gk):=rfl;have UD:row≠some gk:=λe=>by
  have:=h.nd (4+n) 2 gk (by rw[Cw,e]) mL;omega
 -- what is neither the row's nor known's is as it was
 have tp:∀k,k<W.heap.size->row≠some k->W1.heap[k]?=W.heap[k]?:=λk hk aH=>(hg.block k (by simp;omega) aH.symm).trans (heap_alloc _ _ _ hk);have AL:∀k,k<w.heap.size->row≠some k->W1.heap[k]?=w.heap[k]?:=λk hk aH=>(tp k (zq6 hk hW.size) aH).trans (hW.block k hk (by simpa[eq_comm] using aH));have cU:∀k,k≠gk->(W1.setCell ⟨gk,n,none⟩ v').heap[k]?=W1.heap[k]?:=λk hk=>heap_setCell _ _ _ _ hk;have hrs:∀k,row=some k->k∈cZ S hv (.slice (some ⟨gk,0,none⟩) K.length ck) wv KV WV:=λk hk=>bQ (by rw[Cw,hk]);have xT:gk∈cZ S hv (.slice (some ⟨gk,0,none⟩) K.length ck) wv KV WV:=bQ mL;have als:=h.lt gk xT;have KW:some g1=row\/W.heap.size<=g1:=by
  rcases cC with e|e
  .exact zq0 e
  .right;rw[e];simp
 have hg1k:g1≠gk:=λe=>by
  rcases KW with q|q
  .exact UD (by rw[<-q,e])
  .have:=hW.size;omega
 have us:∀k∈cZ S hv (.slice (some ⟨gk,0,none⟩) K.length ck) wv (KV.set n v') WV,k∈cZ S hv (.slice (some ⟨gk,0,none⟩) K.length ck) wv KV WV\/W.heap.size<=k:=λk hk=>by
  obtain⟨i,hi⟩:=aU.1 hk;rw[Gv v' (by omega),getElem?_set]at hi;split at hi
  .split at hi
   .simp only[Option.some.injEq]at hi;rw[UR]at hi;injection hi with hi;subst hi;rcases KW with q|q
    .exact zq0 (hrs _ q.symm)
    .exact zq1 q
   .simp at hi
  .exact zq0 (bQ hi)
 have hkr:W1.ownsRow 0 255 1 (.slice (some ⟨gk,0,none⟩) K.length ck) K.length KV:=ae h.kr (λk hk=>by
  have e:gk=k:=by simpa[Value.ownBlock] using hk
  subst e;exact AL gk als UD)
 have hdl:∀k∈et K,(W1.setCell ⟨gk,n,none⟩ v').heap[k]?=w.heap[k]?:=λk hk=>by
  rw[cU k (λe=>h.da k hk (by rw[e];exact xT))];exact AL k (h.drlt k hk) (λe=>h.da k hk (hrs k e))
 have hlK:l∈K:=by rw[hl,bG hn];exact getElem_mem hn
 have iH:∀k∈D::aG A av ov,(W1.setCell ⟨gk,n,none⟩ v').heap[k]?=W.heap[k]?:=λk hk=>by
  rw[cU k (λe=>aac k hk (by rw[e];exact xT))];exact tp k (hD.lt k hk) (λe=>aac k hk (hrs k e))
 have sn:=h.put hn (w':=W1.setCell ⟨gk,n,none⟩ v') (v':=v') (l':=M++[⟨D,⟨A,g,av,ov⟩,false⟩]) (λi k h2 h4 hi=>by
   rw[cU k (λe=>h2 (h.nd i 2 k hi (by rw[e];exact mL)))];exact AL k (h.lt k (bQ hi)) (λe=>h4 (h.nd i (4+n) k hi (by rw[Cw,e])))) (hkr.stored n v').1 (by
   rw[length_append,length_singleton,TR];exact cF aL (p:=⟨gk,n,none⟩) (by rw[UR];intro e;injection e with e;exact hg1k e) v') (λk hk=>by
   rw[UR]at hk;injection hk with hk;subst hk;rcases KW with q|q
   .exact zq0 (by rw[bq,q])
   .exact zq1 (zq3 hW.size q)) hdl (λe he=>by
   rcases mem_append.1 he with p|p
   .have mJ:e∈l:=(by rw[hM]at p;exact(mem_filter.1 p).1);refine⟨(h.dr l hlK e mJ).of_eq (λk hk=>hdl k (bC.2 ⟨l,hlK,e,mJ,hk⟩)),λk hk hm=>?_⟩;have hq:=bC.2 ⟨l,hlK,e,mJ,hk⟩;rcases us k hm with q|q
    .exact h.da k hq q
    .have:=h.drlt k hq;have:=hW.size;omega
   .rw[mem_singleton]at p;subst p;refine⟨⟨hD.of_eq iH,hT⟩,λk hk hm=>?_⟩;rcases us k hm with q|q
    .exact aac k hk q
    .have:=hD.lt k hk;omega)
 refine⟨KV.set n v',K.set n (M++[⟨D,⟨A,g,av,ov⟩,false⟩]),sn.as (s':=pX n g s) ?_ rfl rfl rfl rfl,length_set,⟨hg.os.trans hW.os,hg.tape.trans hW.tape,hg.output.trans hW.output,?_,λk hk hm=>?_,λk hk=>?_⟩,λk hk=>?_⟩
 .show s.kn.set n _=s.kn.set n _;rw[h.knE n,<-hl,hM,map_append,filter_map];rfl
 .simpa[World.setCell] using zq3 hW.size mP
 .rw[cU k (λe=>hm (by rw[e];exact xT))];exact AL k hk (λe=>hm (hrs k e))
 .rcases us k hk with q|q
  .exact zq0 q
  .exact zq1 (zq3 hW.size q)
 .obtain⟨l2,yq,e,mJ,hk⟩:=bC.1 hk;rcases mem_or_eq_of_mem_set yq with p|p
  .exact zq0 (bC.2 ⟨l2,p,e,mJ,hk⟩)
  .subst p;rcases mem_append.1 mJ with q|q
   .exact zq0 (bC.2 ⟨l,hlK,e,by rw[hM]at q;exact(mem_filter.1 q).1,hk⟩)
   .rw[mem_singleton]at q;subst q;exact zq1 hk
end
section
variable {w:World} {S:Nat} {c:Cd} {c0 hv kv wv:Value} {KV WV:List Value} {K:List (List En)} {s:Sr} {x:FE}
theorem En.m_any(l:List En)(P:CF->Bool):(l.map En.m).any (λe=>P e.f)=l.any (λe=>P e.x.f):=by rw[any_map];rfl
theorem P4(h:Sh w S c c0 hv kv wv KV WV K s)(hx:Fm w x.A x.f x.av x.ov)(hT:Td x.f)(hd:∀k∈x.bs,k ∉ cZ S hv kv wv KV WV/\k ∉ et K){n:Nat}(hn:n<K.length)(yi:K.length<=100000)(bn:(bz c n x.f s).ok=true):
  Calls prog 201 #[.pointer (some ⟨S,0,none⟩),.int .i64 n,.pointer (some ⟨x.A,0,none⟩)] w λe w'=>e=.returned (.tuple #[])/\il w S c c0 hv kv wv KV WV K x.bs (bz c n x.f s) w':=by
 obtain⟨i0,lw,gY,gz,gL⟩:=info_parts infoEn;have vQ:=(oh bn).2;have gw:=h.knE n;rw[gw,length_map]at vQ;obtain⟨hB,hC,hhv,chd⟩:=h.hc hn;subst hhv;obtain⟨kB,kC,SH,-⟩:=h.kc hn;subst SH;have c1:=h.bs.cell 1 rfl;obtain⟨l,hl⟩:∃l,l=K.getD n []:=⟨_,rfl⟩;rw[<-hl]at vQ gw;have EH:l.length<=1000000000000:=vQ;obtain⟨va,vc,AP,PQ,UQ⟩:=am (h.ke n hn);rw[<-hl]at AP PQ;have hTG:Td (bI c n x.f):=Be hT;have agH:∀(w':World) (s':Sr),s'=bz c n x.f s->il w S c c0 (.slice (some ⟨hB,0,none⟩) K.length hC) (.slice (some ⟨kB,0,none⟩) K.length kC) wv KV WV K x.bs s' w'->(Ending.returned (.tuple #[]):Ending)=.returned (.tuple #[])/\il w S c c0 (.slice (some ⟨hB,0,none⟩) K.length hC) (.slice (some ⟨kB,0,none⟩) K.length kC) wv KV WV K x.bs (bz c n x.f s) w':=λw' s' e hp=>⟨rfl,by rw[<-e];exact hp⟩;have agi:bz c n x.f s=if l.any (λe=>Ei (bI c n x.f) e.x.f)=true then { oZ c s (2*l.length) with ok:=s.ok&&decide (l.length<=tH) } else sL c (pX n (bI c n x.f) (oZ c s (2*l.length))):=by
  unfold bz;rw[gw,length_map,En.m_any l (λf=>Ei (bI c n x.f) f)]
 obtain⟨QP,hQP⟩:∃QP:Ending->World->Prop,QP=(λe w'=>e=.returned (.tuple #[])/\il w S c c0 (.slice (some ⟨hB,0,none⟩) K.length hC) (.slice (some ⟨kB,0,none⟩) K.length kC) wv KV WV K x.bs (bz c n x.f s) w'):=⟨_,rfl⟩;rw[<-hQP];have HQ:Hid (∀(w':World),il w S c c0 (.slice (some ⟨hB,0,none⟩) K.length hC) (.slice (some ⟨kB,0,none⟩) K.length kC) wv KV WV K x.bs (bz c n x.f s) w'->QP (.returned (.tuple #[])) w'):=ab (λw' hp=>by rw[hQP];exact⟨rfl,hp⟩);have J6:=ab agi;have H:=ab h;have HX:=ab hx;have HT:=ab hT;have HTG:=ab hTG;have HD:=ab hd;have HL:=ab hl;have YE:=ab AP;obtain⟨xA,xf,xav,xov⟩:=x;simp only at HX HT HTG J6 HQ hTG ⊢;have XN:(⟨xA,xf,xav,xov⟩:FE).bs=aG xA xav xov:=rfl;rw[XN]at HD HQ;have i1:(0:Int)<=(n:Int):=by omega
 have i2:(n:Int)<(K.length:Int):=by omega
 clear h hx hT hd hl AP agi agH gw bn vQ hQP hTG XN;obtain⟨G,hG⟩:∃G,G=bI c n xf:=⟨_,rfl⟩;rw[<-hG]at HTG J6;cases hh:c.hd.getD n false
 focus
  rw[hh]at chd;have zi:G=xf:=by rw[hG];unfold bI;rw[if_neg (by rw[hh];decide)]
  have R8:Hid (Fm w xA G xav xov/\ar (aG xA xav xov) w (aG xA xav xov) w):=ab ⟨by rw[zi];exact uh HX,ar.refl _ _⟩;clear hG zi hh HX;go_enter func201,ntmps201;go_upto_region 3 with fail;obtain⟨W1,d9⟩:∃W1,W1=w:=⟨_,rfl⟩;have Ym:Hid (∃av1 ov1,Fm W1 xA G av1 ov1/\ar (aG xA xav xov) w (aG xA av1 ov1) W1):=ab ⟨xav,xov,by rw[d9];exact(uh R8).1,by rw[d9];exact(uh R8).2⟩;rw[<-d9];clear d9 R8
 rotate_left
 focus
  rw[hh]at chd;have zi:G=aQ (Av xf):=by rw[hG];unfold bI;rw[if_pos hh]
  have Ha:=ab (Oz (uh HX) (zq3 (uh HT).ok.owLen (by omega)));have Yn:Hid (aj (Av xf)/\(Av xf).ap=xf.ap):=ab (dq _ (uh HT).ok);clear hG hh;go_enter func201,ntmps201;go_wp2_with fail
  refine(uh Ha).mono ?_;rintro e w0 ⟨rfl,ov0,FC,OY⟩;have He:=ab (lL FC (uh Yn).1 (by rw[(uh Yn).2];exact zq3 (uh HT).ln (by omega)));have sR:=ab OY;clear FC OY Ha Yn;go_wp2_with fail
  refine(uh He).mono ?_;rintro e W1 ⟨rfl,av1,ov1,gg,bU⟩;have Ym:Hid (∃av1 ov1,Fm W1 xA G av1 ov1/\ar (aG xA xav xov) w (aG xA av1 ov1) W1):=ab ⟨av1,ov1,by rw[zi];exact gg,(uh sR).trans bU⟩;clear gg bU zi He sR HX;go_upto_region 3 with fail
 all_goals
  obtain⟨av1,ov1,gg,bU⟩:=uh Ym;have af5:∀k∈aG xA av1 ov1,(k ∉ cZ S (.slice (some ⟨hB,0,none⟩) K.length hC) (.slice (some ⟨kB,0,none⟩) K.length kC) wv KV WV/\k ∉ et K)/\(k∈aG xA xav xov\/w.heap.size<=k):=λk hk=>by
   rcases bU.foot k hk with p|p
   .exact⟨uh HD k p,zq0 p⟩
   .exact⟨⟨λe=>by have:=(uh H).lt k e;omega,λe=>by have:=(uh H).drlt k e;omega⟩,zq1 p⟩
  have h1:=(uh H).stp bU (λk hk e=>(uh HD k e).1 hk) (λk hk e=>(uh HD k e).2 hk);have HDR:=ab (NR gg.is (uh HTG).ok);have aeZ:=gg.lt;have H1:=ab (zq2 h1 (zq2 bU (zq2 af5 aeZ)));clear gg bU af5 h1 Ym aeZ;go_wp2_with fail
  refine(uh HDR).mono ?_;rintro e w2 ⟨D,rfl,hD2,akw,aW⟩;have h2:=(uh H1).1.below aW;have c3:=h2.bs.cell 3 rfl;obtain⟨kB',kC',qJ,ckc⟩:=h2.kc hn;simp only[Value.slice.injEq,Option.some.injEq,Addr.mk.injEq,and_true,true_and]at qJ;obtain⟨rfl,rfl⟩:=qJ;rw[uh YE]at ckc;obtain⟨q,hq⟩:∃q,q=2*l.length:=⟨_,rfl⟩;rw[<-hq]at J6;have hqw:IntKind.i64.wrap (2*(l.length:Int))=(q:Int):=by rw[IntKind.wrap_i64];omega
  have Sg:=ab (Qc h2.bs q);have Cr:∀k∈D::aG xA av1 ov1,(k ∉ cZ S (.slice (some ⟨hB,0,none⟩) K.length hC) (.slice (some ⟨kB,0,none⟩) K.length kC) wv KV WV/\k ∉ et K)/\(k∈aG xA xav xov\/w.heap.size<=k):=λk hk=>by
   rcases mem_cons.1 hk with p|p
   .have hz:=(uh H1).2.1.size;exact⟨⟨λe=>by have:=(uh H1).1.lt k e;omega,λe=>by have:=(uh H1).1.drlt k e;omega⟩,zq1 (by omega)⟩
   .exact(uh H1).2.2.1 k p
  have afW:ij w w2 (cZ S (.slice (some ⟨hB,0,none⟩) K.length hC) (.slice (some ⟨kB,0,none⟩) K.length kC) wv KV WV) (cZ S (.slice (some ⟨hB,0,none⟩) K.length hC) (.slice (some ⟨kB,0,none⟩) K.length kC) wv KV WV) (et K) (et K) (aG xA xav xov):=(ij.stp (uh H1).2.1 (λk hk=>zq1 hk)).trans (ij.below (X:=[]) aW) (λk hk=>by simp at hk);have H2:=ab (zq2 h2 (zq2 hD2 (zq2 Cr afW)));clear h2 hD2 akw aW Cr afW hq H1 HDR;go_wp2_with fail
  refine(uh Sg).mono ?_;rintro e w3 ⟨rfl,AC,gj⟩;have h3:=(uh H2).1.own (s':=oZ c s q) AC gj (λk hk=>zq0 (mem_singleton.1 hk)) rfl rfl;have KB:=(uh H2).2.1.of_eq (λk hk=>gj.block k ((uh H2).2.1.lt k hk) (λe=>((uh H2).2.2.1 k hk).1.1 (by rw[mem_singleton]at e;rw[e];exact gO)));have afX:=(uh H2).2.2.2.trans (ij.stp (X:=[]) gj (λk hk=>zq0 (by rw[mem_singleton]at hk;rw[hk];exact gO))) (λk hk=>by simp at hk);have bq:=h3.ke n hn;rw[uh YE,<-uh HL]at bq;have hlK:l∈K:=by rw[uh HL,bG hn];exact getElem_mem hn
  have H3:=ab (zq2 h3 (zq2 KB (zq2 (uh H2).2.2.1 afX)));have kj:=ab bq;have Yv:=ab hlK;have cG:Hid (Below w3.heap.size w3 w3/\∀i,i<0->∀e,l[i]?=some e->Ei G e.x.f=false):=ab ⟨Below.refl _ _,λi hi=>by omega⟩;clear h3 KB afX bq hlK AC gj Sg H2 hqw c1 c3 ckc chd H HD HT;go_wp2_with fail
  go_loopg [39] l.length (λgn iv wx=>∃(k:Nat),k+gn=l.length/\iv=.int .i64 k/\Hid (Below w3.heap.size w3 wx/\∀i,i<k->∀e,l[i]?=some e->Ei G e.x.f=false))
  case atStart=>exact⟨0,by omega,rfl,cG⟩
  case round =>
   clear cG;obtain⟨k,gw,rfl,hI⟩:=hrel;obtain⟨G1,zi⟩:∃G1,G1=gk:=⟨_,rfl⟩;by_cases au:k<l.length
   .have hd:decide ((k:Int)<(l.length:Int))=true:=(by simp;omega);have ki:=eZ (uh kj) (uh hI).1;obtain⟨g,cap,dF,-,-⟩:=b9 ki (by omega);simp only[Value.slice.injEq,true_and]at dF;obtain⟨rfl,rfl⟩:=dF;obtain⟨x0,x1⟩:=mV ki rfl au;have zm:=(uh H3).1.dr l (uh Yv) l[k] (getElem_mem au);have cX:l[k]?=some l[k]:=getElem?_eq_getElem au;obtain⟨e,Mn⟩:∃e,e=l[k]:=⟨_,rfl⟩;rw[<-Mn]at x0 x1 zm cX;obtain⟨W5,s9⟩:∃W5,W5=wr.alloc (.cells #[Value.pointer (some ⟨e.D,0,none⟩),.bool e.d] 258):=⟨_,rfl⟩;have cf:Below wr.heap.size wr W5:=(by rw[s9];exact ah wr _);have eu:=(uh hI).1.trans (cf.mono (uh hI).1.size);have m0:Bk W5 wr.heap.size 258 [Value.pointer (some ⟨e.D,0,none⟩),.bool e.d]:=(by rw[s9];exact Bk.new wr _ _);obtain⟨Y,xP⟩:∃Y,Y=wr.heap.size:=⟨_,rfl⟩;rw[<-xP]at m0;have b0:=m0.cell 0 rfl;have Tn:=ab (xI ((uh H3).2.1.below eu) (zm.1.below eu) (uh HTG) zm.2);have Eo:=ab cX;have lO:=ab eu;have k1:(0:Int)<=(k:Int):=(by omega);have k2:(k:Int)<(l.length:Int):=(by omega);clear ki zm cX Mn cf m0 eu;go_upto_region 9 with fail;rw[<-s9,<-xP];clear s9 xP x0 x1;go_wp2_with fail
    refine(uh Tn).mono ?_;rintro e6 w6 ⟨rfl,kU⟩;have x9:=ab ((uh lO).trans (kU.mono (uh lO).size));clear kU Tn lO b0;cases IN:Ei G e.x.f
    .go_wp2_with fail
     go_roundg (G1-1)
     case rel=>exact⟨k+1,by omega,by go_num,ab ⟨uh x9,λi hi y hy=>by
      by_cases e':i=k
      .rw[e',uh Eo]at hy;injection hy with hy;rw[<-hy];exact IN
      .exact(uh hI).2 i (by omega) y hy⟩⟩
     case measure=>omega
    .have qG:l.any (λe=>Ei G e.x.f)=true:=(by rw[any_eq_true];exact⟨e,mem_of_getElem? (uh Eo),IN⟩);have HP:Hid (il w S c c0 (.slice (some ⟨hB,0,none⟩) K.length hC) (.slice (some ⟨kB,0,none⟩) K.length kC) wv KV WV K (aG xA xav xov) (bz c n xf s) w6):=ab (by
      rw[uh J6,if_pos qG];exact⟨KV,K,((uh H3).1.below (uh x9)).as rfl rfl rfl rfl rfl,rfl,(uh H3).2.2.2.trans (ij.below (X:=[]) (uh x9)) (λk hk=>by simp at hk)⟩)
     clear IN qG hI;go_wp2_with fail
     go_end0
     exact uh HQ _ (uh HP)
   .have hd:decide ((k:Int)<(l.length:Int))=false:=(by simp;omega);have qG:l.any (λe=>Ei G e.x.f)=false:=by
     rw[any_eq_false];intro e he;obtain⟨i,hi,rfl⟩:=mem_iff_getElem.1 he;rw[(uh hI).2 i (by omega) _ (getElem?_eq_getElem hi)];simp
    have Pt:=uh J6;rw[qG,if_neg (by decide)]at Pt;have adY:=ab Pt;obtain⟨w4,SL⟩:∃w4,w4=wr:=⟨_,rfl⟩;rw[<-SL]at hI ⊢;have nV:=(uh hI).1;have Dv:=eZ (uh kj) nV;have h4:=(uh H3).1.below nV;have HRS:Hid (∀k,(Value.slice va l.length vc).ownBlock=some k->k∈cZ S (.slice (some ⟨hB,0,none⟩) K.length hC) (.slice (some ⟨kB,0,none⟩) K.length kC) wv KV WV):=ab (λk hk=>bQ ((yA (by rw[h4.kvl];exact hn)).trans (by rw[uh YE];exact congrArg some hk)));have H4:=ab (zq2 h4 (zq2 ((uh H3).2.1.below nV) (zq2 (uh H3).2.2.1 ((uh H3).2.2.2.trans (ij.below (X:=[]) nV) (λk hk=>by simp at hk)))));have oP:=ab Dv;clear qG Pt SL nV Dv h4 hI H3 kj J6 zi;go_wp2_with fail
    go_loopg [10,11] l.length (λgn jv iv wx=>∃(i:Nat) (cur:List En),i+gn=l.length/\iv=.int .i64 i/\jv=.int .i64 (((l.take i).filter (λe=>!Ei e.x.f G)).length:Nat)/\Hid (wx.ownsRow 0 258 2 (.slice va l.length vc) l.length (rG cur)/\cur.length=l.length/\cur.take ((l.take i).filter (λe=>!Ei e.x.f G)).length=(l.take i).filter (λe=>!Ei e.x.f G)/\cur.drop i=l.drop i/\ar (Value.slice va l.length vc).ownBlock.toList w4 (Value.slice va l.length vc).ownBlock.toList wx))
    case atStart=>exact⟨0,l,by omega,rfl,rfl,ab ⟨uh oP,rfl,by simp,rfl,ar.refl _ _⟩⟩
    case round =>
     clear oP;obtain⟨i,cur,us,rfl,rfl,hJ⟩:=hrel;obtain⟨G2,FD⟩:∃G2,G2=gk:=⟨_,rfl⟩;have jx:((l.take i).filter (λe=>!Ei e.x.f G)).length<=i:=zq3 (length_filter_le _ _) (by rw[length_take];omega);have Uk:=(uh H4).2.1.of_eq (λk hk=>(uh hJ).2.2.2.2.block k ((uh H4).2.1.lt k hk) (λe=>((uh H4).2.2.1 k hk).1.1 (uh HRS k (by simpa using e))));by_cases b8:i<l.length
     .have k6:decide ((i:Int)<(l.length:Int))=true:=(by simp;omega);obtain⟨g,cap,dF,-,-⟩:=b9 (uh hJ).1 (by omega);simp only[Value.slice.injEq,true_and]at dF;obtain⟨rfl,rfl⟩:=dF;have dU:=(uh hJ).2.1;obtain⟨x0,x1⟩:=mV (uh hJ).1 dU.symm b8;have hci:cur[i]'(by omega)=l[i]:=by
       have h1:=congrArg (λm:List En=>m[0]?) (uh hJ).2.2.2.1;simp only[getElem?_drop,Nat.add_zero]at h1;rw[getElem?_eq_getElem b8,getElem?_eq_getElem (by omega)]at h1;injection h1
      have aP:=Il (P:=λe=>!Ei e.x.f G) b8;have zm:=(uh H4).1.dr l (uh Yv) l[i] (getElem_mem b8);have mJ:∀k∈l[i].bs,k∈et K:=λk hk=>bC.2 ⟨l,uh Yv,l[i],getElem_mem b8,hk⟩;rw[hci]at x0 x1;obtain⟨e,Mn⟩:∃e,e=l[i]:=⟨_,rfl⟩;obtain⟨M,hM⟩:∃M,M=(l.take i).filter (λe=>!Ei e.x.f G):=⟨_,rfl⟩;rw[<-Mn]at x0 x1 zm mJ aP;rw[<-hM]at aP jx hJ ⊢;have afO:=zm.1.of_eq (λk hk=>(uh hJ).2.2.2.2.block k (zm.1.lt k hk) (λe'=>(uh H4).1.da k (mJ k hk) (uh HRS k (by simpa using e'))));have Tn:=ab (xI afO Uk zm.2 (uh HTG));have nY:cur.drop (i+1)=l.drop (i+1):=by
       have h1:=congrArg (λm=>m.drop 1) (uh hJ).2.2.2.1;simpa[drop_drop,Nat.add_comm] using h1
      have di:=ab aP;have S6:=ab nY;have HJ:=ab (uh hJ);have xK:=ab dU;have k1:(0:Int)<=(i:Int):=(by omega);have k2:(i:Int)<(l.length:Int):=(by omega);have k3:(M.length:Int)<(l.length:Int):=(by omega);have k4:(0:Int)<=(M.length:Int):=(by omega);have ZO:M.length<l.length:=(by omega);clear hci aP zm mJ Mn hM afO nY dU hJ Uk;cases IN:Ei e.x.f G
      .rw[IN]at Tn;have MU:Hid ((l.take (i+1)).filter (λe=>!Ei e.x.f G)=M++[e]):=ab (by rw[uh di,if_pos (by rw[IN];rfl)]);clear IN di;go_wp2_with fail
       refine(uh Tn).mono ?_;rintro e6 w6 ⟨rfl,kU⟩;have hr6:=eZ (uh HJ).1 kU;have y0:=(kU.cell (block_lt_of_cell? wr _ x0)).trans x0;have y1:=(kU.cell (block_lt_of_cell? wr _ x1)).trans x1;obtain⟨r6,⟨⟨u0,z0⟩,⟨u1,z1⟩⟩,f0,f1⟩:=amH hr6 (uh xK).symm (i:=M.length) (by omega) e;have Dw:=(((uh HJ).2.2.2.2.trans (ar.ofBw kU)).setCell (p:=⟨g,M.length*2,none⟩) (zq0 (by simp[Value.ownBlock])) (.pointer (some ⟨e.D,0,none⟩))).setCell (p:=⟨g,M.length*2+1,none⟩) (zq0 (by simp[Value.ownBlock])) (.bool e.d);have sn:(cur.set M.length e).length=l.length/\(cur.set M.length e).take (M++[e]).length=M++[e]/\(cur.set M.length e).drop (i+1)=l.drop (i+1):=by
        refine⟨by rw[length_set];exact uh xK,?_,?_⟩
        .have h1:=(uh HJ).2.2.1;rw[length_append,length_singleton,take_add_one,getElem?_set_self (by rw[uh xK];exact ZO),take_set_of_le (zq4 _),h1];rfl
        .rw[drop_set_of_lt (by omega)];exact uh S6
       have HN:=ab (zq2 r6 (zq2 sn.1 (zq2 sn.2.1 (zq2 sn.2.2 Dw))));clear hr6 r6 Dw sn kU Tn HJ S6 xK x0 x1;go_wp2_with fail
       go_roundg (G2-1)
       case rel=>exact⟨i+1,_,by omega,by go_num,by rw[uh MU,length_append,length_singleton];go_num,by rw[uh MU];exact HN⟩
       case measure=>omega
      .rw[IN]at Tn;have MU:Hid ((l.take (i+1)).filter (λe=>!Ei e.x.f G)=M):=ab (by rw[uh di,if_neg (by rw[IN];decide),append_nil]);clear IN di;go_wp2_with fail
       refine(uh Tn).mono ?_;rintro e6 w6 ⟨rfl,kU⟩;have HN:=ab (zq2 (eZ (uh HJ).1 kU) (zq2 (uh xK) (zq2 (uh HJ).2.2.1 (zq2 (uh S6) ((uh HJ).2.2.2.2.trans (ar.ofBw kU))))));clear kU Tn HJ S6 xK x0 x1;go_wp2_with fail
       go_roundg (G2-1)
       case rel=>exact⟨i+1,cur,by omega,by go_num,by rw[uh MU],by rw[uh MU];exact HN⟩
       case measure=>omega
     .have k6:decide ((i:Int)<(l.length:Int))=false:=(by simp;omega);have KX:l.take i=l:=take_of_length_le (by omega);rw[KX]at hJ jx ⊢;obtain⟨M,hM⟩:∃M,M=l.filter (λe=>!Ei e.x.f G):=⟨_,rfl⟩;rw[<-hM]at hJ jx ⊢;have ZO:M.length<=l.length:=(by omega);have HRT:Hid (wr.ownsRow 0 258 2 (.slice va M.length vc) M.length (rG M)):=ab (by
       have h1:=DQ (uh hJ).1 ZO;rw[N1,(uh hJ).2.2.1]at h1;exact h1)
      have q1:(0:Int)<=(M.length:Int):=(by omega);have q2:(M.length:Int)<=(vc:Int):=(by omega);have HJ:=ab (zq2 (uh hJ).2.2.2.2 Uk);have HM:=ab hM;clear KX hJ jx hM Uk;go_wp2_with (at_builtin;refine tB _ rfl (.tmp 74) (.tmp 77) 255 rfl 0 258 i0 _ 2 16 underlying255 lw gY gz gL rfl (by decide) _ M.length (rG M) rfl ((uh HRT).alloc _) ⟨_,0,none⟩ 1 [.pointer (some ⟨D,0,none⟩),.bool false] rfl rfl (aN _ _ (by simp) [.pointer (some ⟨D,0,none⟩),.bool false] _) (En.one ⟨D,⟨xA,G,av1,ov1⟩,false⟩) (by omega) (by omega) (zq5 _) ?_)
      intro g7 cap7 w7 iM dN gi;have hrw:(KV.getD n aJ).ownBlock=(Value.slice va M.length vc).ownBlock:=(by rw[uh YE];exact Qw _ _ _ _ _);have ti:(Value.slice va l.length vc).ownBlock=(Value.slice va M.length vc).ownBlock:=Qw _ _ _ _ _;have UP:=(uh HJ).1;rw[ti]at UP;obtain⟨afF,aak⟩:=Vf (uh H4).1 hn hrw UP dN;have c3:=afF.cell 3 rfl;have arG:=(uh H4).1.kvl;have ck:=aak.cellAt n (by omega);have hnk:n<KV.length:=(by omega);rw[getElem?_eq_getElem hnk]at ck;have zk:=aak.frozenAt n;have afN:=Ve (uh H4).1 hn hrw (uh HJ).2 (uh HTG) UP (λk hk=>((uh H4).2.2.1 k hk).1.1) (g1:=g7) (c1:=cap7) (by rw[<-uh HL,<-uh HM];exact iM) dN (by simpa using gi);rw[<-uh HL,<-uh HM]at afN;obtain⟨KV',K',C7,hK8,IK,hd8⟩:=afN;have L7:=ab (zR C7.bs);have H8:=ab (zq2 C7 (zq2 hK8 (zq2 IK hd8)));clear iM dN gi hrw ti UP afF aak C7 hK8 IK hd8 HRT HJ;go_wp2_with fail
      refine(uh L7).mono ?_;rintro e w9 ⟨rfl,O2,hs9⟩;have h9:=(uh H8).1.own (s':=sL c (pX n G (oZ c s q))) O2 hs9 (λk hk=>zq0 (mem_singleton.1 hk)) rfl rfl;have hP:il w S c c0 (.slice (some ⟨hB,0,none⟩) K.length hC) (.slice (some ⟨kB,0,none⟩) K.length kC) wv KV WV K (aG xA xav xov) (bz c n xf s) w9:=by
       rw[uh adY];refine⟨KV',K',h9,(uh H8).2.1,?_⟩;have g4:=(uh H4).2.2.2;have g8:ij w4 _ (cZ S (.slice (some ⟨hB,0,none⟩) K.length hC) (.slice (some ⟨kB,0,none⟩) K.length kC) wv KV WV) (cZ S (.slice (some ⟨hB,0,none⟩) K.length hC) (.slice (some ⟨kB,0,none⟩) K.length kC) wv KV' WV) (et K) (et K') (D::aG xA av1 ov1):=⟨(uh H8).2.2.1.wider (λk hk=>mem_append_left _ hk) (λk hk=>zq0 hk),λk hk=>((uh H8).2.2.2 k hk).elim zq0 (λp=>zq1 (zq0 p))⟩;exact(g4.trans g8 (λk hk=>((uh H4).2.2.1 k hk).2)).trans (ij.stp (X:=[]) hs9 (λk hk=>zq0 (by rw[mem_singleton]at hk;rw[hk];exact gO))) (λk hk=>by simp at hk)
      have HP:=ab hP;clear O2 hs9 h9 hP L7 H8;go_wp2_with fail
      go_end0
      exact uh HQ _ (uh HP)
end
structure Pn(W:World)(v:Value)(L:List FE)(j:Nat)(F D:List Nat):Prop where
 pe:gp W 0 v L j
 td:∀x∈L,Td x.f
 fd:∀k∈mY v L j,k ∉ F/\k ∉ D
theorem Pn.next{W W':World}{v:Value}{L:List FE}{j:Nat}{F F' D D':List Nat}(h:Pn W v L j F D)(hj:j<L.length)(hg:ij W W' F F' D D' L[j].bs):Pn W' v L (j+1) F' D':=by
 obtain⟨-,-,h3,h4,-⟩:=h.pe.next hj;refine⟨h3.stp hg.st (λk hk hn=>?_),h.td,λk hk=>⟨λhn=>?_,λhn=>?_⟩⟩
 .rcases mem_append.1 hn with p|p
  .exact(h.fd k (h4 k hk).1).1 p
  .exact(h4 k hk).2 p
 .rcases hg.st.foot k hn with p|p
  .rcases mem_append.1 p with p|p
   .exact(h.fd k (h4 k hk).1).1 p
   .exact(h4 k hk).2 p
  .have:=h3.lt k hk;omega
 .rcases hg.dr k hn with p|p|p
  .exact(h.fd k (h4 k hk).1).2 p
  .exact(h4 k hk).2 p
  .have:=h3.lt k hk;omega
section
variable {w w':World} {S:Nat} {c:Cd} {c0 hv kv wv:Value} {KV WV:List Value} {K:List (List En)} {s:Sr} {x:FE}
theorem Sh.wc(h:Sh w S c c0 hv kv wv KV WV K s){n:Nat}(hn:n<K.length):∃g cap g2 cap2,wv=.slice (some ⟨g,0,none⟩) K.length cap/\WV.getD n aJ=.slice (some ⟨g2,0,none⟩) 5 cap2/\w.cell? ⟨g,n,none⟩=some (.slice (some ⟨g2,0,none⟩) 5 cap2)/\(∀t,t<5->w.cell? ⟨g2,t,none⟩=some (.bool ((s.wr.getD n []).getD t false)))/\∀t,w.frozen? ⟨g2,t,none⟩=false:=by
 obtain⟨g,cap,hv,-,-,-⟩:=b9 h.wr (by omega);have h2:=h.we n hn;obtain⟨g2,cap2,AO,-,-,-⟩:=b9 h2 (by omega);have hwl:=h.wvl;rw[AO]at h2;refine⟨g,cap,g2,cap2,hv,AO,?_,λt ht=>?_,λt=>h2.frozenAt t⟩
 .have:=h.wr;rw[hv]at this;rw[this.cellAt n (by omega),getElem?_eq_getElem (by omega),<-bG (d:=aJ) (by omega),AO]
 .rw[h2.cellAt t (by omega)];have h5:(s.wr.getD n []).length=5:=by
   have:=h2.1;unfold dp at this;rw[length_map]at this;omega
  exact fQ (by omega)
theorem il.pre{X:List Nat}{s':Sr}{w1 w2:World}(h:il w1 S c c0 hv kv wv KV WV K X s' w2)(hb:Below w.heap.size w w1):il w S c c0 hv kv wv KV WV K X s' w2:=by
 obtain⟨KV',K',h1,h2,h3⟩:=h;exact⟨KV',K',h1,h2,(ij.below (X:=X) hb).trans h3 (λk hk=>zq0 hk)⟩
theorem rQ(h:Sh w S c c0 hv kv wv KV WV K s)(hx:Fm w x.A x.f x.av x.ov)(hT:Td x.f)(hd:∀k∈x.bs,k ∉ cZ S hv kv wv KV WV/\k ∉ et K){a n:Nat}(ha:a<K.length)(hn:n<K.length)(yi:K.length<=100000){fuel:Nat}(bn:(dV c fuel a n x.f s).ok=true):
  Calls prog 172 #[.pointer (some ⟨S,0,none⟩),.int .i64 a,.int .i64 n,.pointer (some ⟨x.A,0,none⟩)] w λe w'=>e=.returned (.tuple #[])/\il w S c c0 hv kv wv KV WV K x.bs (dV c fuel a n x.f s) w':=by
 have c2:=h.bs.cell 2 rfl;have yH:Hid (∀w1,Below w.heap.size w w1->(bz c n x.f s).ok=true->Calls prog 201 #[.pointer (some ⟨S,0,none⟩),.int .i64 n,.pointer (some ⟨x.A,0,none⟩)] w1 λe w'=>e=.returned (.tuple #[])/\il w S c c0 hv kv wv KV WV K x.bs (bz c n x.f s) w'):=ab (λw1 hb ho=>(P4 (h.below hb) (hx.below hb) hT hd hn yi ho).mono (λe w' hp=>⟨hp.1,hp.2.pre hb⟩));cases zn:c.lp
 .have e:dV c fuel a n x.f s=bz c n x.f s:=by unfold dV;rw[if_pos (zq0 zn)]
  rw[e]at bn ⊢;rw[zn]at c2;have HL:=ab (uh yH w (Below.refl _ _) bn);clear h hx hT hd zn e yH;go_enter func172,ntmps172;go_wp2_with fail
  refine(uh HL).mono ?_;rintro e w1 ⟨rfl,hp⟩;have HP:=ab hp;clear hp HL;go_wp2_with fail
  refine bodyPost_ret (results_none rfl _ _ _) rfl ?_;exact⟨rfl,uh HP⟩
 .rw[zn]at c2;have B7:=ab (wq hx.is hT.ok);by_cases jP:dd x.f=[]
  .have e:dV c fuel a n x.f s=bz c n x.f s:=(by unfold dV;rw[if_pos (zq1 jP)]);rw[e]at bn ⊢;have hl0:(((dd x.f).length:Int)==(0:Int))=true:=(by rw[jP];rfl);have mr:=ab bn;clear h hx hT hd zn e jP bn;go_enter func172,ntmps172;go_wp2_with fail
   refine(uh B7).mono ?_;rintro e w1 ⟨lv,rfl,tL,bB⟩;obtain⟨la,lc,iw,-,-⟩:=am tL;subst iw;have HL:=ab (uh yH w1 bB (uh mr));clear tL bB yH B7;go_wp2_with fail
   refine(uh HL).mono ?_;rintro e w2 ⟨rfl,hp⟩;have HP:=ab hp;clear hp HL;go_wp2_with fail
   refine bodyPost_ret (results_none rfl _ _ _) rfl ?_;exact⟨rfl,uh HP⟩
  .have hl0:(((dd x.f).length:Int)==(0:Int))=false:=by
    have:(dd x.f).length≠0:=λe=>jP (length_eq_zero_iff.1 e);simp;omega
   obtain⟨R,hR⟩:∃R,R=iq c fuel 0 [] ([x.f],kQ a 2 s):=⟨_,rfl⟩;have e:dV c fuel a n x.f s=R.1.foldl (λs g=>bz c n g s) R.2:=(by unfold dV;rw[if_neg (by rw[not_or];exact⟨by rw[zn];decide,jP⟩),hR]);rw[e]at bn ⊢;have afn:R.2.ok=true:=jy _ bn;have hRk:R.2.kn=s.kn/\R.2.wr=(kQ a 2 s).wr:=by
    have h1:bW [x.f]:=λy hy=>by rw[mem_singleton]at hy;subst hy;exact hT
    obtain⟨-,g2,g3⟩:=kT (c:=c) fuel 0 (r:=([x.f],kQ a 2 s)) (res:=[]) h1 (λy hy=>by simp at hy);rw[<-hR]at g2 g3;exact⟨g2,g3⟩
   have KH:R.2.lo=s.lo:=(by rw[hR];exact Oe fuel 0 [] ([x.f],kQ a 2 s));obtain⟨wB,wC,gA,cA,SM,Ux,cw,ct,hz⟩:=h.wc ha;subst SM;have c4:=h.bs.cell 4 rfl;have ct2:=ct 2 (by omega);have gL:=hz 2;have vP:=h.bad ha (t:=2) (by omega) Ux;have H:=ab h;have HX:=ab hx;have HT:=ab hT;have HD:=ab hd;have HR:=ab hR;have WK:=ab (zq2 afn (zq2 hRk KH));have mr:=ab bn;have Yh:=ab (zq2 Ux vP);have i1:(0:Int)<=(a:Int):=(by omega);have i2:(a:Int)<(K.length:Int):=(by omega);obtain⟨eI,dL⟩:∃eI:World->Prop,eI=λw'=>il w S c c0 hv kv (.slice (some ⟨wB,0,none⟩) K.length wC) KV WV K x.bs (R.1.foldl (λs g=>bz c n g s) R.2) w':=⟨_,rfl⟩;have gD:=ab dL;rw[show(fun(e:Ending) (w':World)=>e=.returned (.tuple #[])/\il w S c c0 hv kv (.slice (some ⟨wB,0,none⟩) K.length wC) KV WV K x.bs (R.1.foldl (λs g=>bz c n g s) R.2) w')=(λe w'=>e=.returned (.tuple #[])/\eI w') by rw[dL]];clear h hx hT hd zn e jP bn yH hR afn hRk KH Ux vP ct hz dL;go_enter func172,ntmps172;go_wp2_with fail
   refine(uh B7).mono ?_;rintro e w1 ⟨lv,rfl,tL,bB⟩;obtain⟨la,lc,iw,-,-⟩:=am tL;subst iw;have h1:=(uh H).below bB;obtain⟨aW,xT⟩:=h1.bad ha (t:=2) (by omega) (uh Yh).1;have d4:=h1.bs.cell 4 rfl;have dw:=(bB.cell (block_lt_of_cell? w _ cw)).trans cw;have dt:=(bB.cell (block_lt_of_cell? w _ ct2)).trans ct2;have hlA:=block_lt_of_cell? w _ ct2;have dz:w1.frozen? ⟨gA,2,none⟩=false:=by
    have h5:=h1.we a ha;rw[(uh Yh).1]at h5;exact h5.frozenAt 2
   have pV:=((uh HX).below bB).of_eq (w':=w1.setCell ⟨gA,2,none⟩ (.bool true)) (λk hk=>heap_setCell _ _ _ _ (λe=>(uh HD k hk).1 (by rw[show k=gA from e];exact xT)));have LY:=ab (CX (c:=c) (s:=kQ a 2 s) (x:=x) (B:=0) aW.bs pV (uh HT) (λq _=>zq5 _) (λe=>(uh HD S e).1 gO) (zq5 _) fuel (by rw[<-uh HR];exact(uh WK).1));rw[<-uh HR]at LY;have Pd:ij w (w1.setCell ⟨gA,2,none⟩ (.bool true)) (cZ S hv kv (.slice (some ⟨wB,0,none⟩) K.length wC) KV WV) (cZ S hv kv (.slice (some ⟨wB,0,none⟩) K.length wC) KV WV) (et K) (et K) x.bs:=(ij.below (X:=x.bs) bB).trans (ij.stp (X:=[]) ((ar.refl [gA] w1).setCell (p:=⟨gA,2,none⟩) (zq0 (by simp)) (.bool true)) (λk hk=>zq0 (by rw[mem_singleton]at hk;rw[hk];exact xT))) (λk hk=>by simp at hk);have H2:=ab (zq2 aW (zq2 Pd pV));clear tL bB h1 aW xT pV hlA Pd B7 Yh c4 ct2 cw gL c2;go_wp2_with fail
   refine(uh LY).mono ?_;rintro e w3 ⟨v3,L3,rfl,m8,agR,XC,AC,cS,gj⟩;obtain⟨va,vc,AP,-,-⟩:=am m8.row;subst AP;have h3:=(uh H2).1.own (s':=R.2) (by rw[(uh WK).2.2];exact AC) gj (λk hk=>by
    rcases mem_cons.1 hk with p|p
    .exact zq0 p
    .exact zq1 (uh HD k p)) (uh WK).2.1.1 (uh WK).2.1.2
   have hg3:=(uh H2).2.1.trans (ij.stp (X:=x.bs) gj (λk hk=>by
    rcases mem_cons.1 hk with p|p
    .exact zq0 (by rw[p];exact gO)
    .exact zq1 p)) (λk hk=>zq0 hk)
   have aai:∀k∈bf (.slice va L3.length vc) L3,k∈x.bs\/w.heap.size<=k:=λk hk=>by
    rcases gj.foot k (mem_cons_of_mem _ hk) with p|p
    .rcases mem_cons.1 p with p|p
     .exact absurd (by rw[<-p];exact hk) cS
     .exact zq0 p
    .exact zq1 (zq3 (uh H2).2.1.st.size p)
   have Cn:Pn w3 (.slice va L3.length vc) L3 0 (cZ S hv kv (.slice (some ⟨wB,0,none⟩) K.length wC) KV WV) (et K):=⟨m8.pend,agR,λk hk=>by
    have mL:k∈bf (.slice va L3.length vc) L3:=(by simpa[mY,bf] using hk);rcases aai k mL with p|p
    .exact uh HD k p
    .exact⟨λe=>by have:=(uh H).lt k e;omega,λe=>by have:=(uh H).drlt k e;omega⟩⟩
   have fq:((L3.drop 0).map (·.f)).foldl (λs g=>bz c n g s) R.2=R.1.foldl (λs g=>bz c n g s) R.2:=(by rw[drop_zero,XC]);have ajH:=ab aai;have aq0:L3.length<=9223372036854775807:=by
    obtain⟨a1,c1,e1,e2,e3⟩:=am m8.row;omega
   have cG:=ab (zq2 h3 (zq2 hg3 (zq2 Cn fq)));clear m8 agR XC AC cS gj h3 hg3 aai Cn fq H2 LY;go_wp2_with fail
   go_loopg [37] L3.length (λgn iv wx=>∃(j:Nat) (KV':List Value) (K':List (List En)) (s':Sr),j+gn=L3.length/\iv=.int .i64 j/\Hid (Sh wx S c c0 hv kv (.slice (some ⟨wB,0,none⟩) K.length wC) KV' WV K' s'/\K'.length=K.length/\ij w wx (cZ S hv kv (.slice (some ⟨wB,0,none⟩) K.length wC) KV WV) (cZ S hv kv (.slice (some ⟨wB,0,none⟩) K.length wC) KV' WV) (et K) (et K') x.bs/\Pn wx (.slice va L3.length vc) L3 j (cZ S hv kv (.slice (some ⟨wB,0,none⟩) K.length wC) KV' WV) (et K')/\((L3.drop j).map (·.f)).foldl (λs g=>bz c n g s) s'=R.1.foldl (λs g=>bz c n g s) R.2))
   case atStart=>exact⟨0,KV,K,R.2,by omega,rfl,ab ⟨(uh cG).1,rfl,(uh cG).2⟩⟩
   case round =>
    clear cG;obtain⟨j,KV',K',s',Cs,rfl,hI⟩:=hrel;obtain⟨G1,zi⟩:∃G1,G1=gk:=⟨_,rfl⟩;by_cases au:j<L3.length
    .have k6:decide ((j:Int)<(L3.length:Int))=true:=(by simp;omega);obtain⟨h1,h2,h3,h4,h5⟩:=uh hI;obtain⟨g2,cap2,dc,ax⟩:=h4.pe.cell au;simp only[Value.slice.injEq,true_and]at dc;obtain⟨rfl,rfl⟩:=dc;obtain⟨n1,-,-,-,n5⟩:=h4.pe.next au;have PO:=h4.td _ (getElem_mem au);have O9:∀k∈L3[j].bs,k ∉ cZ S hv kv (.slice (some ⟨wB,0,none⟩) K.length wC) KV' WV/\k ∉ et K':=λk hk=>h4.fd k (n5 k hk);have nY:L3.drop j=L3[j]::L3.drop (j+1):=drop_eq_getElem_cons au;rw[nY,map_cons,foldl_cons]at h5;have qL:(bz c n L3[j].f s').ok=true:=jy _ (by rw[h5];exact uh mr);have v7:∀w' tG K2,ij wr w' (cZ S hv kv (.slice (some ⟨wB,0,none⟩) K.length wC) KV' WV) (cZ S hv kv (.slice (some ⟨wB,0,none⟩) K.length wC) tG WV) (et K') (et K2) L3[j].bs->Pn w' (.slice (some ⟨g2,0,none⟩) L3.length vc) L3 (j+1) (cZ S hv kv (.slice (some ⟨wB,0,none⟩) K.length wC) tG WV) (et K2)/\ij w w' (cZ S hv kv (.slice (some ⟨wB,0,none⟩) K.length wC) KV WV) (cZ S hv kv (.slice (some ⟨wB,0,none⟩) K.length wC) tG WV) (et K) (et K2) x.bs:=λw' tG K2 hg=>⟨h4.next au hg,h3.trans hg (λk hk=>uh ajH k (mem_append_right _ (mem_flatMap.2 ⟨_,getElem_mem au,hk⟩)))⟩;obtain⟨y,hy⟩:∃y,y=L3[j]:=⟨_,rfl⟩;rw[<-hy]at ax n1 PO O9 h5 qL v7;have IQ:y.p=.pointer (some ⟨y.A,0,none⟩):=rfl;rw[IQ]at ax;have HLJ:=ab (P4 h1 n1 PO O9 (n:=n) (by omega) (by omega) qL);have qn:=ab (zq2 v7 (zq2 h2 h5));have k1:(0:Int)<=(j:Int):=(by omega);have k2:(j:Int)<(L3.length:Int):=(by omega);clear h1 h2 h3 h4 h5 n1 n5 PO O9 nY qL v7 hy IQ hI;go_wp2_with fail
     refine(uh HLJ).mono ?_;rintro e w5 ⟨rfl,tG,K2,g1,g2',g3⟩;obtain⟨p1,p2⟩:=(uh qn).1 w5 tG K2 g3;have HN:=ab (zq2 g1 (zq2 (g2'.trans (uh qn).2.1) (zq2 p2 (zq2 p1 (uh qn).2.2))));clear g1 g2' g3 p1 p2 HLJ qn;go_wp2_with fail
     go_roundg (G1-1)
     case rel=>exact⟨j+1,tG,K2,_,by omega,by go_num,HN⟩
     case measure=>omega
    .have k6:decide ((j:Int)<(L3.length:Int))=false:=(by simp;omega);have hP:eI wr:=by
      obtain⟨h1,h2,h3,h4,h5⟩:=uh hI;rw[drop_eq_nil_of_le (by omega)]at h5;rw[uh gD];refine⟨KV',K',?_,h2,h3⟩;rw[<-h5];exact h1
     have HP:=ab hP;clear hP hI;go_wp2_with fail
     go_end0
     exact⟨rfl,uh HP⟩
end
def abx(A:Nat):Value:=.pointer (some ⟨A,0,none⟩)
structure Cp(w:World)(Q:Nat)(ws:List ByteArray)(s:PS)(al:List cj)(vv pv nv:Value):Prop where
 bk:Bk w Q 105 [.string ⟨(jn ws).toArray⟩,vv,pv,nv]
 vr:w.ownsRow 0 5 1 vv s.vars.length (bc s.vars)
 pr:w.ownsRow 0 239 5 pv al.length (bO al)
 nr:w.ownsRow 0 186 6 nv s.nodes.length (bi s.nodes)
def Cf(Q:Nat)(vv pv nv:Value):List Nat:=Q::(vv.ownBlock.toList++(pv.ownBlock.toList++nv.ownBlock.toList))
section
variable {w w':World} {Q:Nat} {ws:List ByteArray} {s:PS} {al:List cj} {vv pv nv:Value}
theorem Cp.of_eq(h:Cp w Q ws s al vv pv nv)(he:∀k∈Cf Q vv pv nv,w'.heap[k]?=w.heap[k]?):Cp w' Q ws s al vv pv nv :=
 ⟨h.bk.of_eq (he Q (by simp[Cf])),ae h.vr (λk hk=>he k (by simp[Cf,hk])),ae h.pr (λk hk=>he k (by simp[Cf,hk])),ae h.nr (λk hk=>he k (by simp[Cf,hk]))⟩
theorem Cp.lt(h:Cp w Q ws s al vv pv nv):∀k∈Cf Q vv pv nv,k<w.heap.size:=by
 intro k hk;simp only[Cf,mem_cons,mem_append,Option.mem_toList]at hk;rcases hk with rfl|hk|hk|hk
 .exact h.bk.lt
 .exact(h.vr.lt k hk).2
 .exact(h.pr.lt k hk).2
 .exact(h.nr.lt k hk).2
theorem Cp.below(h:Cp w Q ws s al vv pv nv)(hb:Below w.heap.size w w'):Cp w' Q ws s al vv pv nv:=h.of_eq (λk hk=>hb.block k (h.lt k hk))
end
theorem YI.cp{B:Nat}{w:World}{Q:Nat}{ws:List ByteArray}{s:PS}{al:List cj}(h:YI B w Q ws s al):∃vv pv nv,Cp w Q ws s al vv pv nv/\∀k∈Cf Q vv pv nv,B<=k:=by
 obtain⟨vv,pv,nv,h0,hB,h1,h2,h3⟩:=h;refine⟨vv,pv,nv,⟨h0,dZ h1 (zq5 _),dZ h2 (zq5 _),dZ h3 (zq5 _)⟩,λk hk=>?_⟩;simp only[Cf,mem_cons,mem_append,Option.mem_toList]at hk;rcases hk with rfl|hk|hk|hk
 .exact hB
 .exact(h1.lt k hk).1
 .exact(h2.lt k hk).1
 .exact(h3.lt k hk).1
def ndA(nds:List Nd)(n:Nat):Nd:=nds.getD n ⟨0,0,0,0,0,0⟩
theorem Qq{l:List Nd}{k:Nat}(h:k<l.length):∀j,j<6->(bi l)[k*6+j]?=l[k].cells[j]?:=by
 induction l generalizing k with
 |nil=>simp at h
 |cons x l ih =>
  have hx:bi (x::l)=x.cells++bi l:=rfl;have hl:x.cells.length=6:=rfl;intro j hj;cases k with
  |zero=>rw[hx,getElem?_append_left (by omega)];simp
  |succ k =>
   rw[hx,getElem?_append_right (by omega),hl,show(k+1)*6+j-6=k*6+j by omega,ih (by simpa using h) j hj];rfl
theorem YY{w:World}{Q:Nat}{ws:List ByteArray}{s:PS}{al:List cj}{vv pv nv:Value}(n:Nat)(h:Cp w Q ws s al vv pv nv)(hl:s.nodes.length<=100000):
  Calls prog 103 #[.pointer (some ⟨Q,0,none⟩),.int .i64 n] w λe w'=>e=.returned (.agg (ndA s.nodes n).cells.toArray)/\Below w.heap.size w w':=by
 have c3:=h.bk.cell 3 rfl;have hQ:=h.bk.lt;have hb:=ah w (.cells #[Value.int .i64 0,.int .i64 0,.int .i64 0,.int .i64 0,.int .i64 0,.int .i64 0] 186);have d3:=(hb.cell (block_lt_of_cell? w _ c3)).trans c3;by_cases hn:n<s.nodes.length
 .obtain⟨g,cap,rfl,kH,hm,nZ⟩:=b9 h.nr (by omega);have hg:=Qq hn;have x:∀j,j<6->w.cell? ⟨g,n*6+j,none⟩=s.nodes[n].cells[j]?:=λj hj=>(h.nr.cellAt (n*6+j) (by omega)).trans (hg j hj);have x':∀j,j<6->(w.alloc (.cells #[Value.int .i64 0,.int .i64 0,.int .i64 0,.int .i64 0,.int .i64 0,.int .i64 0] 186)).cell? ⟨g,n*6+j,none⟩=s.nodes[n].cells[j]?:=λj hj=>(hb.cell (p:=⟨g,n*6+j,none⟩) nZ).trans (x j hj);have HE:Hid (ndA s.nodes n=s.nodes[n]):=ab (by simp[ndA,hn]);generalize s.nodes[n]=nd at *;obtain⟨op,v,ak,ai,nx,ot⟩:=nd;have x0:=x' 0 (by omega);have x1:=x' 1 (by omega);have x2:=x' 2 (by omega);have x3:=x' 3 (by omega);have x4:=x' 4 (by omega);have x5:=x' 5 (by omega);simp only[Nd.cells,getElem?_cons_zero,getElem?_cons_succ,Nat.add_zero]at x0 x1 x2 x3 x4 x5;clear x x' hg h c3 hb;go_enter func103,ntmps103;go_wp2_with fail
  refine bodyPost_ret (v:=.agg #[.int .i64 op,.int .i64 v,.int .i64 ak,.int .i64 ai,.int .i64 nx,.int .i64 ot]) (by simp[results,Tryz.results103,go_sem]) rfl ⟨?_,?_⟩
  .rw[uh HE];rfl
  .exact ah _ _
 .obtain⟨ao,cap,rfl,kH,hm⟩:=am h.nr;have HE:Hid (ndA s.nodes n=⟨0,0,0,0,0,0⟩):=ab (by unfold ndA;simp[List.getD,getElem?_eq_none (Nat.le_of_not_lt hn)]);have cX:(s.nodes.length:Int)<=(n:Int):=by omega
  clear h c3 hb;go_enter func103,ntmps103;go_wp2_with fail
  refine bodyPost_ret (v:=.agg #[.int .i64 0,.int .i64 0,.int .i64 0,.int .i64 0,.int .i64 0,.int .i64 0]) (by simp[results,Tryz.results103,go_sem]) rfl ⟨?_,?_⟩
  .rw[uh HE];rfl
  .exact ah _ _
structure sS(nds:List Nd):Prop where
 v:∀n,(nds.getD n aI).v<4/\(nds.getD n aI).ai<4
 op:∀n,(nds.getD n aI).op<=1000
 nx:∀n,n<nds.length->(nds.getD n aI).op≠0->(nds.getD n aI).nx<nds.length
 ot:∀n,n<nds.length->((nds.getD n aI).op=7\/(nds.getD n aI).op=8\/(nds.getD n aI).op=9)->(nds.getD n aI).ot<nds.length
theorem rU{n:Nd}{f:CF}(h:(cn n f).nx≠[]):n.op≠0:=λe=>h (by unfold cn;rw[if_pos e];rfl)
theorem rV{n:Nd}{f:CF}(h:(cn n f).ot≠[]):n.op=7\/n.op=8\/n.op=9:=by
 apply Classical.byContradiction;intro hc;simp only[not_or]at hc;apply h;unfold cn;repeat' split
 all_goals first|rfl|(exfalso;omega)
structure Lp(w W:World)(S:Nat)(c:Cd)(c0 hv kv wv:Value)(Tp WV:List Value)(K0:List (List En))(X:List Nat)(KV:List Value)(K:List (List En))(s:Sr)(v:Value)(L:List FE)(j:Nat)(Z:List Nat):Prop where
 sh:Sh W S c c0 hv kv wv KV WV K s
 kl:K.length=K0.length
 go:ij w W (cZ S hv kv wv Tp WV) (cZ S hv kv wv KV WV) (et K0) (et K) X
 pn:Pn W v L j (cZ S hv kv wv KV WV) (et K)
 ap:∀k∈Z,(k ∉ cZ S hv kv wv KV WV/\k ∉ et K)/\k ∉ mY v L j/\k<W.heap.size
 nw:∀k∈mY v L j,k∈X\/w.heap.size<=k
section
variable {w W W':World} {S:Nat} {c:Cd} {c0 hv kv wv:Value} {Tp WV KV:List Value} {K0 K:List (List En)} {X Z:List Nat} {s s':Sr} {v:Value} {L:List FE} {j:Nat}
theorem Lp.next(h:Lp w W S c c0 hv kv wv Tp WV K0 X KV K s v L j Z)(hj:j<L.length)(hP:il W S c c0 hv kv wv KV WV K L[j].bs s' W'):∃KV' K',Lp w W' S c c0 hv kv wv Tp WV K0 X KV' K' s' v L (j+1) Z/\∀k∈Z,W'.heap[k]?=W.heap[k]?:=by
 obtain⟨KV',K',h1,h2,h3⟩:=hP;obtain⟨-,-,-,n4,n5⟩:=h.pn.pe.next hj;refine⟨KV',K',⟨h1,h2.trans h.kl,h.go.trans h3 (λk hk=>h.nw k (n5 k hk)),h.pn.next hj h3,λk hk=>?_,λk hk=>h.nw k (n4 k hk).1⟩,λk hk=>?_⟩
 .obtain⟨⟨a1,a2⟩,a3,a4⟩:=h.ap k hk;refine⟨⟨λhn=>?_,λhn=>?_⟩,λhn=>a3 (n4 k hn).1,zq6 a4 h3.st.size⟩
  .rcases h3.st.foot k hn with p|p
   .rcases mem_append.1 p with p|p
    .exact a1 p
    .exact a3 (n5 k p)
   .omega
  .rcases h3.dr k hn with p|p|p
   .exact a2 p
   .exact a3 (n5 k p)
   .omega
 .obtain⟨⟨a1,a2⟩,a3,a4⟩:=h.ap k hk;refine h3.st.block k a4 (λhn=>?_);rcases mem_append.1 hn with p|p
  .exact a1 p
  .exact a3 (n5 k p)
theorem Lp.end'(h:Lp w W S c c0 hv kv wv Tp WV K0 X KV K s v L j Z):il w S c c0 hv kv wv Tp WV K0 X s W:=⟨KV,K,h.sh,h.kl,h.go⟩
end
structure Sx(w W:World)(S:Nat)(c:Cd)(c0 hv kv wv:Value)(KV WV:List Value)(K:List (List En))(s:Sr)(O:Nat)(nu da fu:Bool)(nv tv:Value)(Ln Lt:List FE)(Y:Nat)(nd:Nd):Prop where
 sh:Sh W S c c0 hv kv wv KV WV K s
 go:ij w W (cZ S hv kv wv KV WV) (cZ S hv kv wv KV WV) (et K) (et K) []
 oo:Oo W O nu da fu nv tv Ln Lt
 bx:Bk W Y 186 nd.cells
 on:∀k∈Y::eR O nv tv Ln Lt,(k ∉ cZ S hv kv wv KV WV/\k ∉ et K)/\w.heap.size<=k
 yn:Y ∉ eR O nv tv Ln Lt
section
variable {w W:World} {S:Nat} {c:Cd} {c0 hv kv wv:Value} {KV WV:List Value} {K:List (List En)} {s:Sr} {O:Nat} {nu da fu:Bool} {nv tv:Value} {Ln Lt:List FE} {Y:Nat} {nd:Nd}
theorem Sx.bad(h:Sx w W S c c0 hv kv wv KV WV K s O nu da fu nv tv Ln Lt Y nd){n:Nat}(hn:n<K.length){t:Nat}(ht:t<5){g cap:Nat}(hg:WV.getD n aJ=.slice (some ⟨g,0,none⟩) 5 cap):Sx w (W.setCell ⟨g,t,none⟩ (.bool true)) S c c0 hv kv wv KV WV K (kQ n t s) O nu da fu nv tv Ln Lt Y nd:=by
 obtain⟨h1,h2⟩:=h.sh.bad hn ht hg;have aH:∀k∈Y::eR O nv tv Ln Lt,(W.setCell ⟨g,t,none⟩ (.bool true)).heap[k]?=W.heap[k]?:=λk hk=>heap_setCell _ _ _ _ (λe=>(h.on k hk).1.1 (by rw[show k=g from e];exact h2));exact⟨h1,h.go.trans (ij.stp (X:=[]) ((ar.refl [g] W).setCell (p:=⟨g,t,none⟩) (zq0 (by simp)) (.bool true)) (λk hk=>zq0 (by rw[mem_singleton]at hk;rw[hk];exact h2))) (λk hk=>by simp at hk),h.oo.of_eq (λk hk=>aH k (mem_cons_of_mem _ hk)),h.bx.of_eq (aH Y (by simp)),h.on,h.yn⟩
theorem Sx.full(h:Sx w W S c c0 hv kv wv KV WV K s O nu da fu nv tv Ln Lt Y nd):Sx w (W.setCell ⟨S,8,none⟩ (.bool true)) S c c0 hv kv wv KV WV K { s with fu:=true } O nu da fu nv tv Ln Lt Y nd:=by
 have hs:ar [S] W [S] (W.setCell ⟨S,8,none⟩ (.bool true)):=(ar.refl [S] W).setCell (p:=⟨S,8,none⟩) (zq0 (by simp)) (.bool true);have h1:=h.sh.own (s':={ s with fu:=true }) (h.sh.bs.set 8 (.bool true)) hs (λk hk=>zq0 (mem_singleton.1 hk)) rfl rfl;have aH:∀k∈Y::eR O nv tv Ln Lt,(W.setCell ⟨S,8,none⟩ (.bool true)).heap[k]?=W.heap[k]?:=λk hk=>heap_setCell _ _ _ _ (λe=>(h.on k hk).1.1 (by rw[show k=S from e];exact gO));exact⟨h1,h.go.trans (ij.stp (X:=[]) hs (λk hk=>zq0 (by rw[mem_singleton]at hk;rw[hk];exact gO))) (λk hk=>by simp at hk),h.oo.of_eq (λk hk=>aH k (mem_cons_of_mem _ hk)),h.bx.of_eq (aH Y (by simp)),h.on,h.yn⟩
theorem Sx.lp(h:Sx w W S c c0 hv kv wv KV WV K s O nu da fu nv tv Ln Lt Y nd)(ht:∀x∈Ln,Td x.f):Lp w W S c c0 hv kv wv KV WV K [] KV K s nv Ln 0 (Y::O::bf tv Lt):=by
 have dG:=nodup_cons.1 h.oo.nd;have vZ:=nodup_append.1 dG.2;have e:mY nv Ln 0=bf nv Ln:=by simp[mY,bf]
 refine⟨h.sh,rfl,h.go,⟨h.oo.nx.pend,ht,λk hk=>?_⟩,λk hk=>?_,λk hk=>zq1 ?_⟩
 .rw[e]at hk;exact(h.on k (by simp only[eR,mem_cons,mem_append];exact zq1 (zq1 (zq0 hk)))).1
 .have hm:k∈Y::eR O nv tv Ln Lt:=by
   simp only[eR,mem_cons,mem_append]at hk ⊢;rcases hk with p|p|p
   .exact zq0 p
   .exact zq1 (zq0 p)
   .exact zq1 (zq1 (zq1 p))
  refine⟨(h.on k hm).1,λhn=>?_,?_⟩
  .rw[e]at hn;rcases mem_cons.1 hk with p|p
   .exact h.yn (by rw[<-p];simp only[eR,mem_cons,mem_append];exact zq1 (zq0 hn))
   .rcases mem_cons.1 p with p|p
    .exact dG.1 (by rw[<-p];exact mem_append_left _ hn)
    .exact vZ.2.2 k hn k p rfl
  .rcases mem_cons.1 hm with p|p
   .rw[p];exact h.bx.lt
   .exact h.oo.lt k p
 .rw[e]at hk;exact(h.on k (by simp only[eR,mem_cons,mem_append];exact zq1 (zq1 (zq0 hk)))).2
end
