import Derived.Test.YtciihepbeacppaaGreatIE
set_option maxRecDepth 100000
set_option maxHeartbeats 0
namespace Go.Proofs.YtciihepbeacppaaGreat
open Tryz Go.RowKit List World Below
set_option linter.unusedVariables false
def qi(s:Sr):Prop:=∀l∈s.kn,l.length<=rX+1
theorem Hg{c:Cd}{n:Nat}{f:CF}{s:Sr}(h:qi s)(bf:(bG c n f s).ok=true):qi (bG c n f s):=by
 have hb:=(mF bf).2;unfold bG;split
 .exact h
 .show ∀l∈s.kn.set n ((bh s n).filter (λe=>!zZ e.f (ch c n f))++[⟨ch c n f,false⟩]),l.length<=rX+1;intro l hl;rcases mem_or_eq_of_mem_set hl with p|p
  .exact h l p
  .rw[p,length_append,length_singleton];have:=length_filter_le (λe=>!zZ e.f (ch c n f)) (bh s n);omega
theorem He{c:Cd}{n:Nat}:∀(l:List CF) {s:Sr},qi s->(l.foldl (λs g=>bG c n g s) s).ok=true->qi (l.foldl (λs g=>bG c n g s) s)
 |[],_,h,_=>h
 |_::l,_,h,bf=>He l (Hg h (jT l bf)) bf
theorem DP{c:Cd}{fuel a b:Nat}{f:CF}{s:Sr}(hf:Td f)(h:qi s)(bf:(dG c fuel a b f s).ok=true):qi (dG c fuel a b f s):=by
 unfold dG at bf ⊢;split
 .rename_i hc;rw[if_pos hc]at bf;exact Hg h bf
 .rename_i hc;rw[if_neg hc]at bf;have h1:cG [f]:=λx hx=>by rw[mem_singleton]at hx;subst hx;exact hf
  obtain⟨-,g2,-⟩:=lS (c:=c) fuel 0 (r:=([f],kT a 2 s)) (res:=[]) h1 (λx hx=>by simp at hx);refine He _ ?_ bf;unfold qi;rw[g2];exact h
theorem DM{c:Cd}{fuel a b:Nat}:∀(l:List CF) {s:Sr},cG l->qi s->(l.foldl (λs g=>dG c fuel a b g s) s).ok=true->qi (l.foldl (λs g=>dG c fuel a b g s) s)
 |[],_,_,h,_=>h
 |g::l,_,hl,h,bf=>DM l (λx hx=>hl x (by simp[hx])) (DP (hl g (by simp)) h (gE l bf)) bf
theorem abm{c:Cd}{fuel n:Nat}{f:CF}{s:Sr}(hv:(c.nds.getD n aS).v<4)(ha:(c.nds.getD n aS).ai<4)(hf:Td f)(h:qi s)(bf:(nH c fuel n f s).ok=true):qi (nH c fuel n f s):=by
 obtain⟨h1,h2⟩:=lQ hv ha hf;unfold nH at bf ⊢;simp only at bf ⊢;refine DM _ h2 (DM _ h1 ?_ (gE _ bf)) bf;unfold qi;show ∀l∈(wrI _ n 4 (wrI _ n 3 (wrI _ n 2 s))).kn,_;rw[gw,gw,gw];exact h
theorem Qy{c:Cd}{fuel n:Nat}(hv:(c.nds.getD n aS).v<4)(ha:(c.nds.getD n aS).ai<4):∀(l:List CF) {s:Sr},cG l->qi s->(lL c fuel n l s).ok=true->qi (lL c fuel n l s)
 |[],_,_,h,_=>h
 |f::l,s,hl,h,bf=>by
  unfold lL at bf ⊢;split
  .exact h
  .rename_i hc;rw[if_neg hc]at bf;exact Qy hv ha l (λx hx=>hl x (by simp[hx])) (abm hv ha (hl f (by simp)) h (qc l bf)) bf
theorem QA{c:Cd}{fuel n:Nat}(hv:(c.nds.getD n aS).v<4)(ha:(c.nds.getD n aS).ai<4){s:Sr}(hi:lB s)(h:qi s)(bf:(qd c fuel n s).ok=true):qi (qd c fuel n s):=by
 unfold qd at bf ⊢;refine Qy hv ha _ (λf hf=>?_) ?_ bf
 .unfold kH at hf;obtain⟨e,he,rfl⟩:=mem_map.1 hf;exact hi.at n e (mem_filter.1 he).1
 .show ∀l∈s.kn.set n _,l.length<=rX+1;intro l hl;rcases mem_or_eq_of_mem_set hl with p|p
  .exact h l p
  .rw[p,length_map];unfold bh;by_cases hn:n<s.kn.length
   .rw[bD hn];exact h _ (getElem_mem hn)
   .rw[getD_eq_getElem?_getD,getElem?_eq_none (by omega)];exact zq5 _
theorem QB{c:Cd}{fuel n:Nat}{s:Sr}(bf:(qd c fuel n s).ok=true):s.ok=true:=by
 unfold qd at bf;have h1:=qc _ bf;exact h1
theorem mm{c:Cd}{fuel:Nat}:∀(n:Nat) {s:Sr},(ng c fuel n s).ok=true->s.ok=true
 |0,_,h=>by simp[ng]at h
 |n+1,s,h=>by
  unfold ng at h;split at h
  .exact h
  .split at h
   .exact h
   .exact QB (mm n h)
theorem qi.at{s:Sr}(h:qi s)(n:Nat):(bh s n).length<=rX+1:=by
 unfold bh;by_cases hn:n<s.kn.length
 .rw[bD hn];exact h _ (getElem_mem hn)
 .rw[getD_eq_getElem?_getD,getElem?_eq_none (by omega)];exact zq5 _
section
variable {w W W':World} {S:Nat} {c:Cd} {c0 hv kv wv:Value} {KV WV:List Value} {K:List (List En)} {s:Sr}
theorem Sh.inS(h:Sh w S c c0 hv kv wv KV WV K s):lB s:=by
 intro l hl e he;rw[h.km]at hl;obtain⟨l0,h0,rfl⟩:=mem_map.1 hl;obtain⟨e0,h1,rfl⟩:=mem_map.1 he;exact(h.dr l0 h0 e0 h1).2
theorem Sh.kb(h:Sh w S c c0 hv kv wv KV WV K s)(hb:qi s):∀l∈K,l.length<=rX+1:=λl hl=>by
 have:=hb (l.map En.m) (by rw[h.km];exact mem_map_of_mem hl);rw[length_map]at this;exact this
theorem gb.low{F F' D D':List Nat}(h:gb W W' F F' D D' [])(hb:Below w.heap.size w W)(hF:∀k∈F,w.heap.size<=k):Below w.heap.size w W' :=
 ⟨h.st.os.trans hb.os,h.st.tape.trans hb.tape,h.st.output.trans hb.output,zq3 hb.size h.st.size,λk hk=>(h.st.block k (zq6 hk hb.size) (λe=>by
  rw[append_nil]at e;have:=hF k e;omega)).trans (hb.block k hk)⟩
theorem Rz.from{RB vd:Nat}{av kv:Value}{al:List (Nat × Nat)}{FV:List Value}{L:List (List FE)}(h:Rz W W' RB vd av kv al FV L)(hb:Below w.heap.size w W):Rz w W' RB vd av kv al FV L :=
 ⟨h.bk,h.al,h.kr,h.ke,h.ap,λk hk=>zq3 hb.size (h.ge k hk),hb.trans (h.bl.mono hb.size)⟩
end
def K9(w:World)(r:Rs)(RB:Nat)(w':World):Prop:=∃av kv FV L,Rz w w' RB r.vd av kv r.al FV L/\L.map (λl=>l.map (λx=>x.f))=r.kn/\∀l∈L,∀x∈l,dF w' x.A x.f x.av x.ov/\Td x.f/\∀k∈x.bs,w.heap.size<=k
section
variable {w:World} {Q:Nat} {ws:List ByteArray} {ps:PS} {al:List bC} {vv pv nv:Value}
theorem Up (h:Cp w Q ws ps al vv pv nv) (hA:AOk al) (hN:vu ps.nodes) (fU:ps.nodes.length<=100000) (oq:0<ps.nodes.length) (qp:ps.vars.length<=4) (fuel N:Nat)
  (bf:(ng (Ao ps.nodes ps.vars.length al) fuel N (dL (Ao ps.nodes ps.vars.length al) fuel ps.vars.length al (jH ps.nodes))).ok=true) :
  Calls prog 92 #[.pointer (some ⟨Q,0,none⟩)] w λe w'=>∃RB,e=.returned (.pointer (some ⟨RB,0,none⟩))/\K9 w (AM (ng (Ao ps.nodes ps.vars.length al) fuel N (dL (Ao ps.nodes ps.vars.length al) fuel ps.vars.length al (jH ps.nodes)))) RB w':=by
 obtain⟨c,hc⟩:∃c,c=Ao ps.nodes ps.vars.length al:=⟨_,rfl⟩;have fQ:c.nds=ps.nodes:=by rw[hc];rfl
 rw[<-hc]at bf ⊢;obtain⟨R,hR⟩:∃R,R=ng c fuel N (dL c fuel ps.vars.length al (jH ps.nodes)):=⟨_,rfl⟩;rw[<-hR]at bf ⊢;have nO:=ab (LU h hA fU (by omega));rw[<-hc]at nO;have H:=ab h;have HA:=ab (zq2 hA (zq2 hN fQ));have HR:=ab hR;have kW:=ab bf;obtain⟨dQ,dg⟩:∃dQ:Nat->World->Prop,dQ=λRB w'=>K9 w (AM R) RB w':=⟨_,rfl⟩;have fD:=ab dg;rw[show(fun(e:Ending) (w':World)=>∃RB,e=.returned (.pointer (some ⟨RB,0,none⟩))/\K9 w (AM R) RB w')=(λe w'=>∃RB,e=.returned (.pointer (some ⟨RB,0,none⟩))/\dQ RB w') by rw[dg]];clear h hA hN hc fQ hR bf dg;go_enter func92,ntmps92;go_wp2_with fail
 refine(uh nO).mono ?_;rintro e w1 ⟨S,rfl,hv,kv,wv,WV,bq,a7,afr⟩;have Dd:=(uh H).below a7;have vX:(replicate ps.nodes.length ([]:List En)).length=ps.nodes.length:=length_replicate;have yV:(dL c fuel ps.vars.length al (jH ps.nodes)).ok=true:=mm N (by rw[<-uh HR];exact uh kW);have DA:=ab (MI (fuel:=fuel) bq Dd (uh HA).2.2 (uh HA).1 qp (by rw[vX];exact oq) (by rw[vX];exact fU) yV);have H1:=ab (zq2 bq (zq2 a7 (zq2 afr Dd)));have afF:qi (dL c fuel ps.vars.length al (jH ps.nodes)):=by
  have h0:qi (jH ps.nodes):=λl hl=>by
   have:l=[]:=eq_of_mem_replicate (show l∈replicate ps.nodes.length [] from hl);rw[this];exact zq5 _
  unfold dL at yV ⊢;split
  .exact h0
  .rename_i hf;rw[if_neg hf]at yV;exact DP (gy (jA (uh HA).1.tm (by simpa using hf)) _).tidy h0 yV
 have HKB:=ab afF;clear bq a7 afr Dd yV nO afF;go_wp2_with fail
 refine(uh DA).mono ?_;rintro e w2 ⟨rfl,rU,K2,p1,p2,p3⟩;rw[vX]at p2;have HPE:=ab (uG p1 (by omega));have H2:=ab (zq2 p1 (zq2 p2 p3));clear p1 p2 p3 DA;go_wp2_with fail
 refine(uh HPE).mono ?_;rintro e w3 ⟨rfl,cB⟩;have bX:Hid (Sh w3 S c (.pointer (some ⟨Q,0,none⟩)) hv kv wv rU WV K2 (dL c fuel ps.vars.length al (jH ps.nodes))/\K2.length=ps.nodes.length/\gb w1 w3 (cI S hv kv wv (replicate ps.nodes.length aF) WV) (cI S hv kv wv rU WV) (dK (replicate ps.nodes.length [])) (dK K2) []/\qi (dL c fuel ps.vars.length al (jH ps.nodes))/\ng c fuel N (dL c fuel ps.vars.length al (jH ps.nodes))=R):=ab ⟨(uh H2).1.below cB,(uh H2).2.1,(uh H2).2.2.trans (gb.below (X:=[]) cB) (λk hk=>by simp at hk),uh HKB,(uh HR).symm⟩;clear cB HPE H2 HKB HR;go_wp2_with fail
 go_loopg [4] N (λgn iv wx=>∃(KV:List Value) (K:List (List En)) (s':Sr),iv=.int .i64 (dp (E1 s'))/\Hid (Sh wx S c (.pointer (some ⟨Q,0,none⟩)) hv kv wv KV WV K s'/\K.length=ps.nodes.length/\gb w1 wx (cI S hv kv wv (replicate ps.nodes.length aF) WV) (cI S hv kv wv KV WV) (dK (replicate ps.nodes.length [])) (dK K) []/\qi s'/\ng c fuel gn s'=R))
 case atStart=>exact⟨rU,K2,_,rfl,bX⟩
 case round =>
  clear bX;obtain⟨KV,K,s',rfl,hI⟩:=hrel;obtain⟨h1,h2,h3,h4,h5⟩:=uh hI;have c8:=h1.bs.cell 8 rfl;have Tq:Cp wr Q ws ps al vv pv nv/\∀k∈Ar Q vv pv nv,k ∉ cI S hv kv wv KV WV:=by
   have gJ:=h3.low (uh H1).2.1 (uh H1).2.2.1;refine⟨(uh H).below gJ,λk hk e=>?_⟩;have KW:=(uh H).lt k hk;rcases h3.st.foot k e with p|p
   .rw[append_nil]at p;have:=(uh H1).2.2.1 k p;omega
   .have:=(uh H1).2.1.size;omega
  have Lh:Hid (s'=R->Calls prog 143 #[.pointer (some ⟨S,0,none⟩)] wr λe w'=>∃RB,e=.returned (.pointer (some ⟨RB,0,none⟩))/\dQ RB w'):=ab (λe=>(Kp h1 (by omega) (h1.kb h4)).mono (λe2 w' hp=>by
   obtain⟨RB,ou,av,kv',FV,L,iu,hr3,AE⟩:=hp;refine⟨RB,ou,?_⟩;have gJ:=h3.low (uh H1).2.1 (uh H1).2.2.1;rw[uh fD,<-e];refine⟨av,kv',FV,L,iu.from gJ,hr3,λl hl x hx=>?_⟩;obtain⟨l0,h0,e0,he0,rfl⟩:=AE l hl x hx;have af0:=h1.dr l0 h0 e0 he0;refine⟨(af0.1.below iu.bl).ff,af0.2,λk hk=>?_⟩;have GN:k∈dK K:=bu.2 ⟨l0,h0,e0,he0,mem_cons_of_mem _ hk⟩;rcases h3.dr k GN with p|p|p
   .obtain⟨l2,GE,e2,he2,-⟩:=bu.1 p;rw[eq_of_mem_replicate GE]at he2;simp at he2
   .simp at p
   .exact zq3 (uh H1).2.1.size p))
  cases gk with
  |zero =>
   have B7:=uh kW;rw[<-h5]at B7;simp[ng]at B7
  |succ g =>
   unfold ng at h5;cases hp:E1 s' with
   |none =>
    rw[hp]at h5;have HE:=ab (uh Lh h5);rw[show dp (none:Option Nat)=-1 from rfl];clear h1 h2 h3 h4 h5 Tq hp hI Lh;go_wp2_with fail
    refine(uh HE).mono ?_;rintro e w5 ⟨RB,rfl,hP⟩;have HP:=ab hP;clear hP HE;go_wp2_with fail
    go_ret;exact⟨RB,rfl,uh HP⟩
   |some k =>
    rw[hp]at h5;rw[show dp (some k)=(k:Int) from rfl];cases dW:s'.fu
    .rw[dW]at c8;simp only[dW]at h5;rw[if_neg (by decide)]at h5;have jf:k<K.length:=by
      unfold E1 at hp;rw[findIdx?_eq_some_iff_getElem]at hp;obtain⟨h9,-⟩:=hp;rw[h1.km,length_map]at h9;exact h9
     have ZL:(qd c fuel k s').ok=true:=mm g (by rw[h5];exact uh kW);have ZV:(c.nds.getD k aS).v<4/\(c.nds.getD k aS).ai<4:=(by rw[(uh HA).2.2];exact(uh HA).2.1.v k);have hNc:vu c.nds:=(by rw[(uh HA).2.2];exact(uh HA).2.1);have HVI:=ab (QC (fuel:=fuel) h1 Tq.1 Tq.2 (uh HA).2.2 hNc jf (by omega) ZL (h4.at k));have ade:=ab (QA ZV.1 ZV.2 h1.inS h4 ZL);have HI:=ab (zq2 h2 (zq2 h3 h5));have hg0:decide ((0:Int)<=(k:Int))=true:=(by simp);clear h1 h2 h3 h4 h5 Tq hp hI Lh jf ZL ZV hNc dW;go_wp2_with fail
     refine(uh HVI).mono ?_;rintro e w5 ⟨rfl,XS,K3,p1,p2,p3⟩;obtain⟨h2,h3,h5⟩:=uh HI;have hK3:=p2.trans h2;have HPE:=ab (uG p1 (by omega));have H5:=ab (zq2 p1 (zq2 hK3 (zq2 (h3.trans p3 (λk hk=>by simp at hk)) (zq2 (uh ade) h5))));clear p1 p2 p3 h2 h3 h5 hK3 HVI ade HI c8;go_wp2_with fail
     refine(uh HPE).mono ?_;rintro e w6 ⟨rfl,ib⟩;have HN:=ab (zq2 ((uh H5).1.below ib) (zq2 (uh H5).2.1 (zq2 ((uh H5).2.2.1.trans (gb.below (X:=[]) ib) (λk hk=>by simp at hk)) (uh H5).2.2.2)));clear ib HPE H5;go_wp2_with fail
     go_roundg g
     case rel=>exact⟨XS,K3,_,rfl,HN⟩
     case measure=>omega
    .rw[dW]at c8;simp only[dW,if_true]at h5;have HE:=ab (uh Lh h5);have hg0:decide ((0:Int)<=(k:Int))=true:=(by simp);clear h1 h2 h3 h4 h5 Tq hp hI Lh dW;go_wp2_with fail
     refine(uh HE).mono ?_;rintro e w5 ⟨RB,rfl,hP⟩;have HP:=ab hP;clear hP HE;go_wp2_with fail
     go_ret;exact⟨RB,rfl,uh HP⟩
end
section
variable {w:World} {X Q:Nat} {ws:List ByteArray} {s:PS} {al:List bC} {vv pv nv sv0 lv fv:Value} {st ls:List Int}
theorem oE(hX:Bk w X 88 [aaQ Q,fv]):Calls prog 53 #[.pointer (some ⟨X,0,none⟩)] w λe w'=>e=.returned (.bool false)/\∃n,w'=w.drewN n:=by
 have c0:w.cell? ⟨X,0,none⟩=some (.pointer (some ⟨Q,0,none⟩)):=hX.cell 0 rfl;clear hX;go_enter func53,ntmps53;go_wp2_with fail
 go_ret;exact⟨rfl,0,rfl⟩
end
def oS(nds:List Nd)(nv:Nat)(al:List bC):Sr:=ng (Ao nds nv al) 4000 1000000 (dL (Ao nds nv al) 4000 nv al (jH nds))
def vU(nds:List Nd)(nv:Nat)(al:List bC):Rs:=AM (oS nds nv al)
structure An(ps:PS)(al:List bC):Prop where
 a:AOk al
 n:vu ps.nodes
 l:ps.nodes.length<=100000
 p:0<ps.nodes.length
 v:ps.vars.length<=4
 ok:(oS ps.nodes ps.vars.length al).ok=true
structure Fd(W:World)(RB:Nat)(r:Rs)(av kv:Value)(FV:List Value)(L:List (List FE)):Prop where
 bk:Bk W RB 118 [.int .i64 (r.vd:Int),av,kv]
 al:W.ownsRow 0 82 2 av r.al.length (VP r.al)
 kr:W.ownsRow 0 125 1 kv L.length FV
 ke:∀i,i<L.length->W.ownsRow 0 126 1 (FV.getD i aF) (L.getD i []).length ((L.getD i []).map FE.p)
 km:L.map (λl=>l.map (λx=>x.f))=r.kn
 fm:∀l∈L,∀x∈l,dF W x.A x.f x.av x.ov/\Td x.f
def V2(RB:Nat)(av kv:Value)(FV:List Value)(L:List (List FE)):List Nat:=SR (so RB av kv FV)++L.flatMap (λl=>l.flatMap FE.bs)
section
variable {w w':World} {RB:Nat} {r:Rs} {av kv:Value} {FV:List Value} {L:List (List FE)}
theorem Fd.fl(h:Fd w RB r av kv FV L):FV.length=L.length:=by have:=h.kr.1;omega
theorem Fd.lt(h:Fd w RB r av kv FV L):∀k∈V2 RB av kv FV L,k<w.heap.size:=by
 intro k hk;rcases mem_append.1 hk with hk|hk
 .obtain⟨i,hi⟩:=aQ.1 hk;rcases xW hi with⟨-,rfl⟩|⟨-,e⟩|⟨-,e⟩|⟨j,hj,-,e⟩
  .exact h.bk.lt
  .exact(h.al.lt k e).2
  .exact(h.kr.lt k e).2
  .exact((h.ke j (by rw[<-h.fl];exact hj)).lt k e).2
 .obtain⟨l,hl,hk⟩:=mem_flatMap.1 hk;obtain⟨x,hx,hk⟩:=mem_flatMap.1 hk;exact(h.fm l hl x hx).1.lt k hk
theorem Fd.of_eq(h:Fd w RB r av kv FV L)(he:∀k∈V2 RB av kv FV L,w'.heap[k]?=w.heap[k]?):Fd w' RB r av kv FV L:=by
 have hf:=h.fl;have h1:∀i k,(so RB av kv FV)[i]?=some (some k)->w'.heap[k]?=w.heap[k]?:=λi k hi=>he k (mem_append_left _ (aQ.2 ⟨i,hi⟩));exact⟨h.bk.of_eq (h1 0 RB rfl),ae h.al (λk hk=>h1 1 k (congrArg some hk)),ae h.kr (λk hk=>h1 2 k (congrArg some hk)),λi hi=>ae (h.ke i hi) (λk hk=>h1 _ k ((Fa (by omega)).trans (congrArg some hk))),h.km,λl hl x hx=>⟨(h.fm l hl x hx).1.of_eq (λk hk=>he k (mem_append_right _ (mem_flatMap.2 ⟨l,hl,mem_flatMap.2 ⟨x,hx,hk⟩⟩))),(h.fm l hl x hx).2⟩⟩
theorem K9.fd{w0:World}(h:K9 w0 r RB w):∃av kv FV L,Fd w RB r av kv FV L/\(∀k∈V2 RB av kv FV L,w0.heap.size<=k)/\Below w0.heap.size w0 w:=by
 obtain⟨av,kv,FV,L,h1,h2,h3⟩:=h;refine⟨av,kv,FV,L,⟨h1.bk,h1.al,h1.kr,h1.ke,h2,λl hl x hx=>⟨(h3 l hl x hx).1,(h3 l hl x hx).2.1⟩⟩,λk hk=>?_,h1.bl⟩;rcases mem_append.1 hk with hk|hk
 .exact h1.ge k hk
 .obtain⟨l,hl,hk⟩:=mem_flatMap.1 hk;obtain⟨x,hx,hk⟩:=mem_flatMap.1 hk;exact(h3 l hl x hx).2.2 k hk
end
structure Pa(w:World)(X Q:Nat)(ws:List ByteArray)(ps:PS)(al:List bC)(vv pv nv:Value)(fv:Value)(Z:List Nat):Prop where
 bx:Bk w X 88 [aaQ Q,fv]
 cp:Cp w Q ws ps al vv pv nv
 fd:(fv=.pointer none/\Z=[])\/∃RB av kv FV L,fv=.pointer (some ⟨RB,0,none⟩)/\Fd w RB (vU ps.nodes ps.vars.length al) av kv FV L/\Z=V2 RB av kv FV L
 nx:X ∉ Ar Q vv pv nv/\X ∉ Z
section
variable {w w':World} {X Q:Nat} {ws:List ByteArray} {ps:PS} {al:List bC} {vv pv nv fv:Value} {Z:List Nat}
theorem Pa.of_eq(h:Pa w X Q ws ps al vv pv nv fv Z)(he:∀k,k=X\/k∈Ar Q vv pv nv\/k∈Z->w'.heap[k]?=w.heap[k]?):Pa w' X Q ws ps al vv pv nv fv Z:=by
 refine⟨h.bx.of_eq (he X (zq0 rfl)),h.cp.of_eq (λk hk=>he k (zq1 (zq0 hk))),?_,h.nx⟩;rcases h.fd with h1|⟨RB,av,kv,FV,L,h1,h2,h3⟩
 .exact zq0 h1
 .exact zq1 ⟨RB,av,kv,FV,L,h1,h2.of_eq (λk hk=>he k (zq1 (zq1 (by rw[h3];exact hk)))),h3⟩
theorem Pa.lt(h:Pa w X Q ws ps al vv pv nv fv Z):∀k,k=X\/k∈Ar Q vv pv nv\/k∈Z->k<w.heap.size:=by
 rintro k (rfl|hk|hk)
 .exact h.bx.lt
 .exact h.cp.lt k hk
 .rcases h.fd with⟨-,e⟩|⟨RB,av,kv,FV,L,-,h2,e⟩
  .rw[e]at hk;simp at hk
  .rw[e]at hk;exact h2.lt k hk
theorem Pa.below(h:Pa w X Q ws ps al vv pv nv fv Z)(hb:Below w.heap.size w w'):Pa w' X Q ws ps al vv pv nv fv Z:=h.of_eq (λk hk=>hb.block k (h.lt k hk))
def yh(w:World)(X Q:Nat)(ws:List ByteArray)(ps:PS)(al:List bC)(vv pv nv:Value)(Z:List Nat)(RB:Nat)(w':World):Prop :=
 ∃av kv FV L,Pa w' X Q ws ps al vv pv nv (.pointer (some ⟨RB,0,none⟩)) (V2 RB av kv FV L)/\Fd w' RB (vU ps.nodes ps.vars.length al) av kv FV L/\ar [X] w [X] w'/\∀k∈V2 RB av kv FV L,k∈Z\/w.heap.size<=k
theorem ry(h:Pa w X Q ws ps al vv pv nv fv Z)(hA:An ps al):
  Calls prog 60 #[.pointer (some ⟨X,0,none⟩)] w λe w'=>∃RB,e=.returned (.pointer (some ⟨RB,0,none⟩))/\yh w X Q ws ps al vv pv nv Z RB w':=by
 have c0:w.cell? ⟨X,0,none⟩=some (.pointer (some ⟨Q,0,none⟩)):=h.bx.cell 0 rfl;have c1:=h.bx.cell 1 rfl;rcases h.fd with⟨hf,hZ⟩|⟨RB,av,kv,FV,L,hf,hd,hZ⟩
 .subst hf;have RA:=ab (Up h.cp hA.a hA.n hA.l hA.p hA.v 4000 1000000 hA.ok);have yL:=h.bx.lt;have H:=ab h;clear h hA hZ;go_enter func60,ntmps60;go_wp2_with fail
  refine(uh RA).mono ?_;rintro e w1 ⟨RB,rfl,hP⟩;obtain⟨av,kv,FV,L,h1,h2,h3⟩:=hP.fd;have b1:=(uh H).bx.below h3;have d1:=b1.cell 1 rfl;have z1:=b1.frz 1;have b2:=b1.set 1 (.pointer (some ⟨RB,0,none⟩));have d2:=b2.cell 1 rfl;have aJ:∀k,k≠X->(w1.setCell ⟨X,1,none⟩ (.pointer (some ⟨RB,0,none⟩))).heap[k]?=w1.heap[k]?:=λk hk=>heap_setCell _ _ _ _ hk;have Wg:yh w X Q ws ps al vv pv nv Z RB (w1.setCell ⟨X,1,none⟩ (.pointer (some ⟨RB,0,none⟩))):=by
   have hZX:X ∉ V2 RB av kv FV L:=λe=>by have:=h2 X e;omega
   have nA:Fd (w1.setCell ⟨X,1,none⟩ (.pointer (some ⟨RB,0,none⟩))) RB (vU ps.nodes ps.vars.length al) av kv FV L:=h1.of_eq (λk hk=>aJ k (λe=>hZX (by rw[<-e];exact hk)));refine⟨av,kv,FV,L,⟨b2,((uh H).cp.below h3).of_eq (λk hk=>aJ k (λe=>(uh H).nx.1 (by rw[<-e];exact hk))),zq1 ⟨RB,av,kv,FV,L,rfl,nA,rfl⟩,(uh H).nx.1,hZX⟩,nA,((ar.ofBw (F:=[X]) h3)).setCell (p:=⟨X,1,none⟩) (zq0 (by simp)) _,λk hk=>zq1 (h2 k hk)⟩
  have HP:=ab Wg;clear hP h1 h2 h3 b1 b2 aJ Wg RA;go_wp2_with fail
  go_ret;exact⟨RB,rfl,uh HP⟩
 .subst hf;have HP:Hid (yh w X Q ws ps al vv pv nv Z RB w):=ab ⟨av,kv,FV,L,by rw[<-hZ];exact h,hd,ar.refl _ _,λk hk=>zq0 (by rw[hZ];exact hk)⟩;clear h hA hd hZ;go_enter func60,ntmps60;go_wp2_with fail
  go_ret;exact⟨RB,rfl,uh HP⟩
theorem CV(h:Pa w X Q ws ps al vv pv nv fv Z)(hA:An ps al):
  Calls prog 33 #[.pointer (some ⟨X,0,none⟩)] w λe w'=>e=.returned (.int .i64 ((vU ps.nodes ps.vars.length al).vd:Nat))/\∃RB,yh w X Q ws ps al vv pv nv Z RB w':=by
 have HEM:=ab (oE h.bx);have Xo:Hid (∀n,Calls prog 60 #[.pointer (some ⟨X,0,none⟩)] (w.drewN n) λe w'=>∃RB,e=.returned (.pointer (some ⟨RB,0,none⟩))/\yh w X Q ws ps al vv pv nv Z RB w'):=ab (λn=>(ry (w:=w.drewN n) (h.of_eq (w':=w.drewN n) (λ_ _=>rfl)) hA).mono (by
  rintro e w' ⟨RB,he,av,kv,FV,L,p1,p2,p3,p4⟩;exact⟨RB,he,av,kv,FV,L,p1,p2,⟨p3.os,p3.tape,p3.output,p3.size,p3.block,p3.foot⟩,p4⟩))
 clear h hA;go_enter func33,ntmps33;go_wp2_with (first|(go_at_call 53;refine(uh HEM).mono ?_;rintro e w1 ⟨rfl,n,rfl⟩))
 refine(uh Xo _).mono ?_;rintro e w2 ⟨RB,rfl,hP⟩;have c0:w2.cell? ⟨RB,0,none⟩=some (.int .i64 ((vU ps.nodes ps.vars.length al).vd:Nat)):=by
  obtain⟨av,kv,FV,L,p1,p2,p3,p4⟩:=hP;exact p2.bk.cell 0 rfl
 have HP:=ab hP;clear hP;go_wp2_with fail
 go_ret;exact⟨rfl,RB,uh HP⟩
end
theorem uN{l:List UInt8}(h:lJ l=0):l.length<=240/\ju l≠none/\(b7 l).failed=false/\(b7 l).vars.length<=4/\(b7 l).hid.length<=8:=by
 unfold lJ at h;split at h
 .cases h
 .split at h
  .cases h
  .split at h
   .cases h
   .split at h
    .cases h
    .rename_i h1 h2 h3 h4;exact⟨by omega,h2,by simpa using h3,by omega,by omega⟩
theorem PJ{l:List UInt8}(h:ju l≠none):(bN l).length<=l.length:=by
 cases hs:ju l with
 |none=>exact absurd hs h
 |some L =>
  have e:ju l=some ((bN l).map (·.data.toList)):=by
   unfold bN;rw[hs];simp only[Option.getD_some,map_map];congr 1;exact(map_id' L).symm
  exact(s9 e).1
def TeM(V H k i:Nat):Prop:=(k=0/\i=0)\/(k=1/\i<V)\/(k=2/\i<H)
structure AS(ws:List ByteArray)(s:PS)(M:List Nd):Prop where
 nd:s.nodes=M++[{ lr with nx:=M.length+1 }]
 go:ts s.vars.length 0 M.length M
 ln:M.length<=2*ws.length
 at_:∀a∈fZ ws bY,TeM s.vars.length s.hid.length a.lk a.li/\TeM s.vars.length s.hid.length a.rk a.ri/\a.k<=4
theorem yE{ws:List ByteArray}:∀(n:Nat) (s:PS),(fW ws n s).1.length<=n
 |0,s=>by simp[fW]
 |n+1,s=>by
  unfold fW;split
  .have:=yE (ws:=ws) n (dH ws s.adv);simp only[length_cons];omega
  .simp
theorem uM{ws:List ByteArray}(h:(lu ws bY).failed=false):∃M,AS ws (lu ws bY) M:=by
 have hp:(Pz ws bY).pos=ws.length:=by
  by_cases hp:(Pz ws bY).pos=ws.length
  .exact hp
  .unfold lu at h;rw[if_neg hp]at h;cases h
 have hS:lu ws bY=Pz ws bY:=if_pos hp;rw[hS]at h ⊢;obtain⟨s1,cY⟩:∃s1,s1=bp ws m8 bY:=⟨_,rfl⟩;obtain⟨s2,fR⟩:∃s2,s2=po ws s1:=⟨_,rfl⟩;obtain⟨s3,eW⟩:∃s3,s3=DS ws (ws.length+1) s2:=⟨_,rfl⟩;have hT:Pz ws bY=dR lr s3:=by rw[eW,fR,cY];rfl
 rw[hT]at h hp ⊢;have lV:s3.failed=false:=h;have hg:=iB (ws:=ws) (ws.length+1);have jK:s2.failed=false:=hg.ok s2 (by rw[<-eW];exact lV);obtain⟨M,h1,h2,GE,h3⟩:=LZ (ws:=ws) (ws.length+1) s2;rw[<-eW]at h1 h2 GE h3;have qQ:s2.nodes=[]:=by rw[fR,zG.nd,cY,(bJ (ws:=ws) (s:=bY) m8).1];rfl
 rw[qQ,nil_append]at h1;have sk:=hg.phi s2;rw[<-eW,qQ,h1,xh lV]at sk;have hpp:s3.pos=ws.length:=hp;refine⟨M,?_,?_,?_,?_⟩
 .show s3.nodes++[{ lr with nx:=s3.nodes.length+1 }]=_;rw[h1]
 .rw[qQ,h1]at h3;exact h3
 .simp only[length_nil]at sk;omega
 .intro a ha;have hL:=ajN (ws:=ws) (s:=s1) a (by rw[cY];exact ha);rw[<-fR]at hL;have up:∀k i,XZ s2 k i->TeM (dR lr s3).vars.length (dR lr s3).hid.length k i:=by
   intro k i ht;have e1:(dR lr s3).vars=s3.vars:=rfl;have e2:(dR lr s3).hid=s3.hid:=rfl;rw[e1,e2];rcases ht with ht|ht|ht|ht
   .rw[jK]at ht;cases ht
   .exact zq0 ht
   .exact zq1 (zq0 (by omega))
   .exact zq1 (zq1 (by omega))
  exact⟨up _ _ hL.1,up _ _ hL.2.1,hL.2.2⟩
section
variable {ws:List ByteArray} {s:PS} {M:List Nd}
theorem AS.get(h:AS ws s M)(n:Nat):(n<M.length/\∃nd,M[n]?=some nd/\s.nodes.getD n aS=nd)\/(M.length<=n/\(s.nodes.getD n aS).v=0/\(s.nodes.getD n aS).ai=0/\(s.nodes.getD n aS).op=0):=by
 rw[h.nd];by_cases hn:n<M.length
 .refine zq0 ⟨hn,M[n],getElem?_eq_getElem hn,?_⟩;rw[getD_eq_getElem?_getD,getElem?_append_left hn,getElem?_eq_getElem hn];rfl
 .refine zq1 ⟨by omega,?_⟩;rw[getD_eq_getElem?_getD,getElem?_append_right (by omega)];cases hk:n-M.length with
  |zero=>exact⟨rfl,rfl,rfl⟩
  |succ k=>exact⟨rfl,rfl,rfl⟩
theorem AS.len(h:AS ws s M):s.nodes.length=M.length+1:=by rw[h.nd,length_append];rfl
theorem lw4{L i:Nat}(h:Lw L i)(hL:L<=4):i<4:=by rcases h with h|h <;> omega
theorem AS.v4(h:AS ws s M)(hv:s.vars.length<=4)(n:Nat):(s.nodes.getD n aS).v<4/\(s.nodes.getD n aS).ai<4:=by
 rcases h.get n with⟨-,nd,h1,h2⟩|⟨-,h1,h2,-⟩
 .rw[h2];exact⟨lw4 (h.go n nd h1).1 hv,lw4 (h.go n nd h1).2.1 hv⟩
 .rw[h1,h2];omega
theorem AS.ndo(h:AS ws s M)(hv:s.vars.length<=4):vu s.nodes:=by
 refine⟨h.v4 hv,λn=>?_,λn hn h0=>?_,λn hn h0=>?_⟩
 .rcases h.get n with⟨-,nd,h1,h2⟩|⟨-,-,-,h1⟩
  .rw[h2];have:=(h.go n nd h1).2.2.1;omega
  .rw[h1];omega
 .rw[h.len];rcases h.get n with⟨-,nd,h1,h2⟩|⟨-,-,-,h1⟩
  .rw[h2];have:=(h.go n nd h1).2.2.2.1;omega
  .exact absurd h1 h0
 .rw[h.len];rcases h.get n with⟨-,nd,h1,h2⟩|⟨-,-,-,h1⟩
  .rw[h2];have:=(h.go n nd h1).2.2.2.1;omega
  .omega
theorem LI{nds:List Nd}(h:(range nds.length).any (lG nds)=false){n:Nat}(hn:n<nds.length):lG nds n=false:=by
 rw[any_eq_false]at h;have:=h n (mem_range.2 hn);simpa using this
theorem AS.fwd(h:AS ws s M)(hv:s.vars.length<=4)(hb:(range s.nodes.length).any (lG s.nodes)=false):Fwd s.nodes:=by
 refine⟨h.v4 hv,λn hn h0=>?_,λn hn h0=>?_⟩
 .have fq:=LI hb hn;unfold lG at fq;rcases h.get n with⟨hl,nd,h1,h2⟩|⟨-,-,-,h1⟩
  .rw[h2]at fq ⊢;obtain⟨-,-,-,-,-,g1,g2⟩:=h.go n nd h1;by_cases GD:nd.op=10
   .have h3:=g2 GD;simp only[GD,decide_true,Bool.true_and,decide_eq_false_iff_not]at fq;omega
   .have h3:=g1 GD;omega
  .exact absurd h1 h0
 .rcases h.get n with⟨hl,nd,h1,h2⟩|⟨-,-,-,h1⟩
  .rw[h2]at h0 ⊢;obtain⟨-,-,-,-,g1,-⟩:=h.go n nd h1;have:=g1 h0;omega
  .exfalso;unfold sl at h0;rw[h1]at h0;simp at h0
theorem zU{V H k i:Nat}(h:TeM V H k i)(hV:V<=4)(hH:H<=8):nj k i<13/\k<=2/\i<=100:=by
 unfold nj;rcases h with⟨rfl,rfl⟩|⟨rfl,h⟩|⟨rfl,h⟩
 .simp
 .simp;omega
 .simp;omega
theorem AS.aok(h:AS ws s M)(hw:ws.length<=240)(hv:s.vars.length<=4)(hh:s.hid.length<=8):AOk (fZ ws bY):=by
 refine⟨λa ha=>⟨(zU (h.at_ a ha).1 hv hh).1,(zU (h.at_ a ha).2.1 hv hh).1⟩,?_,λa ha=>?_⟩
 .have h1:=yE (ws:=ws) (ws.length+1) (dH ws (bp ws m8 bY));show(nS ws (bp ws m8 bY)::(fW ws (ws.length+1) (dH ws (bp ws m8 bY))).1).length<=1000;simp only[length_cons];omega
 .have h1:=zU (h.at_ a ha).1 hv hh;have h2:=zU (h.at_ a ha).2.1 hv hh;exact⟨h1.2.1,h2.2.1,h1.2.2,h2.2.2⟩
end
theorem NW(m k i:Nat):m<=mB m k i/\(k=2->i<mB m k i):=by unfold mB;split <;> constructor <;> intros <;> omega
theorem NT:∀(l:List bC) (m:Nat),m<=l.foldl (λm a=>mB (mB m a.lk a.li) a.rk a.ri) m/\∀a∈l,(a.lk=2->a.li<l.foldl (λm a=>mB (mB m a.lk a.li) a.rk a.ri) m)/\(a.rk=2->a.ri<l.foldl (λm a=>mB (mB m a.lk a.li) a.rk a.ri) m)
 |[],m=>⟨zq4 _,λa ha=>by simp at ha⟩
 |b::l,m=>by
  have h1:=NW m b.lk b.li;have h2:=NW (mB m b.lk b.li) b.rk b.ri;obtain⟨h3,h4⟩:=NT l (mB (mB m b.lk b.li) b.rk b.ri);rw[foldl_cons];refine⟨by omega,λa ha=>?_⟩;rcases mem_cons.1 ha with rfl|ha
  .exact⟨λe=>by have:=h1.2 e;omega,λe=>by have:=h2.2 e;omega⟩
  .exact h4 a ha
theorem Zm{al:List bC}{a:bC}(ha:a∈al):(a.lk=2->a.li<v9 al)/\(a.rk=2->a.ri<v9 al):=(NT al 0).2 a ha
def trS(al:List bC)(nv:Nat):List Nat:=((0::(range nv).map (1+·))++(range (v9 al)).map (5+·)).map (λt=>(jX al).getD t 0)
theorem U7(al:List bC)(nv:Nat):(trS al nv).length=1+nv+v9 al:=by unfold trS;simp;omega
theorem Qj{al:List bC}{V H k i:Nat}(h:TeM V H k i)(hh:k=2->i<v9 al):(jX al).getD (nj k i) 0∈trS al V:=by
 unfold trS nj;refine mem_map.2 ⟨_,?_,rfl⟩;rcases h with⟨rfl,rfl⟩|⟨rfl,h⟩|⟨rfl,h⟩
 .simp
 .simp;omega
 .refine mem_append_right _ (mem_map.2 ⟨i,mem_range.2 (hh rfl),?_⟩);simp
section
variable {ws:List ByteArray} {s:PS} {M:List Nd}
theorem AS.live(h:AS ws s M)(hv:s.vars.length<=4):∀c∈db (sG (aG (fZ ws bY)) s.vars.length),c∈trS (fZ ws bY) s.vars.length:=by
 intro c hc;unfold db at hc;rcases mem_append.1 hc with hc|hc
 .have key:∀i,i<5->(sG (aG (fZ ws bY)) s.vars.length).cl.getD i 0∈trS (fZ ws bY) s.vars.length:=by
   intro i hi;have e:(sG (aG (fZ ws bY)) s.vars.length).cl.getD i 0=if s.vars.length<i then (jX (fZ ws bY)).getD 0 0 else (jX (fZ ws bY)).getD i 0:=by
    unfold sG;simp only[getD_eq_getElem?_getD,getElem?_map,getElem?_range hi,Option.map_some,Option.getD_some];rw[<-getD_eq_getElem?_getD,<-getD_eq_getElem?_getD,rz (show 0<5 by omega),rz hi,getD_eq_getElem?_getD,getD_eq_getElem?_getD]
   rw[e];unfold trS;split
   .exact mem_map.2 ⟨0,by simp,rfl⟩
   .refine mem_map.2 ⟨i,mem_append_left _ ?_,rfl⟩;cases i with
    |zero=>simp
    |succ i=>exact mem_cons_of_mem _ (mem_map.2 ⟨i,mem_range.2 (by omega),by omega⟩)
  unfold jJ at hc;simp only[mem_cons,not_mem_nil,or_false]at hc;rcases hc with rfl|rfl|rfl|rfl|rfl
  .exact key 0 (by omega)
  .exact key 1 (by omega)
  .exact key 2 (by omega)
  .exact key 3 (by omega)
  .exact key 4 (by omega)
 .obtain⟨p,hp,hc⟩:=mem_flatMap.1 hc;obtain⟨a,ha,rfl⟩:=mem_map.1 (show p∈((fZ ws bY).filter (λa=>a.k==3||a.k==4)).map (fL (jX (fZ ws bY))) from hp);have BJ:=(mem_filter.1 ha).1;have h1:=h.at_ a BJ;have h2:=Zm BJ;simp only[mem_cons,not_mem_nil,or_false]at hc;rcases hc with rfl|rfl
  .exact Qj h1.1 h2.1
  .exact Qj h1.2.1 h2.2
end
theorem Ks{nds:List Nd}{nv:Nat}{al:List bC}(h:K6 nds nv al=true):(range nds.length).any (lG nds)=false/\al.any (λa=>decide (a.k=4))=false/\nds.countP (λn=>decide (n.op=7\/n.op=8\/n.op=9))<=5/\nv+v9 al+nds.countP (λn=>decide (n.op=4))<=8:=by
 unfold K6 at h;simp only[Bool.and_eq_true,Bool.not_eq_true',decide_eq_true_eq]at h;exact⟨h.1.1.1.1.1,h.1.1.1.1.2,h.1.1.1.2,h.2⟩
theorem NH{nds:List Nd}(h:(range nds.length).any (lG nds)=false)(n:Nat):(hdL nds).getD n false=false:=by
 have key:∀(l:List Nat) (H:List Bool),(∀i∈l,lG nds i=false)->l.foldl (λh i=>if lG nds i=true then h.set (nds.getD i aS).nx true else h) H=H:=by
  intro l;induction l with
  |nil=>intro H _;rfl
  |cons i l ih =>
   intro H hl;rw[foldl_cons,if_neg (by rw[hl i (by simp)];decide)];exact ih H (λj hj=>hl j (by simp[hj]))
 unfold hdL;rw[key _ _ (λi hi=>LI h (mem_range.1 hi)),getD_eq_getElem?_getD,getElem?_replicate];split <;> rfl
theorem G9(nds:List Nd)(n:Nat):bh (jH nds) n=[]:=by
 unfold bh jH;rw[getD_eq_getElem?_getD,getElem?_replicate];split <;> rfl
theorem CR(g:Nat->List f9->Nat)(hg:∀n,g n []=0):∀(m k:Nat),ss g k (replicate m [])=0
 |0,k=>rfl
 |m+1,k=>by
  rw[replicate_succ];simp only[ss];rw[hg,CR g hg m (k+1)]
theorem uY{α:Type}(g:α->Nat)(x:α)(hg:g x=0):∀(m:Nat),aY g (replicate m x)=0
 |0=>rfl
 |m+1=>by
  rw[replicate_succ];simp only[aY];rw[hg,uY g x hg m]
theorem zQ(nds:List Nd):lB (jH nds):=λl hl e he=>by
 rw[eq_of_mem_replicate (show l∈replicate nds.length [] from hl)]at he;simp at he
theorem P9(nds:List Nd):qi (jH nds):=λl hl=>by
 rw[eq_of_mem_replicate (show l∈replicate nds.length [] from hl)];exact zq5 _
theorem p9{a:Nat}(h:a<=9):9 ^ a<=387420489:=Nat.pow_le_pow_right (by omega) h
theorem p2{a:Nat}(h:a<=5):2 ^ a<=32:=Nat.pow_le_pow_right (by omega) h
section
variable {ws:List ByteArray} {s:PS} {M:List Nd}
theorem AS.ok(h:AS ws s M)(hw:ws.length<=240)(hv:s.vars.length<=4)(hh:s.hid.length<=8):(oS s.nodes s.vars.length (fZ ws bY)).ok=true:=by
 have hA:=h.aok hw hv hh;obtain⟨al,jC⟩:∃al,al=fZ ws bY:=⟨_,rfl⟩;have dX:=h.live hv;rw[<-jC]at hA dX ⊢;have cN:=h.len;have hln:=h.ln;unfold oS;obtain⟨c,hc⟩:∃c,c=Ao s.nodes s.vars.length al:=⟨_,rfl⟩;have fQ:c.nds=s.nodes:=by rw[hc];rfl
 rw[<-hc];cases hsi:K6 s.nodes s.vars.length al with
 |true =>
  obtain⟨a7,aL,cB,mA⟩:=Ks hsi;have hS:XY c:=⟨by rw[hc];exact a7,by rw[hc];show(!K6 s.nodes s.vars.length al)=false;rw[hsi];rfl,by rw[hc];exact NH a7,by rw[fQ];exact h.fwd hv a7⟩;have h0:∀rest,rest<=rX->tG c 0 rest (jH s.nodes):=λrest hr=>⟨by rw[fQ];exact length_replicate,λn e he=>by rw[G9]at he;simp at he,λn _ e he=>by rw[G9]at he;simp at he,λn hn=>by omega,by
   have:Kv c.nds (jH s.nodes)=0:=CR _ (λn=>rfl) _ _;omega,rfl⟩
  refine Iv hS 1000000 (cu:=0) ?_ (by rw[fQ];omega) (zq5 _);unfold dL;split
  .exact h0 0 (zq5 _)
  .rename_i hf;have AA:dT (aG al)=false:=(by simpa using hf);have fs:=gy (jA hA.tm AA) s.vars.length;have BW:K3 (sG (aG al) s.vars.length):=by
    intro p hp;obtain⟨a,ha,rfl⟩:=mem_map.1 (show p∈(al.filter (λa=>a.k==3||a.k==4)).map (fL (jX al)) from hp);obtain⟨ha1,ha2⟩:=mem_filter.1 ha;rw[any_eq_false]at aL;have h4:=aL a ha1;show a.k=3;simp only[Bool.or_eq_true,beq_iff_eq]at ha2;simp only[decide_eq_true_eq]at h4;omega
   have arh:aI (bz (sG (aG al) s.vars.length))<=1+s.vars.length+v9 al:=by
    have:=sU fs dX;rw[U7]at this;exact this
   have hcN:sF GY c.nds 0=s.nodes.countP (λn=>decide (n.op=4)):=(by rw[fQ];rfl);have hcT:sF sl c.nds 0=s.nodes.countP (λn=>decide (n.op=7\/n.op=8\/n.op=9)):=(by rw[fQ];rfl);have yY:yk c.nds 0 (bz (sG (aG al) s.vars.length)):=⟨fs.tidy,BW.td,by omega⟩;have hwt:gx c.nds 0 (bz (sG (aG al) s.vars.length))<=rX:=by
    unfold gx;have h1:=p9 yY.nm;have h2:=p2 (show sF sl c.nds 0<=5 by omega);exact zq3 (Nat.mul_le_mul h1 h2) (by unfold rX;omega)
   unfold dG;rw[if_pos (zq0 hS.lp)];exact Ck hS (zq4 _) yY (h0 _ (by omega))
 |false =>
  have hb:c.bd=true:=by rw[hc];show(!K6 s.nodes s.vars.length al)=true;rw[hsi];rfl
  have hV:NdV c:=by intro n;rw[fQ];exact h.v4 hv n
  have he0:qF (jH s.nodes)=0:=uY (α:=List f9) List.length [] rfl s.nodes.length;have EG:eR (jH s.nodes)=0:=uY (α:=List f9) (λl:List f9=>l.countP (λe:f9=>!e.d)) [] rfl s.nodes.length;have JR:(jH s.nodes).lf=3000:=rfl;have h0:Gd 1152 (jH s.nodes):=⟨by rw[he0,JR];decide,by rw[JR];decide,λ_=>by rw[JR];decide,rfl⟩;unfold dL;split
  .exact E9 hb hV (by omega) 1000000 (zQ _) (h0.wide (by omega)) (by rw[EG,JR];decide) (by omega)
  .rename_i hf;have AA:dT (aG al)=false:=(by simpa using hf);have Do:=(gy (jA hA.tm AA) s.vars.length).tidy;obtain⟨g1,g2⟩:=LL hb (fuel:=4000) (a:=c.nds.length-1) (b:=0) (by omega) (zq4 1152) (by omega) Do h0 (by rw[JR];decide);refine E9 hb hV (by omega) 1000000 (DO Do (zQ _)) (g1.wide (by omega)) ?_ (by omega);rw[EG,JR]at g2;omega
end
theorem ky{l:List UInt8}(h:lJ l=0):An (b7 l) (fZ (bN l) bY):=by
 obtain⟨h1,h2,h3,h4,h5⟩:=uN h;have hw:=PJ h2;obtain⟨M,hM⟩:=uM (ws:=bN l) h3;have hl:=hM.len;have hln:=hM.ln;exact⟨hM.aok (by omega) h4 h5,hM.ndo h4,by show(lu (bN l) bY).nodes.length<=_;omega,by show 0<(lu (bN l) bY).nodes.length;omega,h4,hM.ok (by omega) h4 h5⟩
theorem Qx{c:Cd}{fuel n:Nat}(hv:(c.nds.getD n aS).v<4)(ha:(c.nds.getD n aS).ai<4):∀(l:List CF) {s:Sr},cG l->lB s->lB (lL c fuel n l s)
 |[],s,_,h=>h
 |f::r,s,hl,h=>by
  unfold lL;split
  .exact h
  .exact Qx hv ha r (λx hx=>hl x (by simp[hx])) (Qa hv ha (hl f (by simp)) h)
theorem abv{c:Cd}{fuel n:Nat}(hv:(c.nds.getD n aS).v<4)(ha:(c.nds.getD n aS).ai<4){s:Sr}(h:lB s):lB (qd c fuel n s):=by
 unfold qd;refine Qx hv ha _ (M4 (h.at n)) ?_;exact h.set n (λe he=>by
  obtain⟨x,hx,rfl⟩:=mem_map.1 he;exact h.at n x hx)
theorem PU{c:Cd}{fuel:Nat}(hV:NdV c):∀(n:Nat) {s:Sr},lB s->qi s->(ng c fuel n s).ok=true->qi (ng c fuel n s)/\lB (ng c fuel n s)
 |0,s,_,_,h=>by cases h
 |n+1,s,hi,hk,h=>by
  unfold ng at h ⊢;split
  .exact⟨hk,hi⟩
  .rename_i k hp;rw[hp]at h;dsimp only at h;split
   .exact⟨hk,hi⟩
   .rename_i hf;rw[if_neg hf]at h;exact PU hV n (abv (hV k).1 (hV k).2 hi) (QA (hV k).1 (hV k).2 hi hk (mm n h)) h
theorem VQ{ps:PS}{al:List bC}(h:An ps al):qi (oS ps.nodes ps.vars.length al)/\lB (oS ps.nodes ps.vars.length al):=by
 have bf:=h.ok;unfold oS at bf ⊢;obtain⟨c,hc⟩:∃c,c=Ao ps.nodes ps.vars.length al:=⟨_,rfl⟩;rw[<-hc]at bf ⊢;have hV:NdV c:=λn=>by rw[hc];exact h.n.v n
 have yV:=mm _ bf;have h0:qi (dL c 4000 ps.vars.length al (jH ps.nodes))/\lB (dL c 4000 ps.vars.length al (jH ps.nodes)):=by
  unfold dL at yV ⊢;split
  .exact⟨P9 _,zQ _⟩
  .rename_i hf;rw[if_neg hf]at yV;have ht:=(gy (jA h.a.tm (by simpa using hf)) ps.vars.length).tidy;exact⟨DP ht (P9 _) yV,DO ht (zQ _)⟩
 exact PU hV _ h0.2 h0.1 bf
theorem AY{ps:PS}{al:List bC}(h:An ps al):∀l∈(vU ps.nodes ps.vars.length al).kn,l.length<=1000000000001:=by
 unfold vU AM;split
 .intro l hl;simp at hl
 .intro l hl;obtain⟨x,hx,rfl⟩:=mem_map.1 (show l∈(oS ps.nodes ps.vars.length al).kn.map (λl=>l.map (·.f)) from hl);rw[length_map];exact(VQ h).1 x hx
theorem oY(x y:List UInt8):(⟨x.toArray⟩++⟨y.toArray⟩:ByteArray)=⟨(x++y).toArray⟩:=by apply ByteArray.ext;simp[ByteArray.data_append]
def rs(t a:List UInt8):List UInt8:=if t=[] then a else t++[32,42,32]++a
def K8(a b:List UInt8):List UInt8:=if a=[110,105,108] then b++[32,33,61,32]++a else a++[32,33,61,32]++b
theorem qU{t:List UInt8}(h:t≠[]):t.isEmpty=false:=by cases t with|nil=>exact absurd rfl h|cons x r=>rfl
theorem gu(w:World)(t a:List UInt8)(ht:t.length<=1000000)(ha:a.length<=1000000):Calls prog 101 #[.string ⟨t.toArray⟩,.string ⟨a.toArray⟩] w λe w'=>e=.returned (.string ⟨(rs t a).toArray⟩)/\w'=w:=by
 by_cases h:t=[]
 .have HE:Hid (rs t a=a):=ab (by unfold rs;rw[if_pos h]);have d0:t.isEmpty=true:=by rw[h];rfl
  clear h;go_enter func101,ntmps101;go_wp2_with fail
  go_ret;exact⟨by rw[uh HE];rfl,rfl⟩
 .have HE:Hid (rs t a=t++[32,42,32]++a):=ab (by unfold rs;rw[if_neg h]);have d0:=qU h;have n1:¬ 9223372036854775807<t.length+3:=by omega
  have n2:¬ 9223372036854775807<t.length+3+a.length:=by omega
  clear h;go_enter func101,ntmps101;go_wp2_with fail
  go_ret;exact⟨by
   show Ending.returned (.string ((⟨t.toArray⟩++⟨#[32,42,32]⟩)++⟨a.toArray⟩))=_;rw[uh HE,show(⟨#[32,42,32]⟩:ByteArray)=⟨([32,42,32]:List UInt8).toArray⟩ from rfl,oY,oY],rfl⟩
theorem CU(w:World)(a b:List UInt8)(ha:a.length<=1000000)(hb:b.length<=1000000):Calls prog 102 #[.string ⟨a.toArray⟩,.string ⟨b.toArray⟩] w λe w'=>e=.returned (.string ⟨(K8 a b).toArray⟩)/\w'=w:=by
 by_cases h:a=[110,105,108]
 .have HE:Hid (K8 a b=b++[32,33,61,32]++a):=ab (by unfold K8;rw[if_pos h]);subst h;have n1:¬ 9223372036854775807<b.length+4:=by omega
  have n2:¬ 9223372036854775807<b.length+4+3:=by omega
  go_enter func102,ntmps102;go_wp2_with fail
  go_ret;exact⟨by
   show Ending.returned (.string ((⟨b.toArray⟩++⟨#[32,33,61,32]⟩)++⟨#[110,105,108]⟩))=_;rw[uh HE,show(⟨#[32,33,61,32]⟩:ByteArray)=⟨([32,33,61,32]:List UInt8).toArray⟩ from rfl,show(⟨#[110,105,108]⟩:ByteArray)=⟨([110,105,108]:List UInt8).toArray⟩ from rfl,oY,oY],rfl⟩
 .have HE:Hid (K8 a b=a++[32,33,61,32]++b):=ab (by unfold K8;rw[if_neg h]);have n1:¬ 9223372036854775807<a.length+4:=by omega
  have n2:¬ 9223372036854775807<a.length+4+b.length:=by omega
  have aJ:(a==([110,105,108]:List UInt8))=false:=by rw[beq_eq_false_iff_ne];exact h
  go_enter func102,ntmps102;go_wp2_with fail
  go_ret;exact⟨by
   show Ending.returned (.string ((⟨a.toArray⟩++⟨#[32,33,61,32]⟩)++⟨b.toArray⟩))=_;rw[uh HE,show(⟨#[32,33,61,32]⟩:ByteArray)=⟨([32,33,61,32]:List UInt8).toArray⟩ from rfl,oY,oY],rfl⟩
