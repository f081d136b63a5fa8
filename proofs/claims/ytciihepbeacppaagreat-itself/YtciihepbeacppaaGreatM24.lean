import Derived.Test.YtciihepbeacppaaGreatM23
set_option maxRecDepth 100000
set_option maxHeartbeats 0
namespace Go.Proofs.YtciihepbeacppaaGreat
open Tryz Go.RowKit List World Below
set_option linter.unusedVariables false
theorem Yu{c:Cd}(r:List CF × Sr)(g:CF):(ny c r g).2.lo=r.2.lo:=by unfold ny;split <;> rfl
theorem sK{β:Type}(g:List CF × Sr->β->List CF × Sr)(hg:∀r b,(g r b).2.lo=r.2.lo):∀(l:List β) (r:List CF × Sr),(l.foldl g r).2.lo=r.2.lo
 |[],_=>rfl
 |b::l,r=>(sK g hg l (g r b)).trans (hg r b)
theorem Yx{c:Cd}{f:CF}{i:Nat}(r:List CF × Sr)(a:Nat):(pm c f i r a).2.lo=r.2.lo:=by
 unfold pm;split
 .exact sK _ Yu _ _
 .rfl
theorem SM{c:Cd}{f:CF}(r:List CF × Sr)(i:Nat):(fI c f r i).2.lo=r.2.lo:=sK _ Yx _ _
theorem MQ{c:Cd}:∀(n k:Nat) (res:List CF) (r:List CF × Sr),(iF c n k res r).2.lo=r.2.lo
 |0,_,_,_=>rfl
 |n+1,k,res,r=>by
  unfold iF;split
  .rw[MQ n];unfold vW;split
   .rfl
   .exact sK _ SM _ _
  .rfl
theorem mF{c:Cd}{n:Nat}{f:CF}{s:Sr}(h:(bG c n f s).ok=true):s.ok=true/\(bh s n).length<=rX:=by
 have h1:(s.ok&&decide ((bh s n).length<=rX))=true:=by
  unfold bG at h;split at h
  .exact h
  .exact h
 rw[Bool.and_eq_true,decide_eq_true_eq]at h1;exact h1
theorem jT{c:Cd}{n:Nat}:∀(l:List CF) {s:Sr},(l.foldl (λs g=>bG c n g s) s).ok=true->s.ok=true
 |[],_,h=>h
 |_::l,_,h=>(mF (jT l h)).1
theorem LN{c:Cd}{fuel a b:Nat}{f:CF}{s:Sr}(h:(dG c fuel a b f s).ok=true):s.ok=true:=by
 unfold dG at h;split at h
 .exact(mF h).1
 .have h1:=jT _ h;exact tT fuel 0 [] ([f],kT a 2 s) h1
theorem gE{c:Cd}{fuel a b:Nat}:∀(l:List CF) {s:Sr},(l.foldl (λs g=>dG c fuel a b g s) s).ok=true->s.ok=true
 |[],_,h=>h
 |_::l,_,h=>LN (gE l h)
def Apt(O:List (Option Nat)):Prop:=∀i j k:Nat,O[i]?=some (some k)->O[j]?=some (some k)->i=j
def SR(O:List (Option Nat)):List Nat:=O.filterMap id
theorem aQ{O:List (Option Nat)}{k:Nat}:k∈SR O↔∃i:Nat,O[i]?=some (some k):=by
 unfold SR;rw[mem_filterMap];constructor
 .rintro⟨a,ha,e⟩;obtain⟨i,hi⟩:=mem_iff_getElem?.1 ha;exact⟨i,by rw[hi];exact congrArg some e⟩
 .rintro⟨i,hi⟩;exact⟨some k,mem_of_getElem? hi,rfl⟩
theorem Apt.set{O:List (Option Nat)}(h:Apt O)(p:Nat){o:Option Nat}(ho:∀k,o=some k->O[p]?=some (some k)\/∀j:Nat,O[j]?≠some (some k)):Apt (O.set p o):=by
 intro i j k hi hj;rw[getElem?_set]at hi hj;by_cases e1:p=i
 .by_cases e2:p=j
  .exact e1.symm.trans e2
  .rw[if_pos e1]at hi;rw[if_neg e2]at hj;split at hi
   .simp only[Option.some.injEq]at hi;rcases ho k hi with q|q
    .exact e1.symm.trans (h _ _ _ q hj)
    .exact absurd hj (q j)
   .simp at hi
 .rw[if_neg e1]at hi;by_cases e2:p=j
  .rw[if_pos e2]at hj;split at hj
   .simp only[Option.some.injEq]at hj;rcases ho k hj with q|q
    .exact(h _ _ _ hi q).trans e2
    .exact absurd hi (q i)
   .simp at hj
  .rw[if_neg e2]at hj;exact h _ _ _ hi hj
def aF:Value:=.slice none 0 0
structure En where
 D:Nat
 x:FE
 d:Bool
def En.bs(e:En):List Nat:=e.D::e.x.bs
def En.c(e:En):List Value:=[.pointer (some ⟨e.D,0,none⟩),.bool e.d]
def En.m(e:En):f9:=⟨e.x.f,e.d⟩
def qm(L:List En):List Value:=L.flatMap En.c
def En.ok(w:World)(e:En):Prop:=qh w e.D e.x.A e.x.f e.x.av e.x.ov/\Td e.x.f
theorem SC(L:List En):(qm L).length=L.length*2:=by
 induction L with
 |nil=>rfl
 |cons a L ih =>
  unfold qm at ih ⊢;rw[flatMap_cons,length_append,ih,length_cons];show 2+_=_;omega
theorem SB(L M:List En):qm (L++M)=qm L++qm M:=by unfold qm;rw[flatMap_append]
theorem MD(L:List En)(k:Nat):(qm L).take (k*2)=qm (L.take k):=by
 induction L generalizing k with
 |nil=>simp[qm]
 |cons a L ih =>
  cases k with
  |zero=>simp[qm]
  |succ k =>
   have:=ih k;unfold qm at this ⊢;rw[take_succ_cons,flatMap_cons,flatMap_cons,<-this,show(k+1)*2=(k*2)+1+1 by omega];rfl
theorem pi{L:List En}{i:Nat}(hi:i<L.length):(qm L)[i*2]?=some (.pointer (some ⟨L[i].D,0,none⟩))/\(qm L)[i*2+1]?=some (.bool L[i].d):=by
 induction L generalizing i with
 |nil=>simp at hi
 |cons a L ih =>
  cases i with
  |zero=>exact⟨rfl,rfl⟩
  |succ i =>
   have:=ih (i:=i) (by simpa using hi);unfold qm at this ⊢;rw[flatMap_cons,show(i+1)*2=(i*2)+1+1 by omega,show i*2+1+1+1=(i*2+1)+1+1 by omega];exact this
theorem Gj{L:List En}{i:Nat}(hi:i<L.length)(e:En):((qm L).set (i*2) (.pointer (some ⟨e.D,0,none⟩))).set (i*2+1) (.bool e.d)=qm (L.set i e):=by
 induction L generalizing i with
 |nil=>simp at hi
 |cons a L ih =>
  cases i with
  |zero=>rfl
  |succ i =>
   have:=ih (i:=i) (by simpa using hi);unfold qm at this ⊢;rw[set_cons_succ,flatMap_cons,flatMap_cons,<-this,show(i+1)*2=(i*2)+1+1 by omega,show i*2+1+1+1=(i*2+1)+1+1 by omega];rfl
def nF(S:Nat)(hv kv wv:Value)(KV WV:List Value):List (Option Nat):=some S::hv.ownBlock::kv.ownBlock::wv.ownBlock::(KV.map Value.ownBlock++WV.map Value.ownBlock)
def cI(S:Nat)(hv kv wv:Value)(KV WV:List Value):List Nat:=SR (nF S hv kv wv KV WV)
def dK(K:List (List En)):List Nat:=K.flatMap (λl=>l.flatMap En.bs)
theorem bu{K:List (List En)}{k:Nat}:k∈dK K↔∃l∈K,∃e∈l,k∈e.bs:=by
 unfold dK;simp only[mem_flatMap]
structure Sh(w:World)(S:Nat)(c:Cd)(c0 hv kv wv:Value)(KV WV:List Value)(K:List (List En))(s:Sr):Prop where
 bs:Bk w S 229 (oW c0 hv c.lp kv wv c.bd s.lf s.lo s.fu)
 hr:w.ownsRow 0 4 1 hv c.hd.length (cS c.hd)
 kr:w.ownsRow 0 255 1 kv K.length KV
 ke:∀i,i<K.length->w.ownsRow 0 258 2 (KV.getD i aF) (K.getD i []).length (qm (K.getD i []))
 wr:w.ownsRow 0 200 1 wv K.length WV
 we:∀i,i<K.length->w.ownsRow 0 4 1 (WV.getD i aF) 5 (cS (s.wr.getD i []))
 wl:s.wr.length=K.length
 hl:c.hd.length=K.length
 nl:c.nds.length=K.length
 km:s.kn=K.map (λl=>l.map En.m)
 dr:∀l∈K,∀e∈l,e.ok w
 nd:Apt (nF S hv kv wv KV WV)
 da:∀k∈dK K,k ∉ cI S hv kv wv KV WV
section
variable {w w':World} {S:Nat} {c:Cd} {c0 hv kv wv:Value} {KV WV:List Value} {K:List (List En)} {s:Sr}
theorem Sh.kvl(h:Sh w S c c0 hv kv wv KV WV K s):KV.length=K.length:=by have:=h.kr.1;omega
theorem Sh.wvl(h:Sh w S c c0 hv kv wv KV WV K s):WV.length=K.length:=by have:=h.wr.1;omega
theorem ww{i:Nat}(hi:i<KV.length):(nF S hv kv wv KV WV)[4+i]?=some (KV.getD i aF).ownBlock:=by
 unfold nF;rw[show 4+i=i+1+1+1+1 by omega];simp only[getElem?_cons_succ];rw[getElem?_append_left (by simpa using hi)];simp[hi]
theorem zD{i:Nat}(hi:i<WV.length):(nF S hv kv wv KV WV)[4+(KV.length+i)]?=some (WV.getD i aF).ownBlock:=by
 unfold nF;rw[show 4+(KV.length+i)=(KV.length+i)+1+1+1+1 by omega];simp only[getElem?_cons_succ];rw[getElem?_append_right (by simp)];simp[hi]
theorem EX{n:Nat}(v:Value)(hn:n<KV.length):nF S hv kv wv (KV.set n v) WV=(nF S hv kv wv KV WV).set (4+n) v.ownBlock:=by
 unfold nF;rw[show 4+n=n+1+1+1+1 by omega];simp only[set_cons_succ];rw[set_append_left _ _ (by simpa using hn),map_set]
theorem Pi{i k:Nat}(h:(nF S hv kv wv KV WV)[i]?=some (some k)):i=0/\k=S\/i=1/\hv.ownBlock=some k\/i=2/\kv.ownBlock=some k\/i=3/\wv.ownBlock=some k\/(∃j,j<KV.length/\i=4+j/\(KV.getD j aF).ownBlock=some k)\/∃j,j<WV.length/\i=4+(KV.length+j)/\(WV.getD j aF).ownBlock=some k:=by
 unfold nF at h;match i with
 |0=>left;simpa[eq_comm] using h
 |1=>right;left;simpa using h
 |2=>right;right;left;simpa using h
 |3=>right;right;right;left;simpa using h
 |i+4 =>
  simp only[getElem?_cons_succ]at h;by_cases hl:i<KV.length
  .right;right;right;right;left;rw[getElem?_append_left (by simpa using hl)]at h;refine⟨i,hl,by omega,?_⟩;simpa[hl] using h
  .right;right;right;right;right;rw[getElem?_append_right (by simp;omega)]at h;have sP:i-KV.length<WV.length:=by
    have:=(List.getElem?_eq_some_iff.1 h).1;simpa using this
   refine⟨i-KV.length,sP,by omega,?_⟩;simpa[sP] using h
theorem Sh.lt(h:Sh w S c c0 hv kv wv KV WV K s):∀k∈cI S hv kv wv KV WV,k<w.heap.size:=by
 intro k hk;obtain⟨i,hi⟩:=aQ.1 hk;rcases Pi hi with⟨-,rfl⟩|⟨-,e⟩|⟨-,e⟩|⟨-,e⟩|⟨j,hj,-,e⟩|⟨j,hj,-,e⟩
 .exact h.bs.lt
 .exact(h.hr.lt k e).2
 .exact(h.kr.lt k e).2
 .exact(h.wr.lt k e).2
 .exact((h.ke j (by rw[<-h.kvl];exact hj)).lt k e).2
 .exact((h.we j (by rw[<-h.wvl];exact hj)).lt k e).2
theorem Sh.drlt(h:Sh w S c c0 hv kv wv KV WV K s):∀k∈dK K,k<w.heap.size:=by
 intro k hk;obtain⟨l,hl,e,he,hk⟩:=bu.1 hk;exact(h.dr l hl e he).1.lt k hk
theorem bL{i k:Nat}(h:(nF S hv kv wv KV WV)[i]?=some (some k)):k∈cI S hv kv wv KV WV:=aQ.2 ⟨i,h⟩
theorem fJ:S∈cI S hv kv wv KV WV:=bL (i:=0) rfl
theorem En.ok.of_eq{e:En}(h:e.ok w)(he:∀k∈e.bs,w'.heap[k]?=w.heap[k]?):e.ok w':=⟨h.1.of_eq he,h.2⟩
theorem Sh.of_eq(h:Sh w S c c0 hv kv wv KV WV K s)(he:∀k∈cI S hv kv wv KV WV,w'.heap[k]?=w.heap[k]?)(hd:∀k∈dK K,w'.heap[k]?=w.heap[k]?):Sh w' S c c0 hv kv wv KV WV K s:=by
 have hK:=h.kvl;have hW:=h.wvl;refine⟨h.bs.of_eq (he S fJ),ae h.hr (λk hk=>he k (bL (i:=1) (congrArg some hk))),ae h.kr (λk hk=>he k (bL (i:=2) (congrArg some hk))),λi hi=>ae (h.ke i hi) (λk hk=>he k (bL ((ww (by omega)).trans (congrArg some hk)))),ae h.wr (λk hk=>he k (bL (i:=3) (congrArg some hk))),λi hi=>ae (h.we i hi) (λk hk=>he k (bL ((zD (by omega)).trans (congrArg some hk)))),h.wl,h.hl,h.nl,h.km,λl hl e mY=>(h.dr l hl e mY).of_eq (λk hk=>hd k (bu.2 ⟨l,hl,e,mY,hk⟩)),h.nd,h.da⟩
theorem Sh.below(h:Sh w S c c0 hv kv wv KV WV K s)(hb:Below w.heap.size w w'):Sh w' S c c0 hv kv wv KV WV K s:=h.of_eq (λk hk=>hb.block k (h.lt k hk)) (λk hk=>hb.block k (h.drlt k hk))
theorem Sh.stp{F F':List Nat}(h:Sh w S c c0 hv kv wv KV WV K s)(hs:ar F w F' w')(h1:∀k∈cI S hv kv wv KV WV,k ∉ F)(h2:∀k∈dK K,k ∉ F):Sh w' S c c0 hv kv wv KV WV K s:=h.of_eq (λk hk=>hs.block k (h.lt k hk) (h1 k hk)) (λk hk=>hs.block k (h.drlt k hk) (h2 k hk))
theorem Sh.own{F F':List Nat}(h:Sh w S c c0 hv kv wv KV WV K s){s':Sr}(hb:Bk w' S 229 (oW c0 hv c.lp kv wv c.bd s'.lf s'.lo s'.fu))(hs:ar F w F' w')(hF:∀k∈F,k=S\/k ∉ cI S hv kv wv KV WV/\k ∉ dK K)(e1:s'.kn=s.kn)(e2:s'.wr=s.wr):Sh w' S c c0 hv kv wv KV WV K s':=by
 have aJ:∀i k,i≠0->(nF S hv kv wv KV WV)[i]?=some (some k)->w'.heap[k]?=w.heap[k]?:=λi k iL hi =>
  hs.block k (h.lt k (bL hi)) (λhk=>by
   rcases hF k hk with p|p
   .subst p;exact iL (h.nd i 0 k hi rfl)
   .exact p.1 (bL hi))
 have hK:=h.kvl;have hW:=h.wvl;refine⟨hb,ae h.hr (λk hk=>aJ 1 k (by omega) (congrArg some hk)),ae h.kr (λk hk=>aJ 2 k (by omega) (congrArg some hk)),λi hi=>ae (h.ke i hi) (λk hk=>aJ _ k (by omega) ((ww (by omega)).trans (congrArg some hk))),ae h.wr (λk hk=>aJ 3 k (by omega) (congrArg some hk)),λi hi=>?_,by rw[e2];exact h.wl,h.hl,h.nl,by rw[e1];exact h.km,λl hl e mY=>(h.dr l hl e mY).of_eq (λk hk=>?_),h.nd,h.da⟩
 .rw[e2];exact ae (h.we i hi) (λk hk=>aJ _ k (by omega) ((zD (by omega)).trans (congrArg some hk)))
 .have hm:=bu.2 ⟨l,hl,e,mY,hk⟩;refine hs.block k (h.drlt k hm) (λhq=>?_);rcases hF k hq with p|p
  .exact h.da k hm (by rw[p];exact fJ)
  .exact p.2 hm
theorem Sh.put (h:Sh w S c c0 hv kv wv KV WV K s) {n:Nat} (hn:n<K.length) {v':Value} {l':List En} (he:∀i k,i≠2->i≠4+n->(nF S hv kv wv KV WV)[i]?=some (some k)->w'.heap[k]?=w.heap[k]?)
  (hk:w'.ownsRow 0 255 1 kv K.length (KV.set n v')) (hr:w'.ownsRow 0 258 2 v' l'.length (qm l')) (K1:∀k,v'.ownBlock=some k->(KV.getD n aF).ownBlock=some k\/w.heap.size<=k)
  (hd:∀k∈dK K,w'.heap[k]?=w.heap[k]?) (hl:∀e∈l',e.ok w'/\∀k∈e.bs,k ∉ cI S hv kv wv (KV.set n v') WV):Sh w' S c c0 hv kv wv (KV.set n v') WV (K.set n l') { s with kn:=s.kn.set n (l'.map En.m) }:=by
 have hK:=h.kvl;have hW:=h.wvl;have hnK:n<KV.length:=by omega
 have oj:∀k∈cI S hv kv wv (KV.set n v') WV,k∈cI S hv kv wv KV WV\/w.heap.size<=k:=λk hk=>by
  obtain⟨i,hi⟩:=aQ.1 hk;rw[EX v' hnK,getElem?_set]at hi;split at hi
  .rename_i e;split at hi
   .simp only[Option.some.injEq]at hi;rcases K1 k hi with q|q
    .exact zq0 (bL ((ww hnK).trans (congrArg some q)))
    .exact zq1 q
   .simp at hi
  .exact zq0 (bL hi)
 have xt:(K.set n l').length=K.length:=length_set;refine⟨h.bs.of_eq (he 0 S (by omega) (by omega) rfl),ae h.hr (λk hk=>he 1 k (by omega) (by omega) (congrArg some hk)),by rw[xt];exact hk,λi hi=>?_,by rw[xt];exact ae h.wr (λk hk=>he 3 k (by omega) (by omega) (congrArg some hk)),λi hi=>?_,by rw[xt];exact h.wl,by rw[xt];exact h.hl,by rw[xt];exact h.nl,?_,λl sP e mY=>?_,?_,λk hk hm=>?_⟩
 .rw[xt]at hi;by_cases e:i=n
  .subst e;have e1:(KV.set i v').getD i aF=v':=(by simp[hnK]);have e2:(K.set i l').getD i []=l':=(by simp[hn]);rw[e1,e2];exact hr
  .have e1:(KV.set n v').getD i aF=KV.getD i aF:=by
    rw[getD_eq_getElem?_getD,getElem?_set_ne (λe'=>e e'.symm),<-getD_eq_getElem?_getD]
   have e2:(K.set n l').getD i []=K.getD i []:=by
    rw[getD_eq_getElem?_getD,getElem?_set_ne (λe'=>e e'.symm),<-getD_eq_getElem?_getD]
   rw[e1,e2];exact ae (h.ke i hi) (λk hk=>he _ k (by omega) (by omega) ((ww (by omega)).trans (congrArg some hk)))
 .rw[xt]at hi;exact ae (h.we i hi) (λk hk=>he _ k (by omega) (by omega) ((zD (by omega)).trans (congrArg some hk)))
 .show s.kn.set n _=_;rw[h.km,map_set]
 .rcases mem_or_eq_of_mem_set sP with p|p
  .exact(h.dr l p e mY).of_eq (λk hk=>hd k (bu.2 ⟨l,p,e,mY,hk⟩))
  .subst p;exact(hl e mY).1
 .rw[EX v' hnK];refine h.nd.set (4+n) (λk hk=>?_);rcases K1 k hk with q|q
  .exact zq0 ((ww hnK).trans (congrArg some q))
  .exact zq1 (λj hj=>by have:=h.lt k (bL hj);omega)
 .obtain⟨l,sP,e,mY,sN⟩:=bu.1 hk;rcases mem_or_eq_of_mem_set sP with p|p
  .have hq:=bu.2 ⟨l,p,e,mY,sN⟩;rcases oj k hm with q|q
   .exact h.da k hq q
   .have:=h.drlt k hq;omega
  .subst p;exact(hl e mY).2 k sN hm
theorem Sh.bad(h:Sh w S c c0 hv kv wv KV WV K s){n:Nat}(hn:n<K.length){t:Nat}(ht:t<5){g cap:Nat}(hg:WV.getD n aF=.slice (some ⟨g,0,none⟩) 5 cap):Sh (w.setCell ⟨g,t,none⟩ (.bool true)) S c c0 hv kv wv KV WV K (kT n t s)/\g∈cI S hv kv wv KV WV:=by
 have hK:=h.kvl;have hW:=h.wvl;have kK:(nF S hv kv wv KV WV)[4+(KV.length+n)]?=some (some g):=by rw[zD (by omega),hg];rfl
 have aJ:∀i k,i≠4+(KV.length+n)->(nF S hv kv wv KV WV)[i]?=some (some k)->(w.setCell ⟨g,t,none⟩ (.bool true)).heap[k]?=w.heap[k]?:=λi k hi hk=>by
  refine heap_setCell _ _ _ _ (λe=>hi ?_);rw[show k=g from e]at hk;exact h.nd i _ g hk kK
 refine⟨⟨h.bs.of_eq (aJ 0 S (by omega) rfl),ae h.hr (λk hk=>aJ 1 k (by omega) (congrArg some hk)),ae h.kr (λk hk=>aJ 2 k (by omega) (congrArg some hk)),λi hi=>ae (h.ke i hi) (λk hk=>aJ _ k (by omega) ((ww (by omega)).trans (congrArg some hk))),ae h.wr (λk hk=>aJ 3 k (by omega) (congrArg some hk)),λi hi=>?_,?_,h.hl,h.nl,h.km,λl hl e mY=>(h.dr l hl e mY).of_eq (λk hk=>?_),h.nd,h.da⟩,bL kK⟩
 .by_cases e:i=n
  .subst e;have h1:=h.we i hi;rw[hg]at h1 ⊢;have h2:=(h1.stored t (.bool true)).1;have e3:(kT i t s).wr.getD i []=(s.wr.getD i []).set t true:=by
    show(s.wr.set i _).getD i []=_;have:i<s.wr.length:=(by rw[h.wl];exact hi);simp[this]
   rw[e3];have e4:cS ((s.wr.getD i []).set t true)=(cS (s.wr.getD i [])).set t (.bool true):=(by unfold cS;rw[map_set]);rw[e4];exact h2
  .have e3:(kT n t s).wr.getD i []=s.wr.getD i []:=by
    show(s.wr.set n _).getD i []=_;rw[getD_eq_getElem?_getD,getElem?_set_ne (λe'=>e e'.symm),<-getD_eq_getElem?_getD]
   rw[e3];exact ae (h.we i hi) (λk hk=>aJ _ k (by omega) ((zD (by omega)).trans (congrArg some hk)))
 .show(s.wr.set n _).length=_;rw[length_set];exact h.wl
 .have hm:=bu.2 ⟨l,hl,e,mY,hk⟩;refine heap_setCell _ _ _ _ (λe'=>h.da k hm ?_);rw[show k=g from e'];exact bL kK
end
section
variable {P:Program} (w:World)
theorem CI (base:Nat) (t ty e:TypeId) (i:TypeInfo) (z:Value) (size bytes:Nat) (ht:P.underlying t=some (.slice e)) (hi:P.info? e=some i) (hz:i.zero=some z)
  (iN:i.size=size) (Em:i.bytes=bytes) (J4:z.cells.size=size) (ko:0<size)
  (v:Value) (n:Nat) (xs:List Value) (aN:w.ownsRow base e size v n xs)
  (a:Addr) (c:Nat) (news:List Value) (hl:news.length=size) (gK:∀j u,news[j]?=some u->w.cell? (a.add j)=some u) (h1:∀u∈news,u.oneCell'=true)
  (Jy:n+1<=2000000000000) (hb:bytes<=16) (jP:base<=w.heap.size) :
  ∃v' w',(Builtin.append_ #[t,t] ty #[v,.slice (some a) 1 c]).run P w=.ok v' w'/\w'.ownsRow base e size v' (n+1) (xs++news)/\w.grownBy w' v.ownBlock /\
   (v'.ownBlock=v.ownBlock\/v'.ownBlock=some w.heap.size)/\∃g cap,v'=.slice (some ⟨g,0,none⟩) (n+1) cap:=by
 have hbytes:(n+1)*bytes<=140737488355328:=zq3 (Nat.mul_le_mul Jy hb) (by decide);obtain⟨v',w',hr,ho,hg,_⟩:=run_append_own (P:=P) w base t ty e i z size bytes ht hi hz iN Em J4 ko v n xs aN a 1 c news (by omega) gK h1 (by unfold maxLen;omega) hbytes jP;refine⟨v',w',hr,ho,hg,?_,?_⟩
 .subst iN;subst Em;rcases aN.2 with⟨rfl,rfl⟩|⟨g,cap,cur,rfl,oh,Ts,KX,kj,uc,Ov⟩
  .have iu:=run_append_nil (P:=P) w t ty e i z ht hi hz a 1 c news (by omega) gK (by omega) (by omega) (by omega);rw[hr]at iu;injection iu with e1 e2;subst e1;exact zq1 rfl
  .by_cases Ca:n+1<=cap
   .have yT:n*i.size+news.length<=cur.size:=by
     rw[hl,uc];have:=Nat.mul_le_mul_right i.size Ca;rw[Nat.add_mul]at this;omega
    have iu:=run_append_room (P:=P) w t ty e i ht hi g n cap cur Ts a 1 c news (by omega) gK h1 Ca yT;rw[hr]at iu;injection iu with e1 e2;subst e1;exact zq0 rfl
   .have holds:∀j u,xs[j]?=some u->w.cell? ((⟨g,0,none⟩:Addr).add j)=some u:=aN.cells (g:=g) rfl;have iu:=run_append_grow (P:=P) w t ty e i z ht hi hz ⟨g,0,none⟩ n cap xs aN.1 holds a 1 c news (by omega) gK (by omega) (by omega) (growslice_fits (by omega) hbytes);rw[hr]at iu;injection iu with e1 e2;subst e1;exact zq1 rfl
 .rcases ho.2 with⟨_,h⟩|⟨g,cap,_,h,_⟩
  .omega
  .exact⟨g,cap,h⟩
theorem rS {ops:Array Oper} {rest:List Oper} {o:Oper} {a:Act} {Q:Exit->Act->World->Prop}
  (hg:o.guard=none) (s x:Operand) (t:TypeId) (mC:o.op=Op.call { callee:=Callee.builtin Builtin.append,args:=#[s,x],argTypes:=#[t,t] })
  (base:Nat) (e:TypeId) (i:TypeInfo) (z:Value) (size bytes:Nat) (ht:P.underlying t=some (.slice e)) (hi:P.info? e=some i) (hz:i.zero=some z)
  (iN:i.size=size) (Em:i.bytes=bytes) (J4:z.cells.size=size) (ko:0<size)
  (v:Value) (n:Nat) (xs:List Value) (hs:a.eval s=v) (aN:w.ownsRow base e size v n xs)
  (ad:Addr) (c:Nat) (news:List Value) (hx:a.eval x=.slice (some ad) 1 c) (hl:news.length=size) (gK:∀j u,news[j]?=some u->w.cell? (ad.add j)=some u) (h1:∀u∈news,u.oneCell'=true)
  (Jy:n+1<=2000000000000) (hb:bytes<=16) (jP:base<=w.heap.size)
  (hK:∀g cap w',w'.ownsRow base e size (.slice (some ⟨g,0,none⟩) (n+1) cap) (n+1) (xs++news)->w.grownBy w' v.ownBlock->(some g=v.ownBlock\/g=w.heap.size)->wpList P ops Q rest (a.put o.dst (.slice (some ⟨g,0,none⟩) (n+1) cap)) w') :
  wpList P ops Q (o::rest) a w:=by
 refine wpList_plain hg λK hK'=>?_;obtain⟨v',w',EE,r1,r2,r3,g,cap,rfl⟩:=CI (P:=P) w base t o.type e i z size bytes ht hi hz iN Em J4 ko v n xs aN ad c news hl gK h1 Jy hb jP;unfold Oper.wp;simp[execOp,mC,resolve,invoke,builtin,hs,hx,EE,Result.andThen];exact hK' _ _ (hK g cap w' r1 r2 (by simpa[Value.ownBlock] using r3))
end
theorem bD{α:Type}{l:List α}{d:α}{i:Nat}(h:i<l.length):l.getD i d=l[i]:=by simp[h]
theorem infoEn:(prog.info? 258).map (λi=>(i.zero,i.size,i.bytes))=some (some (.agg #[.pointer none,.bool false]),2,16):=by kernel_rfl
structure gb(w w':World)(F F' D D' X:List Nat):Prop where
 st:ar (F++X) w F' w'
 dr:∀k∈D',k∈D\/k∈X\/w.heap.size<=k
theorem gb.trans{w w1 w2:World}{F F1 F2 D D1 D2 X Y:List Nat}(h:gb w w1 F F1 D D1 X)(h2:gb w1 w2 F1 F2 D1 D2 Y)(hY:∀k∈Y,k∈X\/w.heap.size<=k):gb w w2 F F2 D D2 X:=by
 have oj:∀k∈F1++Y,k∈F++X\/w.heap.size<=k:=λk hk=>by
  rcases mem_append.1 hk with p|p
  .exact h.st.foot k p
  .rcases hY k p with q|q
   .exact zq0 (mem_append_right _ q)
   .exact zq1 q
 refine⟨⟨h2.st.os.trans h.st.os,h2.st.tape.trans h.st.tape,h2.st.output.trans h.st.output,zq3 h.st.size h2.st.size,λk hk hn=>?_,λk hk=>?_⟩,λk hk=>?_⟩
 .refine(h2.st.block k (zq6 hk h.st.size) (λe=>?_)).trans (h.st.block k hk hn);rcases oj k e with p|p
  .exact hn p
  .omega
 .rcases h2.st.foot k hk with p|p
  .exact oj k p
  .exact zq1 (zq3 h.st.size p)
 .rcases h2.dr k hk with p|p|p
  .exact h.dr k p
  .rcases hY k p with q|q
   .exact zq1 (zq0 q)
   .exact zq1 (zq1 q)
  .exact zq1 (zq1 (zq3 h.st.size p))
theorem gb.below{w w':World}{F D X:List Nat}(h:Below w.heap.size w w'):gb w w' F F D D X:=⟨⟨h.os,h.tape,h.output,h.size,λk hk _=>h.block k hk,λ_ hk=>zq0 (mem_append_left _ hk)⟩,λ_ hk=>zq0 hk⟩
theorem gb.stp{w w':World}{F D X G G':List Nat}(h:ar G w G' w')(hG:∀k∈G,k∈F\/k∈X):gb w w' F F D D X:=⟨⟨h.os,h.tape,h.output,h.size,λk hk hn=>h.block k hk (λe=>hn (mem_append.2 (hG k e))),λ_ hk=>zq0 (mem_append_left _ hk)⟩,λ_ hk=>zq0 hk⟩
theorem amd{W:World}{B g cap n i:Nat}{L:List En}(hr:W.ownsRow B 258 2 (.slice (some ⟨g,0,none⟩) n cap) n (qm L))(hn:n=L.length)(hi:i<n)(e:En):
  ((W.setCell ⟨g,i*2,none⟩ (.pointer (some ⟨e.D,0,none⟩))).setCell ⟨g,i*2+1,none⟩ (.bool e.d)).ownsRow B 258 2 (.slice (some ⟨g,0,none⟩) n cap) n (qm (L.set i e)) /\
  ((∃u,W.cell? ⟨g,i*2,none⟩=some u)/\∃u,W.cell? ⟨g,i*2+1,none⟩=some u) /\
  W.frozen? ⟨g,i*2,none⟩=false/\W.frozen? ⟨g,i*2+1,none⟩=false:=by
 subst hn;have r3:=((hr.stored (i*2) (.pointer (some ⟨e.D,0,none⟩))).1.stored (i*2+1) (.bool e.d)).1;rw[Gj hi]at r3;have x0:=(hr.cellAt (i*2) (by omega)).trans (pi hi).1;have x1:=(hr.cellAt (i*2+1) (by omega)).trans (pi hi).2;exact⟨r3,⟨⟨_,x0⟩,⟨_,x1⟩⟩,hr.frozenAt _,hr.frozenAt _⟩
theorem lR{W:World}{B g cap n i:Nat}{L:List En}(hr:W.ownsRow B 258 2 (.slice (some ⟨g,0,none⟩) n cap) n (qm L))(hn:n=L.length)(hi:i<n):W.cell? ⟨g,i*2,none⟩=some (.pointer (some ⟨(L[i]'(by omega)).D,0,none⟩))/\W.cell? ⟨g,i*2+1,none⟩=some (.bool (L[i]'(by omega)).d):=by
 subst hn;exact⟨(hr.cellAt (i*2) (by omega)).trans (pi hi).1,(hr.cellAt (i*2+1) (by omega)).trans (pi hi).2⟩
theorem En.one(e:En):∀u∈e.c,u.oneCell'=true:=by
 intro u hu;simp only[En.c,mem_cons,not_mem_nil,or_false]at hu;rcases hu with rfl|rfl <;> rfl
section
variable {w:World} {S:Nat} {c:Cd} {c0 hv kv wv:Value} {KV WV:List Value} {K:List (List En)} {s:Sr} {x:FE}
theorem Sh.knE(h:Sh w S c c0 hv kv wv KV WV K s)(n:Nat):bh s n=(K.getD n []).map En.m:=by
 unfold bh;rw[h.km];by_cases hn:n<K.length
 .simp[hn]
 .simp[getD_eq_getElem?_getD,getElem?_eq_none (Nat.le_of_not_lt hn)]
theorem Sh.kc(h:Sh w S c c0 hv kv wv KV WV K s){n:Nat}(hn:n<K.length):∃g cap,kv=.slice (some ⟨g,0,none⟩) K.length cap/\w.cell? ⟨g,n,none⟩=some (KV.getD n aF):=by
 obtain⟨g,cap,hv,-,-,-⟩:=bM h.kr (by omega);have jf:=h.kvl;refine⟨g,cap,hv,?_⟩;have:=h.kr;rw[hv]at this;rw[this.cellAt n (by omega),getElem?_eq_getElem (by omega),bD (by omega)]
theorem Sh.hc(h:Sh w S c c0 hv kv wv KV WV K s){n:Nat}(hn:n<K.length):∃g cap,hv=.slice (some ⟨g,0,none⟩) K.length cap/\w.cell? ⟨g,n,none⟩=some (.bool (c.hd.getD n false)):=by
 have hl:=h.hl;obtain⟨g,cap,hv,-,-,-⟩:=bM h.hr (by omega);refine⟨g,cap,by rw[hv,hl],?_⟩;have:=h.hr;rw[hv]at this;rw[this.cellAt n (by omega)];exact eH (by omega)
def gf(w:World)(S:Nat)(c:Cd)(c0 hv kv wv:Value)(KV WV:List Value)(K:List (List En))(X:List Nat)(s':Sr)(w':World):Prop :=
 ∃KV' K',Sh w' S c c0 hv kv wv KV' WV K' s'/\K'.length=K.length/\gb w w' (cI S hv kv wv KV WV) (cI S hv kv wv KV' WV) (dK K) (dK K') X
theorem Sh.as(h:Sh w S c c0 hv kv wv KV WV K s){s':Sr}(e1:s'.kn=s.kn)(e2:s'.wr=s.wr)(e3:s'.lf=s.lf)(e4:s'.lo=s.lo)(e5:s'.fu=s.fu):Sh w S c c0 hv kv wv KV WV K s' :=
 ⟨by rw[e3,e4,e5];exact h.bs,h.hr,h.kr,h.ke,h.wr,by rw[e2];exact h.we,by rw[e2];exact h.wl,h.hl,h.nl,by rw[e1];exact h.km,h.dr,h.nd,h.da⟩
end
section
variable {w W:World} {S:Nat} {c:Cd} {c0 hv kv wv:Value} {KV WV:List Value} {K:List (List En)} {s:Sr} {n:Nat} {g:CF} {D A:Nat} {av ov:Value}
theorem TW{o:Obj}{W1:World}{row:Option Nat}{F:List Nat}(h:Sh w S c c0 hv kv wv KV WV K s)(hn:n<K.length)(aR:(KV.getD n aF).ownBlock=row)(hW:ar row.toList w F W)(hg:(W.alloc o).grownBy W1 row):
  Bk W1 S 229 (oW c0 hv c.lp kv wv c.bd s.lf s.lo s.fu)/\W1.ownsRow 0 255 1 kv K.length KV:=by
 have hK:=h.kvl;have AE:(nF S hv kv wv KV WV)[4+n]?=some row:=by rw[ww (by omega),aR]
 have lZ:∀i k,i≠4+n->(nF S hv kv wv KV WV)[i]?=some (some k)->W1.heap[k]?=w.heap[k]?:=λi k hi hk=>by
  have aJ:row≠some k:=λe=>hi (h.nd i (4+n) k hk (by rw[AE,e]));have aq:=h.lt k (bL hk);exact((hg.block k (by have:=hW.size;simp;omega) aJ.symm).trans (heap_alloc _ _ _ (zq6 aq hW.size))).trans (hW.block k aq (by simpa[eq_comm] using aJ))
 exact⟨h.bs.of_eq (lZ 0 S (by omega) rfl),ae h.kr (λk hk=>lZ 2 k (by omega) (congrArg some hk))⟩
theorem Gp{l:List En}{P:En->Bool}{i:Nat}(hi:i<l.length):(l.take (i+1)).filter P=(l.take i).filter P++if P l[i]=true then [l[i]] else []:=by
 rw[take_succ_eq_append_getElem hi,filter_append];congr 1;by_cases h:P l[i]=true <;> simp[h]
theorem Pg(a:Option Addr)(i j i' j':Nat):(Value.slice a i j).ownBlock=(Value.slice a i' j').ownBlock:=by cases a <;> rfl
theorem TV {o:Obj} {W1:World} {gk ck g1 c1:Nat} {row:Option Nat} {F:List Nat} (h:Sh w S c c0 hv (.slice (some ⟨gk,0,none⟩) K.length ck) wv KV WV K s) (hn:n<K.length)
  (aR:(KV.getD n aF).ownBlock=row) (hD:qh W D A g av ov) (hT:Td g) (hW:ar row.toList w F W)
  (Zh:∀k∈D::aD A av ov,k ∉ cI S hv (.slice (some ⟨gk,0,none⟩) K.length ck) wv KV WV)
  (aN:W1.ownsRow 0 258 2 (.slice (some ⟨g1,0,none⟩) (((K.getD n []).filter (λe=>!zZ e.x.f g)).length+1) c1) (((K.getD n []).filter (λe=>!zZ e.x.f g)).length+1) (qm ((K.getD n []).filter (λe=>!zZ e.x.f g))++[.pointer (some ⟨D,0,none⟩),.bool false]))
  (hg:(W.alloc o).grownBy W1 row) (cd:some g1=row\/g1=(W.alloc o).heap.size) :
  ∃KV' K',Sh (W1.setCell ⟨gk,n,none⟩ (.slice (some ⟨g1,0,none⟩) (((K.getD n []).filter (λe=>!zZ e.x.f g)).length+1) c1)) S c c0 hv (.slice (some ⟨gk,0,none⟩) K.length ck) wv KV' WV K' (m9 n g s)/\K'.length=K.length /\
   ar (cI S hv (.slice (some ⟨gk,0,none⟩) K.length ck) wv KV WV) w (cI S hv (.slice (some ⟨gk,0,none⟩) K.length ck) wv KV' WV) (W1.setCell ⟨gk,n,none⟩ (.slice (some ⟨g1,0,none⟩) (((K.getD n []).filter (λe=>!zZ e.x.f g)).length+1) c1))/\∀k∈dK K',k∈dK K\/k∈D::aD A av ov:=by
 obtain⟨l,hl⟩:∃l,l=K.getD n []:=⟨_,rfl⟩;rw[<-hl]at aN ⊢;obtain⟨M,hM⟩:∃M,M=l.filter (λe=>!zZ e.x.f g):=⟨_,rfl⟩;rw[<-hM]at aN ⊢;obtain⟨v',K1⟩:∃v',v'=Value.slice (some ⟨g1,0,none⟩) (M.length+1) c1:=⟨_,rfl⟩;have TM:v'.ownBlock=some g1:=by rw[K1];rfl
 rw[<-K1]at aN ⊢;have hK:=h.kvl;have ko:W.heap.size<=W1.heap.size:=zq3 (by simp) hg.size;have AE:(nF S hv (.slice (some ⟨gk,0,none⟩) K.length ck) wv KV WV)[4+n]?=some row:=by rw[ww (by omega),aR]
 have sN:(nF S hv (.slice (some ⟨gk,0,none⟩) K.length ck) wv KV WV)[2]?=some (some gk):=rfl;have Tt:row≠some gk:=λe=>by
  have:=h.nd (4+n) 2 gk (by rw[AE,e]) sN;omega
 -- what is neither the row's nor known's is as it was
 have lZ:∀k,k<W.heap.size->row≠some k->W1.heap[k]?=W.heap[k]?:=λk hk aJ=>(hg.block k (by simp;omega) aJ.symm).trans (heap_alloc _ _ _ hk);have yX:∀k,k<w.heap.size->row≠some k->W1.heap[k]?=w.heap[k]?:=λk hk aJ=>(lZ k (zq6 hk hW.size) aJ).trans (hW.block k hk (by simpa[eq_comm] using aJ));have cf:∀k,k≠gk->(W1.setCell ⟨gk,n,none⟩ v').heap[k]?=W1.heap[k]?:=λk hk=>heap_setCell _ _ _ _ hk;have hrs:∀k,row=some k->k∈cI S hv (.slice (some ⟨gk,0,none⟩) K.length ck) wv KV WV:=λk hk=>bL (by rw[AE,hk]);have vB:gk∈cI S hv (.slice (some ⟨gk,0,none⟩) K.length ck) wv KV WV:=bL sN;have akK:=h.lt gk vB;have JP:some g1=row\/W.heap.size<=g1:=by
  rcases cd with e|e
  .exact zq0 e
  .right;rw[e];simp
 have hg1k:g1≠gk:=λe=>by
  rcases JP with q|q
  .exact Tt (by rw[<-q,e])
  .have:=hW.size;omega
 have oj:∀k∈cI S hv (.slice (some ⟨gk,0,none⟩) K.length ck) wv (KV.set n v') WV,k∈cI S hv (.slice (some ⟨gk,0,none⟩) K.length ck) wv KV WV\/W.heap.size<=k:=λk hk=>by
  obtain⟨i,hi⟩:=aQ.1 hk;rw[EX v' (by omega),getElem?_set]at hi;split at hi
  .split at hi
   .simp only[Option.some.injEq]at hi;rw[TM]at hi;injection hi with hi;subst hi;rcases JP with q|q
    .exact zq0 (hrs _ q.symm)
    .exact zq1 q
   .simp at hi
  .exact zq0 (bL hi)
 have Q8:W1.ownsRow 0 255 1 (.slice (some ⟨gk,0,none⟩) K.length ck) K.length KV:=ae h.kr (λk hk=>by
  have e:gk=k:=by simpa[Value.ownBlock] using hk
  subst e;exact yX gk akK Tt)
 have Tr:∀k∈dK K,(W1.setCell ⟨gk,n,none⟩ v').heap[k]?=w.heap[k]?:=λk hk=>by
  rw[cf k (λe=>h.da k hk (by rw[e];exact vB))];exact yX k (h.drlt k hk) (λe=>h.da k hk (hrs k e))
 have hlK:l∈K:=by rw[hl,bD hn];exact getElem_mem hn
 have ik:∀k∈D::aD A av ov,(W1.setCell ⟨gk,n,none⟩ v').heap[k]?=W.heap[k]?:=λk hk=>by
  rw[cf k (λe=>Zh k hk (by rw[e];exact vB))];exact lZ k (hD.lt k hk) (λe=>Zh k hk (hrs k e))
 have qS:=h.put hn (w':=W1.setCell ⟨gk,n,none⟩ v') (v':=v') (l':=M++[⟨D,⟨A,g,av,ov⟩,false⟩]) (λi k h2 h4 hi=>by
   rw[cf k (λe=>h2 (h.nd i 2 k hi (by rw[e];exact sN)))];exact yX k (h.lt k (bL hi)) (λe=>h4 (h.nd i (4+n) k hi (by rw[AE,e])))) (Q8.stored n v').1 (by
   rw[length_append,length_singleton,SB];exact ci aN (p:=⟨gk,n,none⟩) (by rw[TM];intro e;injection e with e;exact hg1k e) v') (λk hk=>by
   rw[TM]at hk;injection hk with hk;subst hk;rcases JP with q|q
   .exact zq0 (by rw[aR,q])
   .exact zq1 (zq3 hW.size q)) Tr (λe he=>by
   rcases mem_append.1 he with p|p
   .have mY:e∈l:=(by rw[hM]at p;exact(mem_filter.1 p).1);refine⟨(h.dr l hlK e mY).of_eq (λk hk=>Tr k (bu.2 ⟨l,hlK,e,mY,hk⟩)),λk hk hm=>?_⟩;have hq:=bu.2 ⟨l,hlK,e,mY,hk⟩;rcases oj k hm with q|q
    .exact h.da k hq q
    .have:=h.drlt k hq;have:=hW.size;omega
   .rw[mem_singleton]at p;subst p;refine⟨⟨hD.of_eq ik,hT⟩,λk hk hm=>?_⟩;rcases oj k hm with q|q
    .exact Zh k hk q
    .have:=hD.lt k hk;omega)
 refine⟨KV.set n v',K.set n (M++[⟨D,⟨A,g,av,ov⟩,false⟩]),qS.as (s':=m9 n g s) ?_ rfl rfl rfl rfl,length_set,⟨hg.os.trans hW.os,hg.tape.trans hW.tape,hg.output.trans hW.output,?_,λk hk hm=>?_,λk hk=>?_⟩,λk hk=>?_⟩
 .show s.kn.set n _=s.kn.set n _;rw[h.knE n,<-hl,hM,map_append,filter_map];rfl
 .simpa[World.setCell] using zq3 hW.size ko
 .rw[cf k (λe=>hm (by rw[e];exact vB))];exact yX k hk (λe=>hm (hrs k e))
 .rcases oj k hk with q|q
  .exact zq0 q
  .exact zq1 (zq3 hW.size q)
 .obtain⟨l2,sP,e,mY,hk⟩:=bu.1 hk;rcases mem_or_eq_of_mem_set sP with p|p
  .exact zq0 (bu.2 ⟨l2,p,e,mY,hk⟩)
  .subst p;rcases mem_append.1 mY with q|q
   .exact zq0 (bu.2 ⟨l,hlK,e,by rw[hM]at q;exact(mem_filter.1 q).1,hk⟩)
   .rw[mem_singleton]at q;subst q;exact zq1 hk
end
section
variable {w:World} {S:Nat} {c:Cd} {c0 hv kv wv:Value} {KV WV:List Value} {K:List (List En)} {s:Sr} {x:FE}
theorem En.m_any(l:List En)(P:CF->Bool):(l.map En.m).any (λe=>P e.f)=l.any (λe=>P e.x.f):=by rw[any_map];rfl
theorem OM(h:Sh w S c c0 hv kv wv KV WV K s)(hx:Fm w x.A x.f x.av x.ov)(hT:Td x.f)(hd:∀k∈x.bs,k ∉ cI S hv kv wv KV WV/\k ∉ dK K){n:Nat}(hn:n<K.length)(vX:K.length<=100000)(bf:(bG c n x.f s).ok=true):
  Calls prog 201 #[.pointer (some ⟨S,0,none⟩),.int .i64 n,.pointer (some ⟨x.A,0,none⟩)] w λe w'=>e=.returned (.tuple #[])/\gf w S c c0 hv kv wv KV WV K x.bs (bG c n x.f s) w':=by
 obtain⟨i0,iL,eo,ep,eK⟩:=info_parts infoEn;have jD:=(mF bf).2;have eV:=h.knE n;rw[eV,length_map]at jD;obtain⟨hB,hC,hhv,chd⟩:=h.hc hn;subst hhv;obtain⟨kB,kC,BX,-⟩:=h.kc hn;subst BX;have c1:=h.bs.cell 1 rfl;obtain⟨l,hl⟩:∃l,l=K.getD n []:=⟨_,rfl⟩;rw[<-hl]at jD eV;have GP:l.length<=1000000000000:=jD;obtain⟨va,vc,y7,OA,TL⟩:=aj (h.ke n hn);rw[<-hl]at y7 OA;have hTG:Td (ch c n x.f):=zn hT;have agc:∀(w':World) (s':Sr),s'=bG c n x.f s->gf w S c c0 (.slice (some ⟨hB,0,none⟩) K.length hC) (.slice (some ⟨kB,0,none⟩) K.length kC) wv KV WV K x.bs s' w'->(Ending.returned (.tuple #[]):Ending)=.returned (.tuple #[])/\gf w S c c0 (.slice (some ⟨hB,0,none⟩) K.length hC) (.slice (some ⟨kB,0,none⟩) K.length kC) wv KV WV K x.bs (bG c n x.f s) w':=λw' s' e hp=>⟨rfl,by rw[<-e];exact hp⟩;have afJ:bG c n x.f s=if l.any (λe=>zZ (ch c n x.f) e.x.f)=true then { mb c s (2*l.length) with ok:=s.ok&&decide (l.length<=rX) } else pV c (m9 n (ch c n x.f) (mb c s (2*l.length))):=by
  unfold bG;rw[eV,length_map,En.m_any l (λf=>zZ (ch c n x.f) f)]
 obtain⟨QP,hQP⟩:∃QP:Ending->World->Prop,QP=(λe w'=>e=.returned (.tuple #[])/\gf w S c c0 (.slice (some ⟨hB,0,none⟩) K.length hC) (.slice (some ⟨kB,0,none⟩) K.length kC) wv KV WV K x.bs (bG c n x.f s) w'):=⟨_,rfl⟩;rw[<-hQP];have HQ:Hid (∀(w':World),gf w S c c0 (.slice (some ⟨hB,0,none⟩) K.length hC) (.slice (some ⟨kB,0,none⟩) K.length kC) wv KV WV K x.bs (bG c n x.f s) w'->QP (.returned (.tuple #[])) w'):=ab (λw' hp=>by rw[hQP];exact⟨rfl,hp⟩);have I0:=ab afJ;have H:=ab h;have HX:=ab hx;have HT:=ab hT;have HTG:=ab hTG;have HD:=ab hd;have HL:=ab hl;have XN:=ab y7;obtain⟨xA,xf,xav,xov⟩:=x;simp only at HX HT HTG I0 HQ hTG ⊢;have WQ:(⟨xA,xf,xav,xov⟩:FE).bs=aD xA xav xov:=rfl;rw[WQ]at HD HQ;have i1:(0:Int)<=(n:Int):=by omega
 have i2:(n:Int)<(K.length:Int):=by omega
 clear h hx hT hd hl y7 afJ agc eV bf jD hQP hTG WQ;obtain⟨G,hG⟩:∃G,G=ch c n xf:=⟨_,rfl⟩;rw[<-hG]at HTG I0;cases hh:c.hd.getD n false
 focus
  rw[hh]at chd;have yJ:G=xf:=by rw[hG];unfold ch;rw[if_neg (by rw[hh];decide)]
  have vO:Hid (Fm w xA G xav xov/\ar (aD xA xav xov) w (aD xA xav xov) w):=ab ⟨by rw[yJ];exact uh HX,ar.refl _ _⟩;clear hG yJ hh HX;go_enter func201,ntmps201;go_upto_region 3 with fail;obtain⟨W1,dI⟩:∃W1,W1=w:=⟨_,rfl⟩;have Xt:Hid (∃av1 ov1,Fm W1 xA G av1 ov1/\ar (aD xA xav xov) w (aD xA av1 ov1) W1):=ab ⟨xav,xov,by rw[dI];exact(uh vO).1,by rw[dI];exact(uh vO).2⟩;rw[<-dI];clear dI vO
 rotate_left
 focus
  rw[hh]at chd;have yJ:G=bz (Jq xf):=by rw[hG];unfold ch;rw[if_pos hh]
  have FD:=ab (M3 (uh HX) (zq3 (uh HT).ok.owLen (by omega)));have Xu:Hid (am (Jq xf)/\(Jq xf).ap=xf.ap):=ab (gH _ (uh HT).ok);clear hG hh;go_enter func201,ntmps201;go_wp2_with fail
  refine(uh FD).mono ?_;rintro e w0 ⟨rfl,ov0,Jz,Nv⟩;have FK:=ab (kh Jz (uh Xu).1 (by rw[(uh Xu).2];exact zq3 (uh HT).ln (by omega)));have qf:=ab Nv;clear Jz Nv FD Xu;go_wp2_with fail
  refine(uh FK).mono ?_;rintro e W1 ⟨rfl,av1,ov1,jk,bq⟩;have Xt:Hid (∃av1 ov1,Fm W1 xA G av1 ov1/\ar (aD xA xav xov) w (aD xA av1 ov1) W1):=ab ⟨av1,ov1,by rw[yJ];exact jk,(uh qf).trans bq⟩;clear jk bq yJ FK qf HX;go_upto_region 3 with fail
 all_goals
  obtain⟨av1,ov1,jk,bq⟩:=uh Xt;have afC:∀k∈aD xA av1 ov1,(k ∉ cI S (.slice (some ⟨hB,0,none⟩) K.length hC) (.slice (some ⟨kB,0,none⟩) K.length kC) wv KV WV/\k ∉ dK K)/\(k∈aD xA xav xov\/w.heap.size<=k):=λk hk=>by
   rcases bq.foot k hk with p|p
   .exact⟨uh HD k p,zq0 p⟩
   .exact⟨⟨λe=>by have:=(uh H).lt k e;omega,λe=>by have:=(uh H).drlt k e;omega⟩,zq1 p⟩
  have h1:=(uh H).stp bq (λk hk e=>(uh HD k e).1 hk) (λk hk e=>(uh HD k e).2 hk);have HDR:=ab (Mv jk.is (uh HTG).ok);have aem:=jk.lt;have H1:=ab (zq2 h1 (zq2 bq (zq2 afC aem)));clear jk bq afC h1 Xt aem;go_wp2_with fail
  refine(uh HDR).mono ?_;rintro e w2 ⟨D,rfl,S5,ajY,aL⟩;have h2:=(uh H1).1.below aL;have c3:=h2.bs.cell 3 rfl;obtain⟨kB',kC',pA,ckc⟩:=h2.kc hn;simp only[Value.slice.injEq,Option.some.injEq,Addr.mk.injEq,and_true,true_and]at pA;obtain⟨rfl,rfl⟩:=pA;rw[uh XN]at ckc;obtain⟨q,hq⟩:∃q,q=2*l.length:=⟨_,rfl⟩;rw[<-hq]at I0;have hqw:IntKind.i64.wrap (2*(l.length:Int))=(q:Int):=by rw[IntKind.wrap_i64];omega
  have QM:=ab (OS h2.bs q);have Wp:∀k∈D::aD xA av1 ov1,(k ∉ cI S (.slice (some ⟨hB,0,none⟩) K.length hC) (.slice (some ⟨kB,0,none⟩) K.length kC) wv KV WV/\k ∉ dK K)/\(k∈aD xA xav xov\/w.heap.size<=k):=λk hk=>by
   rcases mem_cons.1 hk with p|p
   .have hz:=(uh H1).2.1.size;exact⟨⟨λe=>by have:=(uh H1).1.lt k e;omega,λe=>by have:=(uh H1).1.drlt k e;omega⟩,zq1 (by omega)⟩
   .exact(uh H1).2.2.1 k p
  have aft:gb w w2 (cI S (.slice (some ⟨hB,0,none⟩) K.length hC) (.slice (some ⟨kB,0,none⟩) K.length kC) wv KV WV) (cI S (.slice (some ⟨hB,0,none⟩) K.length hC) (.slice (some ⟨kB,0,none⟩) K.length kC) wv KV WV) (dK K) (dK K) (aD xA xav xov):=(gb.stp (uh H1).2.1 (λk hk=>zq1 hk)).trans (gb.below (X:=[]) aL) (λk hk=>by simp at hk);have H2:=ab (zq2 h2 (zq2 S5 (zq2 Wp aft)));clear h2 S5 ajY aL Wp aft hq H1 HDR;go_wp2_with fail
  refine(uh QM).mono ?_;rintro e w3 ⟨rfl,yO,eW⟩;have h3:=(uh H2).1.own (s':=mb c s q) yO eW (λk hk=>zq0 (mem_singleton.1 hk)) rfl rfl;have Df:=(uh H2).2.1.of_eq (λk hk=>eW.block k ((uh H2).2.1.lt k hk) (λe=>((uh H2).2.2.1 k hk).1.1 (by rw[mem_singleton]at e;rw[e];exact fJ)));have afu:=(uh H2).2.2.2.trans (gb.stp (X:=[]) eW (λk hk=>zq0 (by rw[mem_singleton]at hk;rw[hk];exact fJ))) (λk hk=>by simp at hk);have aR:=h3.ke n hn;rw[uh XN,<-uh HL]at aR;have hlK:l∈K:=by rw[uh HL,bD hn];exact getElem_mem hn
  have H3:=ab (zq2 h3 (zq2 Df (zq2 (uh H2).2.2.1 afu)));have iy:=ab aR;have XE:=ab hlK;have bX:Hid (Below w3.heap.size w3 w3/\∀i,i<0->∀e,l[i]?=some e->zZ G e.x.f=false):=ab ⟨Below.refl _ _,λi hi=>by omega⟩;clear h3 Df afu aR hlK yO eW QM H2 hqw c1 c3 ckc chd H HD HT;go_wp2_with fail
  go_loopg [39] l.length (λgn iv wx=>∃(k:Nat),k+gn=l.length/\iv=.int .i64 k/\Hid (Below w3.heap.size w3 wx/\∀i,i<k->∀e,l[i]?=some e->zZ G e.x.f=false))
  case atStart=>exact⟨0,by omega,rfl,bX⟩
  case round =>
   clear bX;obtain⟨k,eV,rfl,hI⟩:=hrel;obtain⟨G1,yJ⟩:∃G1,G1=gk:=⟨_,rfl⟩;by_cases aq:k<l.length
   .have hd:decide ((k:Int)<(l.length:Int))=true:=(by simp;omega);have iu:=dy (uh iy) (uh hI).1;obtain⟨g,cap,cM,-,-⟩:=bM iu (by omega);simp only[Value.slice.injEq,true_and]at cM;obtain⟨rfl,rfl⟩:=cM;obtain⟨x0,x1⟩:=lR iu rfl aq;have xy:=(uh H3).1.dr l (uh XE) l[k] (getElem_mem aq);have cq:l[k]?=some l[k]:=getElem?_eq_getElem aq;obtain⟨e,sM⟩:∃e,e=l[k]:=⟨_,rfl⟩;rw[<-sM]at x0 x1 xy cq;obtain⟨W5,k7⟩:∃W5,W5=wr.alloc (.cells #[Value.pointer (some ⟨e.D,0,none⟩),.bool e.d] 258):=⟨_,rfl⟩;have bQ:Below wr.heap.size wr W5:=(by rw[k7];exact ah wr _);have cD:=(uh hI).1.trans (bQ.mono (uh hI).1.size);have iI:Bk W5 wr.heap.size 258 [Value.pointer (some ⟨e.D,0,none⟩),.bool e.d]:=(by rw[k7];exact Bk.new wr _ _);obtain⟨Y,nB⟩:∃Y,Y=wr.heap.size:=⟨_,rfl⟩;rw[<-nB]at iI;have b0:=iI.cell 0 rfl;have tE:=ab (vn ((uh H3).2.1.below cD) (xy.1.below cD) (uh HTG) xy.2);have Ad:=ab cq;have io:=ab cD;have k1:(0:Int)<=(k:Int):=(by omega);have k2:(k:Int)<(l.length:Int):=(by omega);clear iu xy cq sM bQ iI cD;go_upto_region 9 with fail;rw[<-k7,<-nB];clear k7 nB x0 x1;go_wp2_with fail
    refine(uh tE).mono ?_;rintro e6 w6 ⟨rfl,ib⟩;have tt:=ab ((uh io).trans (ib.mono (uh io).size));clear ib tE io b0;cases GV:zZ G e.x.f
    .go_wp2_with fail
     go_roundg (G1-1)
     case rel=>exact⟨k+1,by omega,by go_num,ab ⟨uh tt,λi hi y hy=>by
      by_cases e':i=k
      .rw[e',uh Ad]at hy;injection hy with hy;rw[<-hy];exact GV
      .exact(uh hI).2 i (by omega) y hy⟩⟩
     case measure=>omega
    .have px:l.any (λe=>zZ G e.x.f)=true:=(by rw[any_eq_true];exact⟨e,mem_of_getElem? (uh Ad),GV⟩);have HP:Hid (gf w S c c0 (.slice (some ⟨hB,0,none⟩) K.length hC) (.slice (some ⟨kB,0,none⟩) K.length kC) wv KV WV K (aD xA xav xov) (bG c n xf s) w6):=ab (by
      rw[uh I0,if_pos px];exact⟨KV,K,((uh H3).1.below (uh tt)).as rfl rfl rfl rfl rfl,rfl,(uh H3).2.2.2.trans (gb.below (X:=[]) (uh tt)) (λk hk=>by simp at hk)⟩)
     clear GV px hI;go_wp2_with fail
     go_end0
     exact uh HQ _ (uh HP)
   .have hd:decide ((k:Int)<(l.length:Int))=false:=(by simp;omega);have px:l.any (λe=>zZ G e.x.f)=false:=by
     rw[any_eq_false];intro e he;obtain⟨i,hi,rfl⟩:=mem_iff_getElem.1 he;rw[(uh hI).2 i (by omega) _ (getElem?_eq_getElem hi)];simp
    have N3:=uh I0;rw[px,if_neg (by decide)]at N3;have adf:=ab N3;obtain⟨w4,ZW⟩:∃w4,w4=wr:=⟨_,rfl⟩;rw[<-ZW]at hI ⊢;have mA:=(uh hI).1;have Cb:=dy (uh iy) mA;have h4:=(uh H3).1.below mA;have HRS:Hid (∀k,(Value.slice va l.length vc).ownBlock=some k->k∈cI S (.slice (some ⟨hB,0,none⟩) K.length hC) (.slice (some ⟨kB,0,none⟩) K.length kC) wv KV WV):=ab (λk hk=>bL ((ww (by rw[h4.kvl];exact hn)).trans (by rw[uh XN];exact congrArg some hk)));have H4:=ab (zq2 h4 (zq2 ((uh H3).2.1.below mA) (zq2 (uh H3).2.2.1 ((uh H3).2.2.2.trans (gb.below (X:=[]) mA) (λk hk=>by simp at hk)))));have mV:=ab Cb;clear px N3 ZW mA Cb h4 hI H3 iy I0 yJ;go_wp2_with fail
    go_loopg [10,11] l.length (λgn jv iv wx=>∃(i:Nat) (cur:List En),i+gn=l.length/\iv=.int .i64 i/\jv=.int .i64 (((l.take i).filter (λe=>!zZ e.x.f G)).length:Nat)/\Hid (wx.ownsRow 0 258 2 (.slice va l.length vc) l.length (qm cur)/\cur.length=l.length/\cur.take ((l.take i).filter (λe=>!zZ e.x.f G)).length=(l.take i).filter (λe=>!zZ e.x.f G)/\cur.drop i=l.drop i/\ar (Value.slice va l.length vc).ownBlock.toList w4 (Value.slice va l.length vc).ownBlock.toList wx))
    case atStart=>exact⟨0,l,by omega,rfl,rfl,ab ⟨uh mV,rfl,by simp,rfl,ar.refl _ _⟩⟩
    case round =>
     clear mV;obtain⟨i,cur,oj,rfl,rfl,hJ⟩:=hrel;obtain⟨G2,BF⟩:∃G2,G2=gk:=⟨_,rfl⟩;have jE:((l.take i).filter (λe=>!zZ e.x.f G)).length<=i:=zq3 (length_filter_le _ _) (by rw[length_take];omega);have hD5:=(uh H4).2.1.of_eq (λk hk=>(uh hJ).2.2.2.2.block k ((uh H4).2.1.lt k hk) (λe=>((uh H4).2.2.1 k hk).1.1 (uh HRS k (by simpa using e))));by_cases bI:i<l.length
     .have jb:decide ((i:Int)<(l.length:Int))=true:=(by simp;omega);obtain⟨g,cap,cM,-,-⟩:=bM (uh hJ).1 (by omega);simp only[Value.slice.injEq,true_and]at cM;obtain⟨rfl,rfl⟩:=cM;have du:=(uh hJ).2.1;obtain⟨x0,x1⟩:=lR (uh hJ).1 du.symm bI;have hci:cur[i]'(by omega)=l[i]:=by
       have h1:=congrArg (λm:List En=>m[0]?) (uh hJ).2.2.2.1;simp only[getElem?_drop,Nat.add_zero]at h1;rw[getElem?_eq_getElem bI,getElem?_eq_getElem (by omega)]at h1;injection h1
      have aE:=Gp (P:=λe=>!zZ e.x.f G) bI;have xy:=(uh H4).1.dr l (uh XE) l[i] (getElem_mem bI);have mY:∀k∈l[i].bs,k∈dK K:=λk hk=>bu.2 ⟨l,uh XE,l[i],getElem_mem bI,hk⟩;rw[hci]at x0 x1;obtain⟨e,sM⟩:∃e,e=l[i]:=⟨_,rfl⟩;obtain⟨M,hM⟩:∃M,M=(l.take i).filter (λe=>!zZ e.x.f G):=⟨_,rfl⟩;rw[<-sM]at x0 x1 xy mY aE;rw[<-hM]at aE jE hJ ⊢;have aff:=xy.1.of_eq (λk hk=>(uh hJ).2.2.2.2.block k (xy.1.lt k hk) (λe'=>(uh H4).1.da k (mY k hk) (uh HRS k (by simpa using e'))));have tE:=ab (vn aff hD5 xy.2 (uh HTG));have jm:cur.drop (i+1)=l.drop (i+1):=by
       have h1:=congrArg (λm=>m.drop 1) (uh hJ).2.2.2.1;simpa[drop_drop,Nat.add_comm] using h1
      have cK:=ab aE;have Rr:=ab jm;have HJ:=ab (uh hJ);have vp:=ab du;have k1:(0:Int)<=(i:Int):=(by omega);have k2:(i:Int)<(l.length:Int):=(by omega);have k3:(M.length:Int)<(l.length:Int):=(by omega);have k4:(0:Int)<=(M.length:Int):=(by omega);have YQ:M.length<l.length:=(by omega);clear hci aE xy mY sM hM aff jm du hJ hD5;cases GV:zZ e.x.f G
      .rw[GV]at tE;have vQ:Hid ((l.take (i+1)).filter (λe=>!zZ e.x.f G)=M++[e]):=ab (by rw[uh cK,if_pos (by rw[GV];rfl)]);clear GV cK;go_wp2_with fail
       refine(uh tE).mono ?_;rintro e6 w6 ⟨rfl,ib⟩;have hr6:=dy (uh HJ).1 ib;have y0:=(ib.cell (block_lt_of_cell? wr _ x0)).trans x0;have y1:=(ib.cell (block_lt_of_cell? wr _ x1)).trans x1;obtain⟨r6,⟨⟨u0,z0⟩,⟨u1,z1⟩⟩,f0,f1⟩:=amd hr6 (uh vp).symm (i:=M.length) (by omega) e;have Cc:=(((uh HJ).2.2.2.2.trans (ar.ofBw ib)).setCell (p:=⟨g,M.length*2,none⟩) (zq0 (by simp[Value.ownBlock])) (.pointer (some ⟨e.D,0,none⟩))).setCell (p:=⟨g,M.length*2+1,none⟩) (zq0 (by simp[Value.ownBlock])) (.bool e.d);have qS:(cur.set M.length e).length=l.length/\(cur.set M.length e).take (M++[e]).length=M++[e]/\(cur.set M.length e).drop (i+1)=l.drop (i+1):=by
        refine⟨by rw[length_set];exact uh vp,?_,?_⟩
        .have h1:=(uh HJ).2.2.1;rw[length_append,length_singleton,take_add_one,getElem?_set_self (by rw[uh vp];exact YQ),take_set_of_le (zq4 _),h1];rfl
        .rw[drop_set_of_lt (by omega)];exact uh Rr
       have HN:=ab (zq2 r6 (zq2 qS.1 (zq2 qS.2.1 (zq2 qS.2.2 Cc))));clear hr6 r6 Cc qS ib tE HJ Rr vp x0 x1;go_wp2_with fail
       go_roundg (G2-1)
       case rel=>exact⟨i+1,_,by omega,by go_num,by rw[uh vQ,length_append,length_singleton];go_num,by rw[uh vQ];exact HN⟩
       case measure=>omega
      .rw[GV]at tE;have vQ:Hid ((l.take (i+1)).filter (λe=>!zZ e.x.f G)=M):=ab (by rw[uh cK,if_neg (by rw[GV];decide),append_nil]);clear GV cK;go_wp2_with fail
       refine(uh tE).mono ?_;rintro e6 w6 ⟨rfl,ib⟩;have HN:=ab (zq2 (dy (uh HJ).1 ib) (zq2 (uh vp) (zq2 (uh HJ).2.2.1 (zq2 (uh Rr) ((uh HJ).2.2.2.2.trans (ar.ofBw ib))))));clear ib tE HJ Rr vp x0 x1;go_wp2_with fail
       go_roundg (G2-1)
       case rel=>exact⟨i+1,cur,by omega,by go_num,by rw[uh vQ],by rw[uh vQ];exact HN⟩
       case measure=>omega
     .have jb:decide ((i:Int)<(l.length:Int))=false:=(by simp;omega);have NX:l.take i=l:=take_of_length_le (by omega);rw[NX]at hJ jE ⊢;obtain⟨M,hM⟩:∃M,M=l.filter (λe=>!zZ e.x.f G):=⟨_,rfl⟩;rw[<-hM]at hJ jE ⊢;have YQ:M.length<=l.length:=(by omega);have HRT:Hid (wr.ownsRow 0 258 2 (.slice va M.length vc) M.length (qm M)):=ab (by
       have h1:=Cx (uh hJ).1 YQ;rw[MD,(uh hJ).2.2.1]at h1;exact h1)
      have q1:(0:Int)<=(M.length:Int):=(by omega);have q2:(M.length:Int)<=(vc:Int):=(by omega);have HJ:=ab (zq2 (uh hJ).2.2.2.2 hD5);have HM:=ab hM;clear NX hJ jE hM hD5;go_wp2_with (at_builtin;refine rS _ rfl (.tmp 74) (.tmp 77) 255 rfl 0 258 i0 _ 2 16 underlying255 iL eo ep eK rfl (by decide) _ M.length (qm M) rfl ((uh HRT).alloc _) ⟨_,0,none⟩ 1 [.pointer (some ⟨D,0,none⟩),.bool false] rfl rfl (aP _ _ (by simp) [.pointer (some ⟨D,0,none⟩),.bool false] _) (En.one ⟨D,⟨xA,G,av1,ov1⟩,false⟩) (by omega) (by omega) (zq5 _) ?_)
      intro g7 cap7 w7 gN di eU;have hrw:(KV.getD n aF).ownBlock=(Value.slice va M.length vc).ownBlock:=(by rw[uh XN];exact Pg _ _ _ _ _);have lI:(Value.slice va l.length vc).ownBlock=(Value.slice va M.length vc).ownBlock:=Pg _ _ _ _ _;have TK:=(uh HJ).1;rw[lI]at TK;obtain⟨ae3,Zq⟩:=TW (uh H4).1 hn hrw TK di;have c3:=ae3.cell 3 rfl;have aq5:=(uh H4).1.kvl;have ck:=Zq.cellAt n (by omega);have Q9:n<KV.length:=(by omega);rw[getElem?_eq_getElem Q9]at ck;have zk:=Zq.frozenAt n;have afe:=TV (uh H4).1 hn hrw (uh HJ).2 (uh HTG) TK (λk hk=>((uh H4).2.2.1 k hk).1.1) (g1:=g7) (c1:=cap7) (by rw[<-uh HL,<-uh HM];exact gN) di (by simpa using eU);rw[<-uh HL,<-uh HM]at afe;obtain⟨KV',K',BH,hK8,GR,hd8⟩:=afe;have KJ:=ab (yc BH.bs);have H8:=ab (zq2 BH (zq2 hK8 (zq2 GR hd8)));clear gN di eU hrw lI TK ae3 Zq BH hK8 GR hd8 HRT HJ;go_wp2_with fail
      refine(uh KJ).mono ?_;rintro e w9 ⟨rfl,Nz,hs9⟩;have h9:=(uh H8).1.own (s':=pV c (m9 n G (mb c s q))) Nz hs9 (λk hk=>zq0 (mem_singleton.1 hk)) rfl rfl;have hP:gf w S c c0 (.slice (some ⟨hB,0,none⟩) K.length hC) (.slice (some ⟨kB,0,none⟩) K.length kC) wv KV WV K (aD xA xav xov) (bG c n xf s) w9:=by
       rw[uh adf];refine⟨KV',K',h9,(uh H8).2.1,?_⟩;have g4:=(uh H4).2.2.2;have g8:gb w4 _ (cI S (.slice (some ⟨hB,0,none⟩) K.length hC) (.slice (some ⟨kB,0,none⟩) K.length kC) wv KV WV) (cI S (.slice (some ⟨hB,0,none⟩) K.length hC) (.slice (some ⟨kB,0,none⟩) K.length kC) wv KV' WV) (dK K) (dK K') (D::aD xA av1 ov1):=⟨(uh H8).2.2.1.wider (λk hk=>mem_append_left _ hk) (λk hk=>zq0 hk),λk hk=>((uh H8).2.2.2 k hk).elim zq0 (λp=>zq1 (zq0 p))⟩;exact(g4.trans g8 (λk hk=>((uh H4).2.2.1 k hk).2)).trans (gb.stp (X:=[]) hs9 (λk hk=>zq0 (by rw[mem_singleton]at hk;rw[hk];exact fJ))) (λk hk=>by simp at hk)
      have HP:=ab hP;clear Nz hs9 h9 hP KJ H8;go_wp2_with fail
      go_end0
      exact uh HQ _ (uh HP)
end
