import Derived.Test.YtciihepbeacppaaGreatRG
import Derived.Laws.AppendOwnNone
import Derived.Laws.CopyOwn
import Derived.Deep.MidRow
import Derived.Deep.OwnRows
set_option maxRecDepth 100000
set_option maxHeartbeats 0
namespace Go.Proofs.YtciihepbeacppaaGreat
open _root_.Go.Proofs.Tryz Go.RowKit List World Below
set_option linter.unusedVariables false
def aeC(l:List ByteArray):Nat->Bool
 |0=>false
 |k+1=>aW (l[k]?.getD em) a8
def dl(c:Bool)(v:List ByteArray)(x:ByteArray):List ByteArray:=if c&&decide (amI v x<0) then v++[x] else v
def R3(l:List ByteArray):Nat->List ByteArray
 |0=>[]
 |k+1=>dl (aF (l[k]?.getD em)&&!aeC l k) (R3 l k) (l[k]?.getD em)
def RZ(l:List ByteArray):Nat->List ByteArray
 |0=>[]
 |k+1=>dl (kW (l[k]?.getD em)) (RZ l k) (l[k]?.getD em)
theorem vO(x:ByteArray)(h:aF x=true):kW x=false:=by
 obtain⟨c,rfl⟩:=kt x (by
  by_cases hs:x.size=1
  .exact hs
  .rw[qQ x hs]at h;cases h)
 rw[vL]at h;rw[JC];simp only[gP,lZ]at *;simp at h ⊢;omega
def sT:ByteArray:=⟨#[105,102]⟩
def yg:ByteArray:=⟨#[119,104,105,108,101]⟩
def su:ByteArray:=⟨#[59]⟩
def tR:ByteArray:=⟨#[101,108,115,101]⟩
def Kh:ByteArray:=⟨#[103,111,116,111]⟩
def gt(n:Nat):qj:=⟨Kh,em,em,em,n,false⟩
def Ws(w:World)(v:Value)(sz n:Nat)(xs:List Value):Prop :=
 xs.length=n*sz/\n<=40000/\((v=.slice none 0 0/\n=0)\/∃g off cap,v=.slice (some ⟨g,off,none⟩) n cap/\n<=cap/\cap<=maxLen/\∀j u,xs[j]?=some u->w.cell? ⟨g,off+j,none⟩=some u)
theorem Ws.below{w w':World}{v:Value}{sz n:Nat}{xs:List Value}(h:Ws w v sz n xs)(hb:Below w.heap.size w w'):Ws w' v sz n xs:=by
 obtain⟨h1,h2,h3⟩:=h;refine⟨h1,h2,?_⟩;rcases h3 with h3|⟨g,off,cap,hv,hn,hm,hc⟩
 .exact zq0 h3
 .exact zq1 ⟨g,off,cap,hv,hn,hm,λj u hj=>by rw[hb.cell (block_lt_of_cell? w _ (hc j u hj))];exact hc j u hj⟩
theorem Ws.of_own{w:World}{B:Nat}{e:TypeId}{v:Value}{sz n:Nat}{xs:List Value}(h:w.ownsRow B e sz v n xs)(hn:n<=40000):Ws w v sz n xs:=by
 have ts:=λg hg=>h.cells (g:=g) hg;refine⟨h.1,hn,?_⟩;rcases h.2 with⟨rfl,h0⟩|⟨g,cap,cur,rfl,_,_,hn,hm,_,_⟩
 .exact zq0 ⟨rfl,h0⟩
 .refine zq1 ⟨g,0,cap,rfl,hn,hm,λj u hj=>?_⟩;have:=ts g rfl j u hj;rw[show(⟨g,0,none⟩:Addr).add j=⟨g,0+j,none⟩ by unfold Addr.add;split <;> simp_all]at this;exact this
def Y6(ns:List ByteArray)(vs:List Int)(n:ByteArray):Option Int:=if aW n bZ=true then some 0 else if tj ns n<ns.length then some (vs.getD (tj ns n) 0) else none
def clP(ad:List Int)(fr:List Bool)(a:Int):Nat->Bool:=λk=>fr.getD k false&&ad.getD k 0==a
def LX(ad:List Int)(fr:List Bool)(a:Int):Nat:=((range ad.length).find? (clP ad fr a)).getD ad.length
section
variable {P:Program} {w:World}
theorem nL {ops:Array Oper} {rest:List Oper} {o:Oper} {a:Act} {Q:Exit->Act->World->Prop}
  (hg:o.guard=none) (s x:Operand) (t:TypeId) (nU:o.op=Op.call { callee:=Callee.builtin Builtin.append,args:=#[s,x],argTypes:=#[t,t] })
  (base:Nat) (e:TypeId) (i:TypeInfo) (z:Value) (size bytes:Nat) (ht:P.underlying t=some (.slice e)) (hi:P.info? e=some i) (hz:i.zero=some z)
  (jK:i.size=size) (Ej:i.bytes=bytes) (KW:z.cells.size=size) (nV:0<size)
  (v:Value) (n:Nat) (xs:List Value) (hs:a.eval s=v) (aP:w.ownsRow base e size v n xs)
  (xv:Value) (m:Nat) (news:List Value) (hx:a.eval x=xv) (hL:Ws w xv size m news) (h1:∀u∈news,u.oneCell'=true)
  (Kj:n+m<=1000000) (hb:bytes<=1000) (gH:base<=w.heap.size)
  (hK:∀v' w',w'.ownsRow base e size v' (n+m) (xs++news)->w.grownBy w' v.ownBlock->wpList P ops Q rest (a.put o.dst v') w') :
  wpList P ops Q (o::rest) a w:=by
 have hbytes:(n+m)*bytes<=140737488355328:=zq3 (Nat.mul_le_mul Kj hb) (by decide);obtain⟨hl,_,(⟨rfl,rfl⟩|⟨g,off,cap,rfl,hn,hm,hc⟩)⟩:=hL
 .have:news=[]:=eq_nil_of_length_eq_zero (by omega);subst this;refine wpList_append_own_none hg s x t nU base e i size ht hi v n xs hs aP hx ?_;exact hK v w (by simpa using aP) ⟨rfl,rfl,rfl,zq4 _,λ_ _ _=>rfl⟩
 .refine wpList_append_own w hg s x t nU base e i z size bytes ht hi hz jK Ej KW nV v n xs hs aP ⟨g,off,none⟩ m cap news hx hl (λj u hj=>?_) h1 (by unfold maxLen;omega) hbytes gH (λv' w' r1 r2 _=>hK v' w' r1 r2);rw[show(⟨g,off,none⟩:Addr).add j=⟨g,off+j,none⟩ by unfold Addr.add;split <;> simp_all];exact hc j u hj
end
theorem infoInt:(prog.info? 3).map (λi=>(i.zero,i.size,i.bytes))=some (some (.int .i64 0),1,8):=by kernel_rfl
def amE(ns:List ByteArray)(vs:List Int)(a:xL):Bool:=match Y6 ns vs a.a,Y6 ns vs a.b with|some x,some y=>(x==y) != aW a.k bW|_,_=>false
def oNm(ns:List ByteArray)(vs:List Int)(cur:ByteArray)(a:xL):ByteArray:=if (Y6 ns vs a.b).isSome=false then a.b else if (Y6 ns vs a.a).isSome=false then a.a else cur
def oN(ns:List ByteArray)(vs:List Int)(l:List xL):ByteArray:=l.foldl (oNm ns vs) em
def mst(vs:List Int):Int:=vs.foldl (λm v=>if m<v then v else m) 0
def oth(l:List xL):Nat->List ByteArray->List Int->Bool
 |0,_,_=>false
 |f+1,ns,vs=>if l.any (amE ns vs) then false else if aW (oN ns vs l) em then true else
  vs.any (λv=>oth l f (ns++[oN ns vs l]) (vs++[v]))||oth l f (ns++[oN ns vs l]) (vs++[0])||oth l f (ns++[oN ns vs l]) (vs++[mst vs+1])
def aci(ad nx:List Int)(C:List ByteArray->List Int->List Bool->Bool)(a:xL)(ns:List ByteArray)(vs:List Int):Nat->Int->List Bool->Bool
 |0,_,_=>false
 |m+1,v,fr =>
  if LX ad fr v<ad.length then
   let ok:=match Y6 ns vs a.b with
    |none=>C (ns++[a.b]) (vs++[nx.getD (LX ad fr v) 0]) (fr.set (LX ad fr v) false)
    |some e=>(e==nx.getD (LX ad fr v) 0)&&C ns vs (fr.set (LX ad fr v) false)
   ok||(!aW a.k B4&&aci ad nx C a ns vs m (nx.getD (LX ad fr v) 0) (fr.set (LX ad fr v) false))
  else false
def pki(ns:List ByteArray)(vs:List Int):List xL->Option Nat
 |[]=>none
 |a::r=>if (Y6 ns vs a.a).isSome then some 0 else (pki ns vs r).map (·+1)
def XM(ns:List ByteArray)(vs:List Int)(pl:List xL)(j:Nat):Nat:=match pki ns vs (pl.drop j) with|some t=>j+t|none=>0
def ra0:xL:=⟨em,em,em⟩
def YR(ad nx:List Int)(pu:List xL):Nat->List xL->List ByteArray->List Int->List Bool->Bool
 |0,_,ns,vs,fr=>!fr.any id&&oth pu (2*pu.length+1) ns vs
 |f+1,pl,ns,vs,fr =>
  match Y6 ns vs (pl.getD (XM ns vs pl 0) ra0).a with
  |some v=>aci ad nx (YR ad nx pu f (pl.take (XM ns vs pl 0)++pl.drop (XM ns vs pl 0+1))) (pl.getD (XM ns vs pl 0) ra0) ns vs (fr.count true+1) v fr
  |none=>(range ad.length).any (λk=>fr.getD k false&&aci ad nx (YR ad nx pu f (pl.take (XM ns vs pl 0)++pl.drop (XM ns vs pl 0+1))) (pl.getD (XM ns vs pl 0) ra0) (ns++[(pl.getD (XM ns vs pl 0) ra0).a]) (vs++[ad.getD k 0]) (fr.count true+1) (ad.getD k 0) fr)
def Jm(ad nx:List Int):List Nat->Int->Int->Prop
 |[],_,_=>False
 |[k],v,e=>ad.getD k 0=v/\nx.getD k 0=e
 |k::k2::r,v,e=>ad.getD k 0=v/\Jm ad nx (k2::r) (nx.getD k 0) e
theorem abU{ad nx:List Int}{k:Nat}{r:List Nat}{v e:Int}(h:Jm ad nx (k::r) v e):ad.getD k 0=v:=by
 cases r with
 |nil=>exact h.1
 |cons k2 r=>exact h.1
def tk:List Bool->List Nat->Option (List Bool)
 |fr,[]=>some fr
 |fr,k::r=>if fr.getD k false=true then tk (fr.set k false) r else none
theorem wS(p q:List Nat)(fr:List Bool):tk fr (p++q)=(tk fr p).bind (λf=>tk f q):=by
 induction p generalizing fr with
 |nil=>rfl
 |cons k r ih =>
  simp only[cons_append,tk];split
  .exact ih _
  .rfl
theorem VS(fr:List Bool)(j k:Nat)(r:List Nat):tk fr (j::k::r)=tk fr (k::j::r):=by
 have hg:∀(a b:Nat),(fr.set a false).getD b false=(if a=b then false else fr.getD b false):=by
  intro a b;simp only[getD_eq_getElem?_getD,getElem?_set];by_cases h:a=b
  .subst h;rw[if_pos rfl,if_pos rfl];split <;> rfl
  .rw[if_neg h,if_neg h]
 simp only[tk,hg];by_cases h:j=k
 .subst h;rfl
 .have h2:¬ k=j:=λe=>h e.symm;simp only[if_neg h,if_neg h2,set_comm _ _ h];by_cases a1:fr.getD j false=true
  .by_cases a2:fr.getD k false=true
   .simp only[if_pos a1,if_pos a2]
   .simp only[if_pos a1,if_neg a2]
  .by_cases a2:fr.getD k false=true
   .simp only[if_neg a1,if_pos a2]
   .simp only[if_neg a1,if_neg a2]
theorem Jx{p q:List Nat}(h:p.Perm q):∀fr,tk fr p=tk fr q:=by
 induction h with
 |nil=>intro fr;rfl
 |cons k _ ih=>intro fr;simp only[tk];split;exact ih _;rfl
 |swap j k r=>intro fr;exact VS fr k j r
 |trans _ _ h1 h2=>intro fr;rw[h1,h2]
theorem Hy{fr:List Bool}{k:Nat}(h:fr.getD k false=true):k<fr.length:=by
 rcases Nat.lt_or_ge k fr.length with h1|h1
 .exact h1
 .simp[getD_eq_getElem?_getD,getElem?_eq_none h1]at h
theorem Jn{ad nx:List Int}:∀{p q:List Nat} {v m e:Int},Jm ad nx p v m->Jm ad nx q m e->Jm ad nx (p++q) v e:=by
 intro p;induction p with
 |nil=>intro q v m e h;exact h.elim
 |cons k r ih =>
  intro q v m e hp hq;cases q with
  |nil=>exact hq.elim
  |cons j q =>
   cases r with
   |nil =>
    have h1:ad.getD k 0=v/\nx.getD k 0=m:=hp;show ad.getD k 0=v/\Jm ad nx (j::q) (nx.getD k 0) e;exact⟨h1.1,by rw[h1.2];exact hq⟩
   |cons k2 r =>
    have h1:ad.getD k 0=v/\Jm ad nx (k2::r) (nx.getD k 0) m:=hp;show ad.getD k 0=v/\Jm ad nx (k2::(r++j::q)) (nx.getD k 0) e;exact⟨h1.1,ih h1.2 hq⟩
def xM(ad nx:List Int)(val:Nat->Int):List Pr->List Bool->Prop
 |[],fr=>fr.any id=false
 |p::r,fr=>∃q fr',Jm ad nx q (val p.l) (val p.r)/\tk fr q=some fr'/\(p.k≠4->q.length=1)/\xM ad nx val r fr'
theorem B9{ad nx:List Int}{val:Nat->Int}{a b:Pr}{r:List Pr}{fr:List Bool}(h:xM ad nx val (a::b::r) fr):xM ad nx val (b::a::r) fr:=by
 obtain⟨p,f1,h1,h2,h3,q,f2,h4,h5,h6,h7⟩:=h;have e1:tk fr (p++q)=some f2:=by rw[wS,h2];exact h5
 rw[Jx perm_append_comm,wS]at e1;obtain⟨f3,e2,e3⟩:=Option.bind_eq_some_iff.1 e1;exact⟨q,f3,h4,e2,h6,p,f2,h1,e3,h3,h7⟩
theorem ME{ad nx:List Int}{val:Nat->Int}{a:Pr}{r r':List Pr}(h:∀fr,xM ad nx val r fr->xM ad nx val r' fr){fr:List Bool}(h2:xM ad nx val (a::r) fr):xM ad nx val (a::r') fr:=by
 obtain⟨p,f1,h3,h4,h5,h6⟩:=h2;exact⟨p,f1,h3,h4,h5,h _ h6⟩
theorem uI{ad nx:List Int}{val:Nat->Int}{l l':List Pr}(h:l.Perm l'):∀{fr:List Bool},xM ad nx val l fr->xM ad nx val l' fr:=by
 induction h with
 |nil=>intro fr h;exact h
 |cons k _ ih=>intro fr hd;exact ME (λ_ h=>ih h) hd
 |swap j k r=>intro fr hd;exact B9 hd
 |trans _ _ h1 h2=>intro fr hd;exact h2 (h1 hd)
theorem Ca{ad nx:List Int}{val:Nat->Int}:∀{l:List Pr} {fr:List Bool},xM ad nx val l fr->∃P:Nat->List Nat,(∀i,i<l.length->Jm ad nx (P i) (val (l.getD i ax).l) (val (l.getD i ax).r)/\((l.getD i ax).k≠4->(P i).length=1))/\∃fr',tk fr ((range l.length).flatMap P)=some fr'/\fr'.any id=false:=by
 intro l;induction l with
 |nil=>intro fr h;exact⟨λ_=>[],λi hi=>by simp at hi,fr,rfl,h⟩
 |cons a l ih =>
  rintro fr ⟨q,f1,h1,h2,h3,h4⟩;obtain⟨P,hP,f2,g1,g2⟩:=ih h4;refine⟨λi=>match i with|0=>q|j+1=>P j,λi hi=>?_,f2,?_,g2⟩
  .cases i with
   |zero=>exact⟨h1,h3⟩
   |succ j=>simpa using hP j (by simpa using hi)
  .rw[length_cons,range_succ_eq_map,flatMap_cons,wS,h2,flatMap_map];exact g1
theorem SW{ad nx:List Int}{val:Nat->Int}{V:CF}{P:Nat->List Nat}(hP:∀i,i<V.ow.length->Jm ad nx (P i) (val (V.ow.getD i ax).l) (val (V.ow.getD i ax).r)/\((V.ow.getD i ax).k≠4->(P i).length=1)):∀{L:List Nat} {a e:Nat},(∀i∈L,i<V.ow.length)->M9 V L a e->Jm ad nx (L.flatMap P) (val a) (val e):=by
 intro L;induction L with
 |nil=>intro a e _ h;exact h.elim
 |cons i L ih =>
  intro a e hi h;have h1:=(hP i (hi i (by simp))).1;cases L with
  |nil =>
   obtain⟨g1,g2⟩:=h;rw[g1,g2]at h1;simpa using h1
  |cons j r =>
   obtain⟨g1,g2⟩:=h;rw[g1]at h1;rw[flatMap_cons];exact Jn h1 (ih (λk hk=>hi k (by simp[hk])) g2)
theorem S7{ad nx:List Int}{val sv:Nat->Int}{V T:CF}{b:Nat->Option Nat}{P:Nat->List Nat}(hP:∀i,i<V.ow.length->Jm ad nx (P i) (val (V.ow.getD i ax).l) (val (V.ow.getD i ax).r)/\((V.ow.getD i ax).k≠4->(P i).length=1))(hs:∀c a,b c=some a->sv c=val a):∀{ks fr:List Nat} {f f':List Bool},(∀i∈fr,i<V.ow.length)->iW V T b ks fr->tk f (fr.flatMap P)=some f'->f'.any id=false->xM ad nx sv (ks.map (λk=>T.ow.getD k ax)) f:=by
 intro ks;induction ks with
 |nil =>
  intro fr f f' _ hd ht ha;cases hd
  cases ht
  exact ha
 |cons k ks ih =>
  rintro fr f f' iX ⟨L,rest,h1,⟨a,e,h2,h3,h4⟩,h5,h6⟩ ht ha;have hL:∀i∈L,i<V.ow.length:=λi hi=>iX i (h1.mem_iff.2 (by simp[hi]));have hr:∀i∈rest,i<V.ow.length:=λi hi=>iX i (h1.mem_iff.2 (by simp[hi]));rw[Jx (h1.flatMap_right P),flatMap_append,wS]at ht;obtain⟨f1,g1,g2⟩:=Option.bind_eq_some_iff.1 ht;refine⟨L.flatMap P,f1,by rw[hs _ _ h2,hs _ _ h3];exact SW hP hL h4,g1,λh4=>?_,ih hr h6 g2 ha⟩;obtain⟨i,rfl,hi⟩:=h5 h4;have:=(hP i (hL i (by simp))).2 hi;simpa using this
structure Yw(ad nx:List Int)(val:Nat->Int)(V:CF):Prop where
 nl:val (V.cl.getD 0 0)=0
 ap:∀p∈V.ap,val p.l≠val p.r
 sp:xM ad nx val V.ow (replicate ad.length true)
theorem Jw{fr fr':List Bool}{p:List Nat}(h:tk fr p=some fr'):∀k∈p,fr.getD k false=true:=by
 induction p generalizing fr with
 |nil=>intro k hk;cases hk
 |cons j r ih =>
  simp only[tk]at h;by_cases hf:fr.getD j false=true
  .rw[if_pos hf]at h;intro k hk;rcases mem_cons.1 hk with rfl|hk
   .exact hf
   .have:=ih h k hk;by_cases e:j=k
    .rw[<-e];exact hf
    .simpa[getD_eq_getElem?_getD,getElem?_set,e] using this
  .rw[if_neg hf]at h;cases h
theorem Q6{fr fr':List Bool}{p:List Nat}(h:tk fr p=some fr'):p.Nodup:=by
 induction p generalizing fr with
 |nil=>exact nodup_nil
 |cons j r ih =>
  simp only[tk]at h;by_cases hf:fr.getD j false=true
  .rw[if_pos hf]at h;refine nodup_cons.2 ⟨λhj=>?_,ih h⟩;have:=Jw h j hj;simp only[getD_eq_getElem?_getD,getElem?_set]at this;simp at this;split at this <;> simp_all
  .rw[if_neg hf]at h;cases h
theorem Yw.heads{ad nx:List Int}{val:Nat->Int}{V:CF}(h:Yw ad nx val V)(hd:ad.Nodup)(hp:∀v∈ad,0<v):
  (∀i,i<V.ow.length->0<val (V.ow.getD i ax).l)/\(∀i j,i<V.ow.length->j<V.ow.length->i≠j->val (V.ow.getD i ax).l≠val (V.ow.getD j ax).l):=by
 obtain⟨P,hP,f',ht,_⟩:=Ca h.sp;have hhd:∀i,i<V.ow.length->∃k,k∈P i/\k<ad.length/\ad.getD k 0=val (V.ow.getD i ax).l:=by
  intro i hi;have h1:=(hP i hi).1;cases hpi:P i with
  |nil=>rw[hpi]at h1;exact h1.elim
  |cons k r =>
   rw[hpi]at h1;have h2:=Jw ht k (mem_flatMap.2 ⟨i,mem_range.2 hi,by rw[hpi];simp⟩);have h3:=Hy h2;exact⟨k,by simp,by simpa using h3,abU h1⟩
 refine⟨λi hi=>?_,λi j hi hj Z8=>?_⟩
 .obtain⟨k,_,hk,e⟩:=hhd i hi;rw[<-e];have:ad.getD k 0=ad[k]:=by simp[hk]
  rw[this];exact hp _ (getElem_mem hk)
 .obtain⟨k,KH,hk,e⟩:=hhd i hi;obtain⟨k',alv,BP,e'⟩:=hhd j hj;rw[<-e,<-e'];have aL:k≠k':=by
   rintro rfl;have hn:=Q6 ht;have hcount:∀(l:List Nat),l.Nodup->i∈l->j∈l->¬ (l.flatMap P).Nodup:=by
    intro l hl hi hj hn;have h1:=perm_cons_erase hi;have h2:j∈l.erase i:=(mem_erase_of_ne (λe=>Z8 e.symm)).2 hj;have h3:=(h1.flatMap_right P).nodup_iff.1 hn;rw[flatMap_cons,nodup_append]at h3;exact h3.2.2 k KH k (mem_flatMap.2 ⟨j,h2,alv⟩) rfl
   exact hcount _ nodup_range (mem_range.2 hi) (mem_range.2 hj) hn
  intro e2;have ea:ad.getD k 0=ad[k]:=by simp[hk]
  have eb:ad.getD k' 0=ad[k']:=by simp[BP]
  rw[ea,eb]at e2;exact aL ((getElem_inj hd).1 e2)
theorem S8{ad nx:List Int}{val:Nat->Int}{V:CF}(h:Yw ad nx val V)(hd:ad.Nodup)(hp:∀v∈ad,0<v){a b:Nat}(hb:bj V a b=true):val a≠val b:=by
 unfold bj at hb;by_cases e:a=b
 .rw[if_pos e]at hb;cases hb
 .rw[if_neg e,Bool.or_eq_true]at hb;obtain⟨h1,h2⟩:=h.heads hd hp;rcases hb with hb|hb
  .obtain⟨p,hp,hx⟩:=any_eq_true.1 hb;simp only[Bool.or_eq_true,Bool.and_eq_true,beq_iff_eq]at hx;have:=h.ap p hp;rcases hx with⟨rfl,rfl⟩|⟨rfl,rfl⟩
   .exact this
   .exact λe=>this e.symm
  .unfold lV at hb;simp only[Bool.or_eq_true,Bool.and_eq_true,beq_iff_eq]at hb;have hn:=h.nl;rcases hb with⟨ha,hb|hb⟩|⟨hb,ha⟩
   .obtain⟨i,hi⟩:=Option.isSome_iff_exists.1 ha;obtain⟨j,hj⟩:=Option.isSome_iff_exists.1 hb;obtain⟨i1,i2⟩:=kZ hi;obtain⟨j1,j2⟩:=kZ hj;have Z8:i≠j:=(by rintro rfl;exact e (i2.symm.trans j2));have:=h2 i j i1 j1 Z8;rw[i2,j2]at this;exact this
   .obtain⟨i,hi⟩:=Option.isSome_iff_exists.1 ha;obtain⟨i1,i2⟩:=kZ hi;have:=h1 i i1;rw[i2]at this;rw[hb,hn];omega
   .obtain⟨j,hj⟩:=Option.isSome_iff_exists.1 hb;obtain⟨j1,j2⟩:=kZ hj;have:=h1 j j1;rw[j2]at this;rw[ha,hn];omega
def Sat(ad nx:List Int)(av:Nat->Int)(an:List (Option Nat))(T:CF):Prop :=
 ∃sv:Nat->Int,(∀c a,an.getD c none=some a->sv c=av a)/\(∀p∈T.ap,sv p.l≠sv p.r)/\xM ad nx sv T.ow (replicate ad.length true)
def lQ(V T:CF)(an:List (Option Nat))(st:Int):SS:=⟨an,replicate V.ow.length none,V.ow.length,replicate T.ow.length false,st⟩
def D9(V T:CF)(an:List (Option Nat))(st:Int):Bool × SS:=y9 (wk V T (V.ow.length+1)) V T (lQ V T an st) 0
theorem E4(val:Nat->Int)(b:Nat->Option Nat):∀n:Nat,∃M:Int,∀c,c<n->∀a,b c=some a->val a<M:=by
 intro n;induction n with
 |zero=>exact⟨0,λc hc=>by omega⟩
 |succ n ih =>
  obtain⟨M,hM⟩:=ih;cases hb:b n with
  |none=>exact⟨M,λc hc a ha=>by
    by_cases e:c=n
    .rw[e,hb]at ha;cases ha
    .exact hM c (by omega) a ha⟩
  |some x=>exact⟨max M (val x+1),λc hc a ha=>by
    by_cases e:c=n
    .rw[e,hb]at ha;cases ha;omega
    .have:=hM c (by omega) a ha;omega⟩
def svl(b:Nat->Option Nat)(val:Nat->Int)(M:Int)(c:Nat):Int:=match b c with|some a=>val a|none=>M+c
theorem lC{b:Nat->Option Nat}{val:Nat->Int}{M:Int}{c a:Nat}(h:b c=some a):svl b val M c=val a:=by unfold svl;rw[h]
theorem rf{b:Nat->Option Nat}{val:Nat->Int}{M:Int}{c:Nat}(h:b c=none):svl b val M c=M+c:=by unfold svl;rw[h]
theorem Tt{ad nx:List Int}{val:Nat->Int}{V T:CF}(h:Yw ad nx val V)(hd:ad.Nodup)(hp:∀v∈ad,0<v)(hT:Rm T){an:List (Option Nat)}(Eg:an.length=24){st:Int}{s':SS}(hf:D9 V T an st=(true,s')):Sat ad nx val an T:=by
 have Ag:uP (lQ V T an st)=range T.ow.length:=by
  unfold uP lQ;simp only[length_replicate];rw[filter_eq_self];intro k hk;have:=mem_range.1 hk;simp[getD_eq_getElem?_getD,this]
 have iX:qa (lQ V T an st)=range V.ow.length:=by
  unfold qa lQ;simp only[length_replicate];rw[filter_eq_self];intro k hk;have:=mem_range.1 hk;simp[getD_eq_getElem?_getD,this]
 have hw:Wf V T (lQ V T an st):=⟨by simp[lQ],by simp[lQ],Eg,by rw[iX];simp[lQ]⟩;obtain⟨he,eU,zV,L7⟩:=(so hT (wY hT _) _ _ hw (by rw[Ag];simp) _ _ hf).2 rfl;rw[Ag,iX]at L7;obtain⟨M,hM⟩:=E4 val s'.b 24;have ar:∀c a,s'.b c=some a->c<24:=by
  intro c a hc;rcases Nat.lt_or_ge c 24 with h|h
  .exact h
  .unfold SS.b at hc;rw[getD_eq_getElem?_getD,getElem?_eq_none (by omega)]at hc;cases hc
 obtain⟨P,hP,f',ht,ha⟩:=Ca h.sp;refine⟨svl s'.b val M,λc a hc=>lC (he c a hc),λp hpp=>?_,?_⟩
 .have:=all_eq_true.1 eU p hpp;simp only[Bool.and_eq_true,bne_iff_ne]at this;obtain⟨aL,hx⟩:=this;cases h1:s'.b p.l with
  |none =>
   cases h2:s'.b p.r with
   |none=>rw[rf h1,rf h2];omega
   |some y=>have:=hM _ (ar _ _ h2) _ h2;rw[rf h1,lC h2];omega
  |some x =>
   cases h2:s'.b p.r with
   |none=>have:=hM _ (ar _ _ h1) _ h1;rw[lC h1,rf h2];omega
   |some y=>rw[h1,h2]at hx;rw[lC h1,lC h2];exact S8 h hd hp hx
 .have:=S7 (sv:=svl s'.b val M) hP (λc a hc=>lC hc) (λi hi=>mem_range.1 hi) L7 ht ha;have e:(range T.ow.length).map (λk=>T.ow.getD k ax)=T.ow:=by
   apply ext_getElem (by simp);intro n h1 h2;simp[h2]
  rwa [e]at this
def vw(F:CF)(l:List Pr):CF:=⟨F.cl,F.ap,l⟩
theorem DM{l:List Pr}{i:Nat}(hi:i<l.length)(x:Pr):(l.set i x).Perm (x::(l.take i++l.drop (i+1))):=by
 rw[set_eq_take_append_cons_drop,if_pos hi];exact perm_middle
theorem Ls{l:List Pr}{i:Nat}(hi:i<l.length):l.Perm (l.getD i ax::(l.take i++l.drop (i+1))):=by
 have h1:=DM hi (l.getD i ax);rwa [jT]at h1
theorem acj{y:rD}{T V:CF}(hT:Rm T)(hA:RmA T)(OC:T.ow.length<=1000000)(hVl:V.ow.length<=1000000):∀m,WkC y T V m (wk V T m):=by
 intro m;induction m with
 |zero=>intro w s k at_ count _ _ h;omega
 |succ m ih=>exact LE hT hVl ih (wf hT hA OC hVl ih)
def Sq(w:World)(q f t:Nat)(an:List (Option Nat))(st:Int):Prop :=
 ∃(mid:List Value) (vv ov uv pv:Value),Ob w 202 55 q (ig f t an++(mid++[vv,ov,uv,pv,.int .i64 st]))/\mid.length=24/\an.length=24
theorem Ob.some{w:World}{T n A:Nat}{xs:List Value}(h:Ob w T n A xs){j:Nat}(hj:j<n):(∃u,w.cell? ⟨A,j,none⟩=some u)/\w.frozen? ⟨A,j,none⟩=false:=by
 refine⟨?_,ownsRow.frozenAt h j⟩;have hl:j<xs.length:=by have:=h.1;omega
 exact⟨xs[j],by rw[ownsRow.cellAt h j (by omega)];simp[hl]⟩
theorem Ob.set{w:World}{T n A:Nat}{xs:List Value}(h:Ob w T n A xs)(j:Nat)(u:Value):Ob (w.setCell ⟨A,j,none⟩ u) T n A (xs.set j u):=(ownsRow.stored h j u).1
theorem Ob.alloc{w:World}{T n A:Nat}{xs:List Value}(h:Ob w T n A xs)(o:Obj):Ob (w.alloc o) T n A xs:=h.of_eq (heap_alloc _ _ _ (ownsRow.lt h _ rfl).2)
def Vy(xs:List Value):Nat->List Value->List Value
 |_,[]=>xs
 |o,v::r=>Vy (xs.set o v) (o+1) r
theorem Ob.setCells{T n A:Nat}:∀(vs:List Value) (o:Nat) {w:World} {xs:List Value},Ob w T n A xs->Ob (w.setCells A o vs) T n A (Vy xs o vs):=by
 intro vs;induction vs with
 |nil=>intro o w xs h;exact h
 |cons v r ih=>intro o w xs h;exact ih (o+1) (h.set o v)
theorem nI:∀(vs a mid c:List Value),mid.length=vs.length->Vy (a++(mid++c)) a.length vs=a++(vs++c):=by
 intro vs;induction vs with
 |nil =>
  intro a mid c h;have:mid=[]:=eq_nil_of_length_eq_zero h;subst this;rfl
 |cons v r ih =>
  intro a mid c h;cases mid with
  |nil=>simp at h
  |cons m mid =>
   have h2:=ih (a++[v]) mid c (by simpa using h);simp only[Vy];rw[set_append_right _ _ (zq4 _),Nat.sub_self];simp only[cons_append,set_cons_zero];have e1:a++v::(mid++c)=(a++[v])++(mid++c):=(by simp);have e2:a.length+1=(a++[v]).length:=(by simp);rw[e1,e2,h2];simp
theorem au.setCells{F F':List Nat}{a:World}{b:Nat}(hb:b∈F):∀(vs:List Value) (o:Nat) {w:World},au F a F' w->au F a F' (w.setCells b o vs):=by
 intro vs;induction vs with
 |nil=>intro o w h;exact h
 |cons v r ih=>intro o w h;exact ih (o+1) (h.setCell (zq0 hb) v)
theorem k8{b k:Nat}(hk:k≠b):∀(vs:List Value) (o:Nat) (w:World),(w.setCells b o vs).heap[k]?=w.heap[k]?:=by
 intro vs;induction vs with
 |nil=>intro o w;rfl
 |cons v r ih=>intro o w;exact(ih (o+1) _).trans (heap_setCell _ _ _ _ hk)
theorem info24:(prog.info? 199).map (·.size)=some 24:=by kernel_rfl
theorem JX {w:World} {q f t:Nat} {an:List (Option Nat)} {st:Int} {F T:CF} {l:List Pr} {fav fov tav tov lv:Value} (h:Sq w q f t an st) (hF:ew w f F fav fov) (hT:ew w t T tav tov) (hl:w.ownsRow 0 182 3 lv l.length (af l)) (tX:l.length<=1000000) (OC:T.ow.length<=1000000)
  (hq:∀k,k∈aH f fav fov++(aH t tav tov++lv.ownBlock.toList)->k≠q) :
  Calls prog 176 #[.pointer (some ⟨q,0,none⟩),lv] w λe w'=>e=.returned (.tuple #[])/\∃v ov pv,Sw w' ⟨q,f,t,v,an,tav,tov,fav,lv,ov,pv⟩ T (vw F l) (lQ (vw F l) T an st)/\au [q] w (Fb q ov pv) w':=by
 obtain⟨mid,vv,ov0,uv,pv0,sR,KK,Eg⟩:=h;have hq0:w.cell? ⟨q,0,none⟩=some (.pointer (some ⟨f,0,none⟩)):=by rw[ownsRow.cellAt sR 0 (by omega)];rfl
 have CP:=hF.c5;have hf0:=hF.cls (i:=0) (by omega);have T5:=hF.cls (i:=1) (by omega);have mE:=hF.cls (i:=2) (by omega);have mY:=hF.cls (i:=3) (by omega);have Ab:=hF.cls (i:=4) (by omega);unfold gZ at hf0 T5 mE mY Ab;obtain⟨n0,oS⟩:∃x,x=F.cl.getD 0 0:=⟨_,rfl⟩;obtain⟨n1,j7⟩:∃x,x=F.cl.getD 1 0:=⟨_,rfl⟩;obtain⟨n2,tY⟩:∃x,x=F.cl.getD 2 0:=⟨_,rfl⟩;obtain⟨n3,sQ⟩:∃x,x=F.cl.getD 3 0:=⟨_,rfl⟩;obtain⟨n4,O7⟩:∃x,x=F.cl.getD 4 0:=⟨_,rfl⟩;rw[<-oS]at hf0;rw[<-j7]at T5;rw[<-tY]at mE;rw[<-sQ]at mY;rw[<-O7]at Ab;obtain⟨fao,fcap,Z3⟩:=bJ hF.ap;rw[Z3]at CP;have HN:Hid (n0=F.cl.getD 0 0/\n1=F.cl.getD 1 0/\n2=F.cl.getD 2 0/\n3=F.cl.getD 3 0/\n4=F.cl.getD 4 0):=ab ⟨oS,j7,tY,sQ,O7⟩;clear oS j7 tY sQ O7;obtain⟨lao,lcap,ic,agh,Xn,-⟩:=dH hl;have hlm:lcap<=9223372036854775807:=by unfold maxLen at agh;omega
 have hobA:∀o,Ob (w.alloc o) 202 55 q (ig f t an++(mid++[vv,ov0,uv,pv0,.int .i64 st])):=λo=>Ob.of_eq sR (heap_alloc _ _ _ (ownsRow.lt sR _ rfl).2);have alZ:∀o,(w.alloc o).cell? ⟨q,50,none⟩=some vv:=λo=>by
  rw[ownsRow.cellAt (hobA o) 50 (by omega)];rw[getElem?_append_right (by simp[ig,aO,Eg]),getElem?_append_right (by simp[ig,aO,Eg,KK])];simp[ig,aO,Eg,KK]
 have hfz:∀o j,(w.alloc o).frozen? ⟨q,j,none⟩=false:=λo j=>ownsRow.frozenAt (hobA o) j;have HF:=ab hF;have HT:=ab hT;have HL:=ab hl;have HQ:=ab hq;have St:=ab sR;have HLV:=ab ic;have Yc:=ab Z3;rw[ic];clear hF hT hl hq sR hobA agh ic Z3;go_enter func176,ntmps176;go_wp2_with fail
 go_region
 obtain⟨X,hX⟩:∃X,X=ig f t an++(mid++[vv,ov0,uv,pv0,Value.int IntKind.i64 st]):=⟨_,rfl⟩;obtain⟨w1,tZ⟩:∃w1,w1=((w.alloc (Obj.cells #[Value.int IntKind.i64 n0,Value.int IntKind.i64 n1,Value.int IntKind.i64 n2,Value.int IntKind.i64 n3,Value.int IntKind.i64 n4,Value.slice fao F.ap.length fcap,Value.slice lao l.length lcap] 179)).setCell ⟨q,50,none⟩ (Value.pointer (some ⟨w.heap.size,0,none⟩))).drew:=⟨_,rfl⟩;rw[<-tZ];have hqs:q<w.heap.size:=(ownsRow.lt (uh St) _ rfl).2;have ZJ:au [q] w [q] w1:=by rw[tZ];exact(((au.refl [q] w).alloc _).setCell (zq0 (by simp)) _).drew
 have Oq:Ob w1 202 55 q (X.set 50 (.pointer (some ⟨w.heap.size,0,none⟩))):=by
  rw[tZ];have h1:=Ob.of_eq (uh St) (w':=w.alloc (Obj.cells #[Value.int IntKind.i64 n0,Value.int IntKind.i64 n1,Value.int IntKind.i64 n2,Value.int IntKind.i64 n3,Value.int IntKind.i64 n4,Value.slice fao F.ap.length fcap,Value.slice lao l.length lcap] 179)) (heap_alloc _ _ _ hqs);rw[<-hX]at h1;exact Ob.of_eq (ownsRow.stored h1 50 _).1 rfl
 have CJ:∀k,k<w.heap.size->k≠q->w1.heap[k]?=w.heap[k]?:=λk hk aL=>ZJ.block k hk (by simpa using aL);have ae2:ew w1 w.heap.size (vw F l) fav lv:=by
  refine⟨?_,?_,?_⟩
  .have h1:=ownsRow_lit (base:=0) (e:=179) (size:=7) w #[Value.int IntKind.i64 n0,Value.int IntKind.i64 n1,Value.int IntKind.i64 n2,Value.int IntKind.i64 n3,Value.int IntKind.i64 n4,Value.slice fao F.ap.length fcap,Value.slice lao l.length lcap] 1 (zq5 _) (by simp[maxLen]) rfl;have h2:Ob w1 179 7 w.heap.size [Value.int IntKind.i64 n0,Value.int IntKind.i64 n1,Value.int IntKind.i64 n2,Value.int IntKind.i64 n3,Value.int IntKind.i64 n4,Value.slice fao F.ap.length fcap,Value.slice lao l.length lcap]:=by
    refine Ob.of_eq h1 ?_;rw[tZ];exact heap_setCell _ _ _ _ (by show w.heap.size≠q;omega)
   obtain⟨e0,e1,e2,e3,e4⟩:=uh HN;rw[<-uh Yc,<-uh HLV]at h2;unfold jl gZ;rw[show(vw F l).cl=F.cl from rfl,<-e0,<-e1,<-e2,<-e3,<-e4];exact h2
  .exact ae (uh HF).ap (λk hk=>CJ k ((uh HF).ap.lt k hk).2 (uh HQ k (by simp[aH,hk])))
  .exact ae (uh HL) (λk hk=>CJ k ((uh HL).lt k hk).2 (uh HQ k (by simp[hk])))
 have ae1:ew w1 t T tav tov:=(uh HT).of_eq (λk hk=>CJ k ((uh HT).lt k hk) (uh HQ k (by simp[hk])));have yk:=ab ae2;have By:=ab ae1;have Ym:=ab ZJ;obtain⟨X1,hX1⟩:∃X1,X1=X.set 50 (.pointer (some ⟨w.heap.size,0,none⟩)):=⟨_,rfl⟩;rw[<-hX1]at Oq;have HX1:=ab hX1;have HX:=ab hX;have Sm:=ab Oq;obtain⟨⟨u52,amh⟩,amx⟩:=Oq.some (j:=52) (by omega);have afa:=Oq.set 52 (.int .i64 (l.length:Int));have hmk:=run_make_row' (P:=prog) 29 3 (.int .i64 0) 8 underlying29 infoInt rfl .i64 .i64 l.length (by omega) (by omega);obtain⟨⟨u51,amg⟩,amw⟩:=(afa.alloc (.cells (madeCells #[.int .i64 0] l.length) 3)).some (j:=51) (by omega);clear ae2 ae1 ZJ hX1 hX Oq afa CJ hq0 CP hf0 T5 mE mY Ab alZ hfz;have Ys:=ab tZ;clear tZ;go_wp2_with fail
 obtain⟨O,hO⟩:∃O,O=w1.heap.size:=⟨_,rfl⟩;obtain⟨w3,Iq⟩:∃w3,w3=((w1.setCell ⟨q,52,none⟩ (.int .i64 (l.length:Int))).alloc (.cells (madeCells #[Value.int .i64 0] l.length) 3)).setCell ⟨q,51,none⟩ (.slice (some ⟨w1.heap.size,0,none⟩) l.length l.length):=⟨_,rfl⟩;rw[<-Iq,<-hO];have hqO:q<O:=by rw[hO];exact zq6 hqs (uh Ym).size
 have Ih:au [q] w1 [q] w3:=by rw[Iq];exact(((au.refl [q] w1).setCell (zq0 (by simp)) _).alloc _).setCell (zq0 (by simp)) _
 have afj:au [q] w [q] w3:=(uh Ym).trans Ih;have afb:Ob w3 202 55 q ((X1.set 52 (.int .i64 (l.length:Int))).set 51 (.slice (some ⟨O,0,none⟩) l.length l.length)):=by
  rw[Iq,hO];exact(((uh Sm).set 52 _).alloc _).set 51 _
 have Xu:w3.ownsRow 0 3 1 (.slice (some ⟨O,0,none⟩) l.length l.length) l.length (replicate l.length (.int .i64 0)):=by
  have h1:=ownsRow_lit (base:=0) (e:=3) (size:=1) (w1.setCell ⟨q,52,none⟩ (.int .i64 (l.length:Int))) (madeCells #[Value.int .i64 0] l.length) l.length (zq5 _) (by simp[maxLen];omega) (by simp[madeCells]);rw[toList_madeCells_one]at h1;have e:(w1.setCell ⟨q,52,none⟩ (.int .i64 (l.length:Int))).heap.size=O:=by rw[hO];simp
  rw[e]at h1;refine ae h1 (λk hk=>?_);cases hk
  rw[Iq];exact heap_setCell _ _ _ _ (by show O≠q;omega)
 have asg:w3.heap.size=O+1:=by rw[Iq,hO];simp
 have ass:w.heap.size<O:=by
  have:=(uh yk).lt w.heap.size (by simp[aH]);rw[hO];exact this
 have WR:ew w3 w.heap.size (vw F l) fav lv:=(uh yk).of_eq (λk hk=>Ih.block k ((uh yk).lt k hk) (by
  simp only[mem_singleton];simp only[aH,mem_cons,mem_append,Option.mem_toList]at hk;rcases hk with rfl|hk|hk
  .omega
  .exact uh HQ k (by simp[aH,hk])
  .exact uh HQ k (by simp[hk])))
 have WQ:ew w3 t T tav tov:=(uh By).of_eq (λk hk=>Ih.block k ((uh By).lt k hk) (by
  simp only[mem_singleton];exact uh HQ k (by simp[hk])))
 have HV3:=ab WR;have uE:=ab WQ;have ajQ:=ab afj;have HO3:=ab afb;have LN:=ab Xu;have HO:=ab hO;clear WR WQ afj Ih afb Xu hO Iq amh amx amg amw hmk Ys By yk Sm Ym;go_loopw [4] (λi wr=>∃k:Nat,k<=l.length/\i=.int .i64 k/\Hid (wr.ownsRow 0 3 1 (.slice (some ⟨O,0,none⟩) l.length l.length) l.length (replicate k (.int .i64 (-1))++replicate (l.length-k) (.int .i64 0)))/\Hid (au [O] w3 [O] wr)) (λi _=>l.length-(intOf i).toNat)
 case atStart=>exact⟨0,zq5 _,rfl,ab (by simpa using uh LN),ab (au.refl _ _)⟩
 case round =>
  obtain⟨k,hk,rfl,bE,aV⟩:=hrel;have Kp:Ob wr 202 55 q ((X1.set 52 (.int .i64 (l.length:Int))).set 51 (.slice (some ⟨O,0,none⟩) l.length l.length)):=(uh HO3).of_eq ((uh aV).block q (by omega) (by simp;omega));have ard:X1.length=55:=by
   have h1:=(uh HO3).1;simp only[length_set]at h1;omega
  have h51:wr.cell? ⟨q,51,none⟩=some (.slice (some ⟨O,0,none⟩) l.length l.length):=by
   rw[ownsRow.cellAt Kp 51 (by omega),getElem?_set_self (by simp;omega)]
  by_cases ar:k<l.length
  .have RN:wr.cell? ⟨O,k,none⟩=some (.int .i64 0):=by
    rw[(uh bE).cellAt k (by omega),getElem?_append_right (by simp),length_replicate,Nat.sub_self,getElem?_replicate,if_pos (by omega)]
   have ON:=(uh bE).frozenAt k;have iC:=((uh bE).stored k (.int .i64 (-1))).1;have e:(replicate k (Value.int .i64 (-1))++replicate (l.length-k) (Value.int .i64 0)).set k (Value.int .i64 (-1))=replicate (k+1) (Value.int .i64 (-1))++replicate (l.length-(k+1)) (Value.int .i64 0):=by
    rw[set_append_right k _ (by simp)];simp only[length_replicate,Nat.sub_self];rw[show l.length-k=(l.length-(k+1))+1 by omega,replicate_succ,set_cons_zero,replicate_succ',append_assoc];rfl
   rw[e]at iC;have ajE:=ab iC;have HSt:=ab ((uh aV).setCell (p:=⟨O,k,none⟩) (zq0 (by simp)) (.int .i64 (-1)));clear iC Kp bE aV;go_wp2_with fail
   go_roundw
   case rel=>exact⟨k+1,by omega,by go_num,ajE,HSt⟩
   case measure=>simp[intOf];omega
  .have hd:decide ((k:Int)<(l.length:Int))=false:=(by simp;omega);have j5:k=l.length:=(by omega);subst j5;have RT:wr.cell? ⟨q,1,none⟩=some (.pointer (some ⟨t,0,none⟩)):=by
    rw[ownsRow.cellAt Kp 1 (by omega),getElem?_set_ne (by omega),getElem?_set_ne (by omega),uh HX1,getElem?_set_ne (by omega),uh HX];rfl
   have Ie:ew wr t T tav tov:=(uh uE).of_eq (λk hk=>(uh aV).block k ((uh uE).lt k hk) (by
    simp only[mem_singleton];rintro rfl;have:=(uh HT).lt _ hk;omega))
   have Ku:=Ie.c6;obtain⟨tao,tcap,pM,agS,Xx,-⟩:=dH Ie.ow;have htm:tcap<=9223372036854775807:=(by unfold maxLen at agS;omega);rw[pM]at Ku;have hmk:=run_make_row' (P:=prog) 200 4 (.bool false) 1 underlying200 infoBool rfl .i64 .i64 T.ow.length (by omega) (by omega);obtain⟨⟨u53,aso⟩,asz⟩:=(Kp.alloc (.cells (madeCells #[.bool false] T.ow.length) 4)).some (j:=53) (by omega);have aqA:=ab pM;have HTr:=ab Ie;have TS:=(Kp.alloc (.cells (madeCells #[Value.bool false] T.ow.length) 4)).set 53 (Value.slice (some ⟨wr.heap.size,0,none⟩) T.ow.length T.ow.length);have Ox:((wr.alloc (.cells (madeCells #[Value.bool false] T.ow.length) 4)).setCell ⟨q,53,none⟩ (Value.slice (some ⟨wr.heap.size,0,none⟩) T.ow.length T.ow.length)).rangeAt q 2 (bi an):=by
    intro j v hj;have als:j<24:=by
     have:=(List.getElem?_eq_some_iff.1 hj).1;rw[aO,Eg]at this;exact this
    rw[ownsRow.cellAt TS (2+j) (by omega),getElem?_set_ne (by omega),getElem?_set_ne (by omega),getElem?_set_ne (by omega),uh HX1,getElem?_set_ne (by omega),uh HX];rw[getElem?_append_left (by simp[ig,aO];omega)];unfold ig;rw[getElem?_append_right (by simp)];simpa[show 2+j-2=j by omega] using hj
   have OB:((wr.alloc (.cells (madeCells #[Value.bool false] T.ow.length) 4)).setCell ⟨q,53,none⟩ (Value.slice (some ⟨wr.heap.size,0,none⟩) T.ow.length T.ow.length)).there q 26 (bi an).toArray.size:=by
    intro j hj;have als:j<24:=(by simpa[aO,Eg] using hj);obtain⟨⟨u,hu⟩,hz⟩:=TS.some (j:=26+j) (by omega);exact⟨by rw[hu];rfl,hz⟩
   have vi:=Ob.setCells (bi an) 26 TS;have ae0:(prog.info? 199).map (·.size)=some (bi an).length:=(by rw[aO,Eg];exact info24);have WP:(prog.info? 199).map (·.size)=some (bi an).toArray.size:=(by rw[size_toArray,aO,Eg];exact info24);have afe:(bi an).toArray.all (·.oneCell')=true:=all_oneCell_toArray (by
    intro v hv;obtain⟨o,_,rfl⟩:=mem_map.1 hv;rfl)
   have HR:=ab Ox;have B7:=ab OB;have HI:=ab ae0;have d7:=ab WP;have ad9:=ab afe;have JL:=ab vi;obtain⟨AN,hAN⟩:∃AN,AN=bi an:=⟨_,rfl⟩;rw[<-hAN]at HR B7 HI d7 ad9 JL;have HAN:=ab hAN;clear pM Kp Ie agS TS Ox OB ae0 WP afe vi hAN;go_wp2_with (first|refine wpList_load_mid rfl 199 (.tmp 66) rfl q 2 rfl AN _ (uh HR) underlying199 rfl (uh HI) ?_|refine wpList_store_mid rfl 199 (.tmp 69) (.tmp 67) rfl q 26 AN.toArray rfl rfl (uh B7) (uh d7) (uh ad9) ?_)
   go_end0
   rw[<-uh HLV];have Um:(ig f t an).length=26:=(by simp[ig,aO,Eg]);have hL3:O<wr.heap.size:=(by have:=(uh aV).size;omega);have hobF:Ob (((wr.alloc (Obj.cells (madeCells #[Value.bool false] T.ow.length) 4)).setCell ⟨q,53,none⟩ (Value.slice (some ⟨wr.heap.size,0,none⟩) T.ow.length T.ow.length)).setCells q 26 AN) 202 55 q (nE f t w.heap.size an (lQ (vw F l) T an st) (.slice (some ⟨O,0,none⟩) l.length l.length) (.slice (some ⟨wr.heap.size,0,none⟩) T.ow.length T.ow.length)):=by
    have h5:=uh JL;rw[uh HX1,uh HX]at h5;have cO:∀(tl:List Value) (j:Nat) (u:Value),(ig f t an++(mid++tl)).set (50+j) u=ig f t an++(mid++tl.set j u):=by
     intro tl j u;rw[set_append_right _ _ (by omega),Um,set_append_right _ _ (by omega),KK,show 50+j-26-24=j by omega]
    have s0:=cO [vv,ov0,uv,pv0,Value.int IntKind.i64 st] 0 (.pointer (some ⟨w.heap.size,0,none⟩));have s1:=cO [.pointer (some ⟨w.heap.size,0,none⟩),ov0,uv,pv0,Value.int IntKind.i64 st] 2 (.int .i64 (l.length:Int));have s2:=cO [.pointer (some ⟨w.heap.size,0,none⟩),ov0,.int .i64 (l.length:Int),pv0,Value.int IntKind.i64 st] 1 (.slice (some ⟨O,0,none⟩) l.length l.length);have s3:=cO [.pointer (some ⟨w.heap.size,0,none⟩),.slice (some ⟨O,0,none⟩) l.length l.length,.int .i64 (l.length:Int),pv0,Value.int IntKind.i64 st] 3 (Value.slice (some ⟨wr.heap.size,0,none⟩) T.ow.length T.ow.length);simp only[set_cons_zero,set_cons_succ,Nat.add_zero,Nat.reduceAdd]at s0 s1 s2 s3;rw[s0,s1,s2,s3,show(26:Nat)=(ig f t an).length from Um.symm,nI AN (ig f t an) mid _ (by rw[uh HAN,aO];omega)]at h5;rw[show 26=(ig f t an).length from Um.symm];rw[uh HAN]at h5 ⊢;exact h5
   obtain⟨w5,hw5⟩:∃w5,w5=(((wr.alloc (Obj.cells (madeCells #[Value.bool false] T.ow.length) 4)).setCell ⟨q,53,none⟩ (Value.slice (some ⟨wr.heap.size,0,none⟩) T.ow.length T.ow.length)).setCells q 26 AN):=⟨_,rfl⟩;rw[<-hw5]at hobF ⊢;have iy:∀k,k<wr.heap.size->k≠q->w5.heap[k]?=wr.heap[k]?:=by
    intro k hk aL;rw[hw5,k8 aL,heap_setCell _ _ _ _ aL,heap_alloc _ _ _ hk]
   have zY:∀k,k<O->k≠q->w5.heap[k]?=w3.heap[k]?:=λk hk aL=>(iy k (by omega) aL).trans ((uh aV).block k (by omega) (by simp;omega));have iB:∀k,k∈aH t tav tov->k<w.heap.size/\k≠q:=λk hk=>⟨(uh HT).lt k hk,uh HQ k (by simp[hk])⟩;have O3:∀k,k∈aH w.heap.size fav lv->k<=w.heap.size/\k≠q:=by
    intro k hk;simp only[aH,mem_cons,mem_append,Option.mem_toList]at hk;rcases hk with rfl|hk|hk
    .exact⟨zq4 _,by omega⟩
    .exact⟨Nat.le_of_lt ((uh HF).ap.lt k hk).2,uh HQ k (by simp[aH,hk])⟩
    .exact⟨Nat.le_of_lt ((uh HL).lt k hk).2,uh HQ k (by simp[hk])⟩
   refine⟨rfl,w.heap.size,.slice (some ⟨O,0,none⟩) l.length l.length,.slice (some ⟨wr.heap.size,0,none⟩) T.ow.length T.ow.length,⟨hobF,Eg,Eg,?_,?_,?_,?_,?_,?_,?_⟩,?_⟩
   .have h1:=uh bE;rw[Nat.sub_self]at h1;simp only[replicate_zero,append_nil]at h1;have h2:(lQ (vw F l) T an st).ot=replicate l.length none:=rfl;rw[h2];simp only[bi,map_replicate,length_replicate];exact ae h1 (λk hk=>by cases hk;exact iy O hL3 (by omega))
   .have h1:=ownsRow_lit (base:=0) (e:=4) (size:=1) wr (madeCells #[Value.bool false] T.ow.length) T.ow.length (zq5 _) (by simp[maxLen];omega) (by simp[madeCells]);rw[toList_madeCells_one]at h1;have h2:(lQ (vw F l) T an st).pl=replicate T.ow.length false:=rfl;rw[h2];simp only[map_replicate,length_replicate];refine ae h1 (λk hk=>?_);cases hk
    have aL:wr.heap.size≠q:=(by omega);rw[hw5,k8 aL];exact heap_setCell _ _ _ _ aL
   .show [q,O,wr.heap.size].Nodup;simp;omega
   .exact(uh uE).of_eq (λk hk=>zY k (by have:=(iB k hk).1;omega) (iB k hk).2)
   .exact(uh HV3).of_eq (λk hk=>zY k (by have:=(O3 k hk).1;omega) (O3 k hk).2)
   .intro k hk;have:=iB k hk;show k ∉ [q,O,wr.heap.size];simp;omega
   .intro k hk;have:=O3 k hk;show k ∉ [q,O,wr.heap.size];simp;omega
   .have h1:=uh ajQ;have h2:=uh aV;have h3:au [q] wr [q] w5:=(by rw[hw5];exact au.setCells (by simp) _ _ (((au.refl [q] wr).alloc _).setCell (zq0 (by simp)) _));refine⟨h3.os.trans (h2.os.trans h1.os),h3.tape.trans (h2.tape.trans h1.tape),h3.output.trans (h2.output.trans h1.output),zq3 h1.size (zq3 h2.size h3.size),λk hk hF=>?_,λk hk=>?_⟩
    .have aL:k≠q:=(by simpa using hF);exact(zY k (by omega) aL).trans (h1.block k hk hF)
    .have BP:k∈[q,O,wr.heap.size]:=hk;simp at BP;simp;omega
theorem YN{V T:CF}{an:List (Option Nat)}{st:Int}(Eg:an.length=24):Wf V T (lQ V T an st)/\(uP (lQ V T an st)).length+0=T.ow.length:=by
 have Ag:uP (lQ V T an st)=range T.ow.length:=by
  unfold uP lQ;simp only[length_replicate];rw[filter_eq_self];intro k hk;have:=mem_range.1 hk;simp[getD_eq_getElem?_getD,this]
 have iX:qa (lQ V T an st)=range V.ow.length:=by
  unfold qa lQ;simp only[length_replicate];rw[filter_eq_self];intro k hk;have:=mem_range.1 hk;simp[getD_eq_getElem?_getD,this]
 exact⟨⟨by simp[lQ],by simp[lQ],Eg,by rw[iX];simp[lQ]⟩,by rw[Ag];simp⟩
structure Se(w:World)(q f t:Nat)(an:List (Option Nat))(F T:CF)(fav fov tav tov:Value)(st:Int):Prop where
 sq:Sq w q f t an st
 ff:ew w f F fav fov
 ft:ew w t T tav tov
 nf:∀k∈aH f fav fov,k≠q
 nt:∀k∈aH t tav tov,k≠q
theorem NZ{w:World}{q f t:Nat}{an:List (Option Nat)}{st:Int}{F T:CF}{l:List Pr}{fav fov tav tov lv:Value}(h:Se w q f t an F T fav fov tav tov st)(hl:w.ownsRow 0 182 3 lv l.length (af l))(hlq:∀k,lv.ownBlock=some k->k≠q)(tX:l.length<=1000000)(OC:T.ow.length<=1000000)(hR:Rm T)(hA:RmA T):
  Calls prog 153 #[.pointer (some ⟨q,0,none⟩),lv] w λe w'=>e=.returned (.bool (D9 (vw F l) T an st).1)/\∃v ov pv,Sw w' ⟨q,f,t,v,an,tav,tov,fav,lv,ov,pv⟩ T (vw F l) (D9 (vw F l) T an st).2/\au [q] w (Fb q ov pv) w'/\(∀k∈Fb q ov pv,k=q\/w.heap.size<=k):=by
 have HB:=ab (JX h.sq h.ff h.ft hl tX OC (λk hk=>by
  simp only[mem_append,Option.mem_toList]at hk;rcases hk with hk|hk|hk
  .exact h.nf k hk
  .exact h.nt k hk
  .exact hlq k hk))
 have Eg:an.length=24:=by obtain⟨_,_,_,_,_,_,_,h2⟩:=h.sq;exact h2
 have HP:=ab (λy=>wf (y:=y) (T:=T) (V:=vw F l) hR hA OC tX (m:=l.length+1) (acj hR hA OC tX _));obtain⟨hwf,Ag⟩:=YN (V:=vw F l) (T:=T) (an:=an) (st:=st) Eg;have HW:=ab hwf;have HU:=ab Ag;clear h hl hlq hwf Ag;go_enter func153,ntmps153;go_wp2_with fail
 refine(uh HB).mono ?_;rintro e w1 ⟨rfl,v,ov,pv,bX,mW⟩;have cD:=ab bX;have By:=ab mW;clear bX mW;go_wp2_with fail
 refine(uh HP ⟨q,f,t,v,an,tav,tov,fav,lv,ov,pv⟩ w1 (lQ (vw F l) T an st) 0 (uh cD) (uh HW) (by show l.length<l.length+1;omega) (uh HU)).mono ?_;rintro e w2 ⟨rfl,bS,hT2⟩;have cS:=ab bS;have GQ:=ab hT2;clear bS hT2;go_wp2_with fail
 go_ret;refine⟨rfl,v,ov,pv,uh cS,(uh By).trans (uh GQ),λk hk=>?_⟩;rcases(uh By).foot k hk with h1|h1
 .exact zq0 (by simpa using h1)
 .exact zq1 h1
theorem mf{l:List Pr}{i:Nat}(hi:i<l.length)(k:Nat):(af l).set (i*3) (.int .i64 (k:Int))=af (l.set i ⟨k,(l.getD i ax).l,(l.getD i ax).r⟩):=by
 induction l generalizing i with
 |nil=>simp at hi
 |cons x l ih =>
  have hx:∀y:Pr,af (y::l)=[Value.int .i64 y.k,.int .i64 y.l,.int .i64 y.r]++af l:=λy=>rfl;cases i with
  |zero=>rw[hx,set_cons_zero,hx];rfl
  |succ i =>
   have h1:=ih (i:=i) (by simpa using hi);rw[hx,set_append_right _ _ (by simp;omega),set_cons_succ];show _=[Value.int .i64 x.k,.int .i64 x.l,.int .i64 x.r]++af _;rw[show(i+1)*3 - [Value.int .i64 (x.k:Int),.int .i64 (x.l:Int),.int .i64 (x.r:Int)].length=i*3 by simp;omega,h1];rfl
theorem eX{l:List Pr}{i:Nat}(hi:i<l.length)(r:Nat):(af l).set (i*3+2) (.int .i64 (r:Int))=af (l.set i ⟨(l.getD i ax).k,(l.getD i ax).l,r⟩):=by
 induction l generalizing i with
 |nil=>simp at hi
 |cons x l ih =>
  have hx:∀y:Pr,af (y::l)=[Value.int .i64 y.k,.int .i64 y.l,.int .i64 y.r]++af l:=λy=>rfl;cases i with
  |zero=>rw[hx,set_cons_zero,hx];rfl
  |succ i =>
   have h1:=ih (i:=i) (by simpa using hi);rw[hx,set_append_right _ _ (by simp;omega),set_cons_succ];show _=[Value.int .i64 x.k,.int .i64 x.l,.int .i64 x.r]++af _;rw[show(i+1)*3+2 - [Value.int .i64 (x.k:Int),.int .i64 (x.l:Int),.int .i64 (x.r:Int)].length=i*3+2 by simp;omega,h1];rfl
theorem nD(l:List Pr):∀u∈af l,u.oneCell'=true:=by
 intro u hu;simp only[af,mem_flatMap]at hu;obtain⟨a,_,ha⟩:=hu;simp only[Vn,mem_cons,not_mem_nil,or_false]at ha;rcases ha with rfl|rfl|rfl <;> rfl
theorem infoPair:(prog.info? 182).map (λi=>(i.zero,i.size,i.bytes))=some (some (.agg #[.int .i64 0,.int .i64 0,.int .i64 0]),3,24):=by kernel_rfl
theorem ew.below{w w':World}{A:Nat}{f:CF}{av ov:Value}(h:ew w A f av ov)(hb:Below w.heap.size w w'):ew w' A f av ov:=h.of_eq (λk hk=>hb.block k (h.lt k hk))
theorem ahn{w w':World}{B:Nat}{e:TypeId}{sz n:Nat}{v:Value}{xs:List Value}(h:w.ownsRow B e sz v n xs)(hb:Below w.heap.size w w'):w'.ownsRow B e sz v n xs:=ae h (λk hk=>hb.block k (h.lt k hk).2)
theorem au.blk{q:Nat}{w w':World}{F:List Nat}(h:au [q] w F w'):∀k,k<w.heap.size->k≠q->w'.heap[k]?=w.heap[k]?:=λk hk aL=>h.block k hk (by simpa using aL)
def xP(F T:CF):List Nat->List (Option Nat)->Option (List (Option Nat))
 |[],an=>some an
 |i::r,an=>if an.getD (T.cl.getD i 0) none≠none/\an.getD (T.cl.getD i 0) none≠some (F.cl.getD i 0) then none else xP F T r (an.set (T.cl.getD i 0) (some (F.cl.getD i 0)))
def tm(a:cn):Pr:=⟨a.k,nK a.lk a.li,nK a.rk a.ri⟩
def rF(al:List cn):Prop:=∀a∈al,(tm a).l<13/\(tm a).r<13
theorem N6{f:Nat->Nat}{c:List Nat}{i:Nat}(h:i<c.length):(c.map f).getD i 0=f (c.getD i 0):=by simp[h]
theorem AH:∀(al:List cn) (c:List Nat),rF al->c.length=13->(∀i,i<13->c.getD i 0<13)->(al.foldl j9 c).length=13/\∀i,i<13->(al.foldl j9 c).getD i 0<13:=by
 intro al;induction al with
 |nil=>intro c _ h1 h2;exact⟨h1,h2⟩
 |cons a al ih =>
  intro c ht h1 h2;rw[foldl_cons];have KT:=ht a (by simp);have ht':rF al:=λb hb=>ht b (by simp[hb]);unfold j9;split
  .refine ih _ ht' (by simpa using h1) (λi hi=>?_);rw[N6 (by omega)];split
   .exact h2 _ KT.1
   .exact h2 i hi
  .exact ih _ ht' h1 h2
theorem AW(i:Nat)(h:i<13):(range 13).getD i 0=i:=by simp[h]
theorem AI{al:List cn}(ht:rF al):(gS al).length=13:=(AH al _ ht (by simp) (λi hi=>by rw[AW i hi];exact hi)).1
theorem AJ{al:List cn}(ht:rF al){i:Nat}(hi:i<13):(gS al).getD i 0<13:=(AH al _ ht (by simp) (λi hi=>by rw[AW i hi];exact hi)).2 i hi
theorem Hf{al:List cn}{i:Nat}(hi:i<5):(bf al).cl.getD i 0=(gS al).getD i 0:=by
 simp only[bf,getD_eq_getElem?_getD];rw[getElem?_take_of_lt hi]
theorem NA:∀{ow:List Pr} {seen:List Nat},mP seen ow=true->∃i,i<ow.length/\((ow.getD i ax).l∈seen\/∃j,j<i/\(ow.getD j ax).l=(ow.getD i ax).l):=by
 intro ow;induction ow with
 |nil=>intro seen h;cases h
 |cons p r ih =>
  intro seen h;simp only[mP]at h;by_cases hp:p.l∈seen
  .exact⟨0,by simp,zq0 (by simpa using hp)⟩
  .rw[if_neg hp]at h;obtain⟨i,hi,h1|⟨j,hj,h1⟩⟩:=ih h
   .rcases mem_cons.1 h1 with h1|h1
    .exact⟨i+1,by simp;omega,zq1 ⟨0,by omega,by simpa using h1.symm⟩⟩
    .exact⟨i+1,by simp;omega,zq0 (by simpa using h1)⟩
   .exact⟨i+1,by simp;omega,zq1 ⟨j+1,by omega,by simpa using h1⟩⟩
theorem Y7{ad nx:List Int}{val:Nat->Int}{V:CF}(h:Yw ad nx val V)(hd:ad.Nodup)(hp:∀v∈ad,0<v):eE V=false:=by
 cases hf:eE V with
 |false=>rfl
 |true =>
  exfalso;unfold eE at hf;rw[Bool.or_eq_true]at hf;obtain⟨h1,h2⟩:=h.heads hd hp;rcases hf with hf|hf
  .obtain⟨p,hp,e⟩:=any_eq_true.1 hf;have:=h.ap p hp;rw[beq_iff_eq.1 e]at this;exact this rfl
  .obtain⟨i,hi,h3|⟨j,hj,h3⟩⟩:=NA hf
   .simp only[mem_singleton]at h3;have:=h1 i hi;rw[h3,h.nl]at this;omega
   .exact h2 j i (by omega) hi (by omega) (by rw[h3])
theorem uX{F T:CF}(hT:∀i,i<5->T.cl.getD i 0<24):∀{is:List Nat} {an an':List (Option Nat)},(∀i∈is,i<5)->an.length=24->xP F T is an=some an' ->
  an'.length=24/\(∀c a,an.getD c none=some a->an'.getD c none=some a)/\(∀i∈is,an'.getD (T.cl.getD i 0) none=some (F.cl.getD i 0))/\(∀c a,an'.getD c none=some a->an.getD c none=some a\/∃i∈is,a=F.cl.getD i 0):=by
 intro is;induction is with
 |nil=>intro an an' _ h h2;cases h2;exact⟨h,λ_ _ h=>h,λi hi=>(by cases hi),λc a h=>zq0 h⟩
 |cons i is ih =>
  intro an an' his h h2;simp only[xP]at h2;by_cases h0:an.getD (T.cl.getD i 0) none≠none/\an.getD (T.cl.getD i 0) none≠some (F.cl.getD i 0)
  .rw[if_pos h0]at h2;cases h2
  .rw[if_neg h0]at h2;obtain⟨g1,g2,g3,g4⟩:=ih (λj hj=>his j (by simp[hj])) (by simpa using h) h2;have cO:∀c,(an.set (T.cl.getD i 0) (some (F.cl.getD i 0))).getD c none=if T.cl.getD i 0=c then some (F.cl.getD i 0) else an.getD c none:=λc=>cM _ _ _ _ _ (by rw[h];exact hT i (his i (by simp)))
   refine⟨g1,λc a hc=>g2 c a ?_,λj hj=>?_,λc a hc=>?_⟩
   .rw[cO];by_cases e:T.cl.getD i 0=c
    .rw[if_pos e];subst e;by_cases e2:a=F.cl.getD i 0
     .rw[e2]
     .exact absurd ⟨by rw[hc];simp,by rw[hc];simpa using e2⟩ h0
    .rw[if_neg e];exact hc
   .rcases mem_cons.1 hj with rfl|hj
    .exact g2 _ _ (by rw[cO,if_pos rfl])
    .exact g3 j hj
   .rcases g4 c a hc with h5|⟨j,hj,h5⟩
    .rw[cO]at h5;by_cases e:T.cl.getD i 0=c
     .rw[if_pos e]at h5;cases h5;exact zq1 ⟨i,by simp,rfl⟩
     .rw[if_neg e]at h5;exact zq0 h5
    .exact zq1 ⟨j,by simp[hj],h5⟩
