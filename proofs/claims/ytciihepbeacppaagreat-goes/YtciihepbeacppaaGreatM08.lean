import Derived.Test.YtciihepbeacppaaGreatRG
import Derived.Laws.AppendOwnNone
import Derived.Laws.CopyOwn
import Derived.Deep.MidRow
import Derived.Deep.OwnRows
set_option maxRecDepth 100000
set_option maxHeartbeats 0
namespace Go.Proofs.YtciihepbeacppaaGreat
open Tryz Go.RowKit List World Below
set_option linter.unusedVariables false
def nB(w:World)(v:Value)(sz n:Nat)(xs:List Value):Prop :=
 xs.length=n*sz/\n<=40000/\((v=.slice none 0 0/\n=0)\/∃g off cap,v=.slice (some ⟨g,off,none⟩) n cap/\n<=cap/\cap<=maxLen/\∀j u,xs[j]?=some u->w.cell? ⟨g,off+j,none⟩=some u)
theorem nB.below{w w':World}{v:Value}{sz n:Nat}{xs:List Value}(h:nB w v sz n xs)(hb:Below w.heap.size w w'):nB w' v sz n xs:=by
 obtain⟨h1,h2,h3⟩:=h;refine⟨h1,h2,?_⟩;rcases h3 with h3|⟨g,off,cap,hv,hn,hm,hc⟩
 .exact zq0 h3
 .exact zq1 ⟨g,off,cap,hv,hn,hm,λj u hj=>by rw[hb.cell (block_lt_of_cell? w _ (hc j u hj))];exact hc j u hj⟩
theorem nB.of_own{w:World}{B:Nat}{e:TypeId}{v:Value}{sz n:Nat}{xs:List Value}(h:w.ownsRow B e sz v n xs)(hn:n<=40000):nB w v sz n xs:=by
 have ix:=λg hg=>h.cells (g:=g) hg;refine⟨h.1,hn,?_⟩;rcases h.2 with⟨rfl,h0⟩|⟨g,cap,cur,rfl,_,_,hn,hm,_,_⟩
 .exact zq0 ⟨rfl,h0⟩
 .refine zq1 ⟨g,0,cap,rfl,hn,hm,λj u hj=>?_⟩;have:=ix g rfl j u hj;rw[show(⟨g,0,none⟩:Addr).add j=⟨g,0+j,none⟩ by unfold Addr.add;split <;> simp_all]at this;exact this
def di(l:List Int):List Value:=l.map (Value.int .i64)
theorem k9(l:List Int):(di l).length=l.length:=by simp[di]
def clP(ad:List Int)(fr:List Bool)(a:Int):Nat->Bool:=λk=>fr.getD k false&&ad.getD k 0==a
def hCl(ad:List Int)(fr:List Bool)(a:Int):Nat:=((range ad.length).find? (clP ad fr a)).getD ad.length
theorem nB.get{w:World}{v:Value}{n:Nat}{xs:List Value}(h:nB w v 1 n xs)(hn:0<n):∃g off cap,v=.slice (some ⟨g,off,none⟩) n cap/\n<=cap/\cap<=maxLen/\∀j u,xs[j]?=some u->w.cell? ⟨g,off+j,none⟩=some u :=
 h.2.2.resolve_left (λe=>by omega)
theorem NK{l:List Int}{k:Nat}(h:k<l.length):(di l)[k]?=some (.int .i64 (l.getD k 0)):=by simp[di,h]
theorem Ou{w:World}{B:Nat}{e:TypeId}{n g:Nat}{xs:List Value}(h:w.ownsRow B e 1 (.slice (some ⟨g,0,none⟩) n n) n xs):w.heap[g]?=some (.cells xs.toArray e (0,0))/\xs.length=n:=by
 have h1:=h.1;rcases h.2 with⟨h0,_⟩|⟨g',cap,cur,hv,_,hg,_,_,hs,ht⟩
 .cases h0
 .simp only[Value.slice.injEq,Option.some.injEq,Addr.mk.injEq,true_and,and_true]at hv;obtain⟨rfl,rfl⟩:=hv;have:cur.toList=xs:=by
   rw[<-ht,take_of_length_le];simp only[Array.length_toList,hs];omega
  rw[hg,<-this];exact⟨by simp,by simp only[Array.length_toList,hs];omega⟩
theorem MX{w:World}{B:Nat}{e:TypeId}{n g:Nat}{xs:List Value}(h:w.heap[g]?=some (.cells xs.toArray e (0,0)))(hl:xs.length=n)(hB:B<=g)(hm:n<=maxLen):w.ownsRow B e 1 (.slice (some ⟨g,0,none⟩) n n) n xs :=
 ⟨by omega,zq1 ⟨g,n,xs.toArray,rfl,hB,h,zq4 _,hm,by simp[hl],by simp[<-hl]⟩⟩
section
variable {P:Program} {w:World}
theorem lG {ops:Array Oper} {rest:List Oper} {o:Oper} {a:Act} {Q:Exit->Act->World->Prop}
  (hg:o.guard=none) (s x:Operand) (t:TypeId) (dV:o.op=Op.call { callee:=Callee.builtin Builtin.append,args:=#[s,x],argTypes:=#[t,t] })
  (base:Nat) (e:TypeId) (i:TypeInfo) (z:Value) (size bytes:Nat) (ht:P.underlying t=some (.slice e)) (hi:P.info? e=some i) (hz:i.zero=some z)
  (iD:i.size=size) (DT:i.bytes=bytes) (Jt:z.cells.size=size) (jO:0<size)
  (v:Value) (n:Nat) (xs:List Value) (hs:a.eval s=v) (aN:w.ownsRow base e size v n xs)
  (xv:Value) (m:Nat) (news:List Value) (hx:a.eval x=xv) (hL:nB w xv size m news) (h1:∀u∈news,u.oneCell'=true)
  (IJ:n+m<=1000000) (hb:bytes<=1000) (jx:base<=w.heap.size)
  (hK:∀v' w',w'.ownsRow base e size v' (n+m) (xs++news)->w.grownBy w' v.ownBlock->wpList P ops Q rest (a.put o.dst v') w') :
  wpList P ops Q (o::rest) a w:=by
 have hbytes:(n+m)*bytes<=140737488355328:=zq3 (Nat.mul_le_mul IJ hb) (by decide);obtain⟨hl,_,(⟨rfl,rfl⟩|⟨g,off,cap,rfl,hn,hm,hc⟩)⟩:=hL
 .have:news=[]:=eq_nil_of_length_eq_zero (by omega);subst this;refine wpList_append_own_none hg s x t dV base e i size ht hi v n xs hs aN hx ?_;exact hK v w (by simpa using aN) ⟨rfl,rfl,rfl,zq4 _,λ_ _ _=>rfl⟩
 .refine wpList_append_own w hg s x t dV base e i z size bytes ht hi hz iD DT Jt jO v n xs hs aN ⟨g,off,none⟩ m cap news hx hl (λj u hj=>?_) h1 (by unfold maxLen;omega) hbytes jx (λv' w' r1 r2 _=>hK v' w' r1 r2);rw[show(⟨g,off,none⟩:Addr).add j=⟨g,off+j,none⟩ by unfold Addr.add;split <;> simp_all];exact hc j u hj
end
theorem afp(l:List ByteArray):∀u∈l.map Value.string,u.oneCell'=true:=by
 intro u hu;simp only[mem_map]at hu;obtain⟨b,_,rfl⟩:=hu;rfl
theorem NL(l:List Int):∀u∈di l,u.oneCell'=true:=by
 intro u hu;simp only[di,mem_map]at hu;obtain⟨b,_,rfl⟩:=hu;rfl
theorem infoInt:(prog.info? 3).map (λi=>(i.zero,i.size,i.bytes))=some (some (.int .i64 0),1,8):=by kernel_rfl
def B9(ad nx:List Int):List Nat->Int->Int->Prop
 |[],_,_=>False
 |[k],v,e=>ad.getD k 0=v/\nx.getD k 0=e
 |k::k2::r,v,e=>ad.getD k 0=v/\B9 ad nx (k2::r) (nx.getD k 0) e
theorem EV{ad nx:List Int}{k:Nat}{r:List Nat}{v e:Int}(h:B9 ad nx (k::r) v e):ad.getD k 0=v:=by
 cases r with
 |nil=>exact h.1
 |cons k2 r=>exact h.1
def tk:List Bool->List Nat->Option (List Bool)
 |fr,[]=>some fr
 |fr,k::r=>if fr.getD k false=true then tk (fr.set k false) r else none
theorem aaa:∀{p:List Nat} {fr fr':List Bool},tk fr p=some fr'->fr'.length=fr.length:=by
 intro p;induction p with
 |nil=>intro fr fr' h;cases h;rfl
 |cons k r ih =>
  intro fr fr' h;simp only[tk]at h;split at h
  .rw[ih h];simp
  .cases h
theorem uz(p q:List Nat)(fr:List Bool):tk fr (p++q)=(tk fr p).bind (λf=>tk f q):=by
 induction p generalizing fr with
 |nil=>rfl
 |cons k r ih =>
  simp only[cons_append,tk];split
  .exact ih _
  .rfl
theorem Ux(fr:List Bool)(j k:Nat)(r:List Nat):tk fr (j::k::r)=tk fr (k::j::r):=by
 have hg:∀(a b:Nat),(fr.set a false).getD b false=(if a=b then false else fr.getD b false):=by
  intro a b;simp only[getD_eq_getElem?_getD,getElem?_set];by_cases h:a=b
  .subst h;rw[if_pos rfl,if_pos rfl];split <;> rfl
  .rw[if_neg h,if_neg h]
 simp only[tk,hg];by_cases h:j=k
 .subst h;rfl
 .have h2:¬ k=j:=λe=>h e.symm;simp only[if_neg h,if_neg h2,set_comm _ _ h];by_cases a1:fr.getD j false=true
  .by_cases a2:fr.getD k false=true
   .simp only[if_pos a1,if_pos a2]
   .simp only[if_pos a1,if_neg a2]
  .by_cases a2:fr.getD k false=true
   .simp only[if_neg a1,if_pos a2]
   .simp only[if_neg a1,if_neg a2]
theorem Ht{p q:List Nat}(h:p.Perm q):∀fr,tk fr p=tk fr q:=by
 induction h with
 |nil=>intro fr;rfl
 |cons k _ ih=>intro fr;simp only[tk];split;exact ih _;rfl
 |swap j k r=>intro fr;exact Ux fr k j r
 |trans _ _ h1 h2=>intro fr;rw[h1,h2]
theorem Gc{fr:List Bool}{k:Nat}(h:fr.getD k false=true):k<fr.length:=by
 rcases Nat.lt_or_ge k fr.length with h1|h1
 .exact h1
 .simp[getD_eq_getElem?_getD,getElem?_eq_none h1]at h
theorem Hk{ad nx:List Int}:∀{p q:List Nat} {v m e:Int},B9 ad nx p v m->B9 ad nx q m e->B9 ad nx (p++q) v e:=by
 intro p;induction p with
 |nil=>intro q v m e h;exact h.elim
 |cons k r ih =>
  intro q v m e hp hq;cases q with
  |nil=>exact hq.elim
  |cons j q =>
   cases r with
   |nil =>
    have h1:ad.getD k 0=v/\nx.getD k 0=m:=hp;show ad.getD k 0=v/\B9 ad nx (j::q) (nx.getD k 0) e;exact⟨h1.1,by rw[h1.2];exact hq⟩
   |cons k2 r =>
    have h1:ad.getD k 0=v/\B9 ad nx (k2::r) (nx.getD k 0) m:=hp;show ad.getD k 0=v/\B9 ad nx (k2::(r++j::q)) (nx.getD k 0) e;exact⟨h1.1,ih h1.2 hq⟩
theorem zs{ad nx:List Int}{p:List Nat}{v e:Int}(h:B9 ad nx p v e):p≠[]:=by
 rintro rfl;exact h
def pf(ad nx:List Int)(val:Nat->Int):List Pr->List Bool->Prop
 |[],fr=>fr.any id=false
 |p::r,fr=>∃q fr',B9 ad nx q (val p.l) (val p.r)/\tk fr q=some fr'/\(p.k≠4->q.length=1)/\pf ad nx val r fr'
theorem Ap{ad nx:List Int}{val:Nat->Int}{a b:Pr}{r:List Pr}{fr:List Bool}(h:pf ad nx val (a::b::r) fr):pf ad nx val (b::a::r) fr:=by
 obtain⟨p,f1,h1,h2,h3,q,f2,h4,h5,h6,h7⟩:=h;have e1:tk fr (p++q)=some f2:=by rw[uz,h2];exact h5
 rw[Ht perm_append_comm,uz]at e1;obtain⟨f3,e2,e3⟩:=Option.bind_eq_some_iff.1 e1;exact⟨q,f3,h4,e2,h6,p,f2,h1,e3,h3,h7⟩
theorem KO{ad nx:List Int}{val:Nat->Int}{a:Pr}{r r':List Pr}(h:∀fr,pf ad nx val r fr->pf ad nx val r' fr){fr:List Bool}(h2:pf ad nx val (a::r) fr):pf ad nx val (a::r') fr:=by
 obtain⟨p,f1,h3,h4,h5,h6⟩:=h2;exact⟨p,f1,h3,h4,h5,h _ h6⟩
theorem sy{ad nx:List Int}{val:Nat->Int}{l l':List Pr}(h:l.Perm l'):∀{fr:List Bool},pf ad nx val l fr->pf ad nx val l' fr:=by
 induction h with
 |nil=>intro fr h;exact h
 |cons k _ ih=>intro fr hd;exact KO (λ_ h=>ih h) hd
 |swap j k r=>intro fr hd;exact Ap hd
 |trans _ _ h1 h2=>intro fr hd;exact h2 (h1 hd)
theorem Aq{ad nx:List Int}{val:Nat->Int}:∀{l:List Pr} {fr:List Bool},pf ad nx val l fr->∃P:Nat->List Nat,(∀i,i<l.length->B9 ad nx (P i) (val (l.getD i az).l) (val (l.getD i az).r)/\((l.getD i az).k≠4->(P i).length=1))/\∃fr',tk fr ((range l.length).flatMap P)=some fr'/\fr'.any id=false:=by
 intro l;induction l with
 |nil=>intro fr h;exact⟨λ_=>[],λi hi=>by simp at hi,fr,rfl,h⟩
 |cons a l ih =>
  rintro fr ⟨q,f1,h1,h2,h3,h4⟩;obtain⟨P,hP,f2,g1,g2⟩:=ih h4;refine⟨λi=>match i with|0=>q|j+1=>P j,λi hi=>?_,f2,?_,g2⟩
  .cases i with
   |zero=>exact⟨h1,h3⟩
   |succ j=>simpa using hP j (by simpa using hi)
  .rw[length_cons,range_succ_eq_map,flatMap_cons,uz,h2,flatMap_map];exact g1
theorem Re{ad nx:List Int}{val:Nat->Int}{V:CF}{P:Nat->List Nat}(hP:∀i,i<V.ow.length->B9 ad nx (P i) (val (V.ow.getD i az).l) (val (V.ow.getD i az).r)/\((V.ow.getD i az).k≠4->(P i).length=1)):∀{L:List Nat} {a e:Nat},(∀i∈L,i<V.ow.length)->Xw V L a e->B9 ad nx (L.flatMap P) (val a) (val e):=by
 intro L;induction L with
 |nil=>intro a e _ h;exact h.elim
 |cons i L ih =>
  intro a e hi h;have h1:=(hP i (hi i (by simp))).1;cases L with
  |nil =>
   obtain⟨g1,g2⟩:=h;rw[g1,g2]at h1;simpa using h1
  |cons j r =>
   obtain⟨g1,g2⟩:=h;rw[g1]at h1;rw[flatMap_cons];exact Hk h1 (ih (λk hk=>hi k (by simp[hk])) g2)
theorem Rp{ad nx:List Int}{val sv:Nat->Int}{V T:CF}{b:Nat->Option Nat}{P:Nat->List Nat}(hP:∀i,i<V.ow.length->B9 ad nx (P i) (val (V.ow.getD i az).l) (val (V.ow.getD i az).r)/\((V.ow.getD i az).k≠4->(P i).length=1))(hs:∀c a,b c=some a->sv c=val a):∀{ks fr:List Nat} {f f':List Bool},(∀i∈fr,i<V.ow.length)->ic V T b ks fr->tk f (fr.flatMap P)=some f'->f'.any id=false->pf ad nx sv (ks.map (λk=>T.ow.getD k az)) f:=by
 intro ks;induction ks with
 |nil =>
  intro fr f f' _ hd ht ha;cases hd
  cases ht
  exact ha
 |cons k ks ih =>
  rintro fr f f' f7 ⟨L,rest,h1,⟨a,e,h2,h3,h4⟩,h5,h6⟩ ht ha;have hL:∀i∈L,i<V.ow.length:=λi hi=>f7 i (h1.mem_iff.2 (by simp[hi]));have hr:∀i∈rest,i<V.ow.length:=λi hi=>f7 i (h1.mem_iff.2 (by simp[hi]));rw[Ht (h1.flatMap_right P),flatMap_append,uz]at ht;obtain⟨f1,g1,g2⟩:=Option.bind_eq_some_iff.1 ht;refine⟨L.flatMap P,f1,by rw[hs _ _ h2,hs _ _ h3];exact Re hP hL h4,g1,λh4=>?_,ih hr h6 g2 ha⟩;obtain⟨i,rfl,hi⟩:=h5 h4;have:=(hP i (hL i (by simp))).2 hi;simpa using this
structure Va(ad nx:List Int)(val:Nat->Int)(V:CF):Prop where
 nl:val (V.cl.getD 0 0)=0
 ap:∀p∈V.ap,val p.l≠val p.r
 sp:pf ad nx val V.ow (replicate ad.length true)
theorem zA{fr fr':List Bool}{p:List Nat}(h:tk fr p=some fr'):∀k∈p,fr.getD k false=true:=by
 induction p generalizing fr with
 |nil=>intro k hk;cases hk
 |cons j r ih =>
  simp only[tk]at h;by_cases hf:fr.getD j false=true
  .rw[if_pos hf]at h;intro k hk;rcases mem_cons.1 hk with rfl|hk
   .exact hf
   .have:=ih h k hk;by_cases e:j=k
    .rw[<-e];exact hf
    .simpa[getD_eq_getElem?_getD,getElem?_set,e] using this
  .rw[if_neg hf]at h;cases h
theorem Pk{fr fr':List Bool}{p:List Nat}(h:tk fr p=some fr'):p.Nodup:=by
 induction p generalizing fr with
 |nil=>exact nodup_nil
 |cons j r ih =>
  simp only[tk]at h;by_cases hf:fr.getD j false=true
  .rw[if_pos hf]at h;refine nodup_cons.2 ⟨λhj=>?_,ih h⟩;have:=zA h j hj;simp only[getD_eq_getElem?_getD,getElem?_set]at this;simp at this;split at this <;> simp_all
  .rw[if_neg hf]at h;cases h
theorem Va.heads{ad nx:List Int}{val:Nat->Int}{V:CF}(h:Va ad nx val V)(hd:ad.Nodup)(hp:∀v∈ad,0<v):
  (∀i,i<V.ow.length->0<val (V.ow.getD i az).l)/\(∀i j,i<V.ow.length->j<V.ow.length->i≠j->val (V.ow.getD i az).l≠val (V.ow.getD j az).l):=by
 obtain⟨P,hP,f',ht,_⟩:=Aq h.sp;have hhd:∀i,i<V.ow.length->∃k,k∈P i/\k<ad.length/\ad.getD k 0=val (V.ow.getD i az).l:=by
  intro i hi;have h1:=(hP i hi).1;cases hpi:P i with
  |nil=>rw[hpi]at h1;exact h1.elim
  |cons k r =>
   rw[hpi]at h1;have h2:=zA ht k (mem_flatMap.2 ⟨i,mem_range.2 hi,by rw[hpi];simp⟩);have h3:=Gc h2;exact⟨k,by simp,by simpa using h3,EV h1⟩
 refine⟨λi hi=>?_,λi j hi hj hij=>?_⟩
 .obtain⟨k,_,hk,e⟩:=hhd i hi;rw[<-e];have:ad.getD k 0=ad[k]:=by simp[hk]
  rw[this];exact hp _ (getElem_mem hk)
 .obtain⟨k,I8,hk,e⟩:=hhd i hi;obtain⟨k',ajH,Gl,e'⟩:=hhd j hj;rw[<-e,<-e'];have aM:k≠k':=by
   rintro rfl;have hn:=Pk ht;have hcount:∀(l:List Nat),l.Nodup->i∈l->j∈l->¬ (l.flatMap P).Nodup:=by
    intro l hl hi hj hn;have h1:=perm_cons_erase hi;have h2:j∈l.erase i:=(mem_erase_of_ne (λe=>hij e.symm)).2 hj;have h3:=(h1.flatMap_right P).nodup_iff.1 hn;rw[flatMap_cons,nodup_append]at h3;exact h3.2.2 k I8 k (mem_flatMap.2 ⟨j,h2,ajH⟩) rfl
   exact hcount _ nodup_range (mem_range.2 hi) (mem_range.2 hj) hn
  intro e2;have ea:ad.getD k 0=ad[k]:=by simp[hk]
  have eb:ad.getD k' 0=ad[k']:=by simp[Gl]
  rw[ea,eb]at e2;exact aM ((getElem_inj hd).1 e2)
theorem FN{ad nx:List Int}{val:Nat->Int}{V:CF}(h:Va ad nx val V)(hd:ad.Nodup)(hp:∀v∈ad,0<v){a b:Nat}(hb:ew V a b=true):val a≠val b:=by
 unfold ew at hb;by_cases e:a=b
 .rw[if_pos e]at hb;cases hb
 .rw[if_neg e,Bool.or_eq_true]at hb;obtain⟨h1,h2⟩:=h.heads hd hp;rcases hb with hb|hb
  .obtain⟨p,hp,hx⟩:=any_eq_true.1 hb;simp only[Bool.or_eq_true,Bool.and_eq_true,beq_iff_eq]at hx;have:=h.ap p hp;rcases hx with⟨rfl,rfl⟩|⟨rfl,rfl⟩
   .exact this
   .exact λe=>this e.symm
  .unfold qJ at hb;simp only[Bool.or_eq_true,Bool.and_eq_true,beq_iff_eq]at hb;have hn:=h.nl;rcases hb with⟨ha,hb|hb⟩|⟨hb,ha⟩
   .obtain⟨i,hi⟩:=Option.isSome_iff_exists.1 ha;obtain⟨j,hj⟩:=Option.isSome_iff_exists.1 hb;obtain⟨i1,i2⟩:=jr hi;obtain⟨j1,j2⟩:=jr hj;have hij:i≠j:=(by rintro rfl;exact e (i2.symm.trans j2));have:=h2 i j i1 j1 hij;rw[i2,j2]at this;exact this
   .obtain⟨i,hi⟩:=Option.isSome_iff_exists.1 ha;obtain⟨i1,i2⟩:=jr hi;have:=h1 i i1;rw[i2]at this;rw[hb,hn];omega
   .obtain⟨j,hj⟩:=Option.isSome_iff_exists.1 hb;obtain⟨j1,j2⟩:=jr hj;have:=h1 j j1;rw[j2]at this;rw[ha,hn];omega
def Sat(ad nx:List Int)(av:Nat->Int)(an:List (Option Nat))(T:CF):Prop :=
 ∃sv:Nat->Int,(∀c a,an.getD c none=some a->sv c=av a)/\(∀p∈T.ap,sv p.l≠sv p.r)/\pf ad nx sv T.ow (replicate ad.length true)
def sI(V T:CF)(an:List (Option Nat))(st:Int):SS:=⟨an,replicate V.ow.length none,V.ow.length,replicate T.ow.length false,st⟩
def fit(V T:CF)(an:List (Option Nat))(st:Int):Bool × SS:=xq (wk V T (V.ow.length+1)) V T (sI V T an st) 0
theorem DC(val:Nat->Int)(b:Nat->Option Nat):∀n:Nat,∃M:Int,∀c,c<n->∀a,b c=some a->val a<M:=by
 intro n;induction n with
 |zero=>exact⟨0,λc hc=>by omega⟩
 |succ n ih =>
  obtain⟨M,hM⟩:=ih;cases hb:b n with
  |none=>exact⟨M,λc hc a ha=>by
    by_cases e:c=n
    .rw[e,hb]at ha;cases ha
    .exact hM c (by omega) a ha⟩
  |some x=>exact⟨max M (val x+1),λc hc a ha=>by
    by_cases e:c=n
    .rw[e,hb]at ha;cases ha;omega
    .have:=hM c (by omega) a ha;omega⟩
def svl(b:Nat->Option Nat)(val:Nat->Int)(M:Int)(c:Nat):Int:=match b c with|some a=>val a|none=>M+c
theorem jJ{b:Nat->Option Nat}{val:Nat->Int}{M:Int}{c a:Nat}(h:b c=some a):svl b val M c=val a:=by unfold svl;rw[h]
theorem oS{b:Nat->Option Nat}{val:Nat->Int}{M:Int}{c:Nat}(h:b c=none):svl b val M c=M+c:=by unfold svl;rw[h]
theorem RI{ad nx:List Int}{val:Nat->Int}{V T:CF}(h:Va ad nx val V)(hd:ad.Nodup)(hp:∀v∈ad,0<v)(hT:Rm T){an:List (Option Nat)}(CQ:an.length=24){st:Int}{s':SS}(hf:fit V T an st=(true,s')):Sat ad nx val an T:=by
 have Jp:uP (sI V T an st)=range T.ow.length:=by
  unfold uP sI;simp only[length_replicate];rw[filter_eq_self];intro k hk;have:=mem_range.1 hk;simp[getD_eq_getElem?_getD,this]
 have f7:qm (sI V T an st)=range V.ow.length:=by
  unfold qm sI;simp only[length_replicate];rw[filter_eq_self];intro k hk;have:=mem_range.1 hk;simp[getD_eq_getElem?_getD,this]
 have hw:Wf V T (sI V T an st):=⟨by simp[sI],by simp[sI],CQ,by rw[f7];simp[sI]⟩;obtain⟨he,fQ,CL,hdl⟩:=(zh hT (Cu hT _) _ _ hw (by rw[Jp];simp) _ _ hf).2 rfl;rw[Jp,f7]at hdl;obtain⟨M,hM⟩:=DC val s'.b 24;have ar:∀c a,s'.b c=some a->c<24:=by
  intro c a hc;rcases Nat.lt_or_ge c 24 with h|h
  .exact h
  .unfold SS.b at hc;rw[getD_eq_getElem?_getD,getElem?_eq_none (by omega)]at hc;cases hc
 obtain⟨P,hP,f',ht,ha⟩:=Aq h.sp;refine⟨svl s'.b val M,λc a hc=>jJ (he c a hc),λp hpp=>?_,?_⟩
 .have:=all_eq_true.1 fQ p hpp;simp only[Bool.and_eq_true,bne_iff_ne]at this;obtain⟨aM,hx⟩:=this;cases h1:s'.b p.l with
  |none =>
   cases h2:s'.b p.r with
   |none=>rw[oS h1,oS h2];omega
   |some y=>have:=hM _ (ar _ _ h2) _ h2;rw[oS h1,jJ h2];omega
  |some x =>
   cases h2:s'.b p.r with
   |none=>have:=hM _ (ar _ _ h1) _ h1;rw[jJ h1,oS h2];omega
   |some y=>rw[h1,h2]at hx;rw[jJ h1,jJ h2];exact FN h hd hp hx
 .have:=Rp (sv:=svl s'.b val M) hP (λc a hc=>jJ hc) (λi hi=>mem_range.1 hi) hdl ht ha;have e:(range T.ow.length).map (λk=>T.ow.getD k az)=T.ow:=by
   apply ext_getElem (by simp);intro n h1 h2;simp[h2]
  rwa [e]at this
def vw(F:CF)(l:List Pr):CF:=⟨F.cl,F.ap,l⟩
theorem Cf{l:List Pr}{i:Nat}(hi:i<l.length)(x:Pr):(l.set i x).Perm (x::(l.take i++l.drop (i+1))):=by
 rw[set_eq_take_append_cons_drop,if_pos hi];exact perm_middle
theorem JQ{l:List Pr}{i:Nat}(hi:i<l.length):l.Perm (l.getD i az::(l.take i++l.drop (i+1))):=by
 have h1:=Cf hi (l.getD i az);rwa [iK]at h1
theorem aag{y:py}{T V:CF}(hT:Rm T)(hA:RmA T)(yw:T.ow.length<=1000000)(Yl:V.ow.length<=1000000):∀m,WkC y T V m (wk V T m):=by
 intro m;induction m with
 |zero=>intro w s k at_ count _ _ h;omega
 |succ m ih=>exact JY hT Yl ih (tY hT hA yw Yl ih)
def Sq(w:World)(q f t:Nat)(an:List (Option Nat))(st:Int):Prop :=
 ∃(mid:List Value) (vv ov uv pv:Value),Ob w 202 55 q (fK f t an++(mid++[vv,ov,uv,pv,.int .i64 st]))/\mid.length=24/\an.length=24
theorem Ob.some{w:World}{T n A:Nat}{xs:List Value}(h:Ob w T n A xs){j:Nat}(hj:j<n):(∃u,w.cell? ⟨A,j,none⟩=some u)/\w.frozen? ⟨A,j,none⟩=false:=by
 refine⟨?_,ownsRow.frozenAt h j⟩;have hl:j<xs.length:=by have:=h.1;omega
 exact⟨xs[j],by rw[ownsRow.cellAt h j (by omega)];simp[hl]⟩
theorem Ob.set{w:World}{T n A:Nat}{xs:List Value}(h:Ob w T n A xs)(j:Nat)(u:Value):Ob (w.setCell ⟨A,j,none⟩ u) T n A (xs.set j u):=(ownsRow.stored h j u).1
theorem Ob.alloc{w:World}{T n A:Nat}{xs:List Value}(h:Ob w T n A xs)(o:Obj):Ob (w.alloc o) T n A xs:=h.of_eq (heap_alloc _ _ _ (ownsRow.lt h _ rfl).2)
def T8(xs:List Value):Nat->List Value->List Value
 |_,[]=>xs
 |o,v::r=>T8 (xs.set o v) (o+1) r
theorem Ob.setCells{T n A:Nat}:∀(vs:List Value) (o:Nat) {w:World} {xs:List Value},Ob w T n A xs->Ob (w.setCells A o vs) T n A (T8 xs o vs):=by
 intro vs;induction vs with
 |nil=>intro o w xs h;exact h
 |cons v r ih=>intro o w xs h;exact ih (o+1) (h.set o v)
theorem lC:∀(vs a mid c:List Value),mid.length=vs.length->T8 (a++(mid++c)) a.length vs=a++(vs++c):=by
 intro vs;induction vs with
 |nil =>
  intro a mid c h;have:mid=[]:=eq_nil_of_length_eq_zero h;subst this;rfl
 |cons v r ih =>
  intro a mid c h;cases mid with
  |nil=>simp at h
  |cons m mid =>
   have h2:=ih (a++[v]) mid c (by simpa using h);simp only[T8];rw[set_append_right _ _ (zq4 _),Nat.sub_self];simp only[cons_append,set_cons_zero];have e1:a++v::(mid++c)=(a++[v])++(mid++c):=(by simp);have e2:a.length+1=(a++[v]).length:=(by simp);rw[e1,e2,h2];simp
theorem am.setCells{F F':List Nat}{a:World}{b:Nat}(hb:b∈F):∀(vs:List Value) (o:Nat) {w:World},am F a F' w->am F a F' (w.setCells b o vs):=by
 intro vs;induction vs with
 |nil=>intro o w h;exact h
 |cons v r ih=>intro o w h;exact ih (o+1) (h.setCell (zq0 hb) v)
theorem jA{b k:Nat}(hk:k≠b):∀(vs:List Value) (o:Nat) (w:World),(w.setCells b o vs).heap[k]?=w.heap[k]?:=by
 intro vs;induction vs with
 |nil=>intro o w;rfl
 |cons v r ih=>intro o w;exact(ih (o+1) _).trans (heap_setCell _ _ _ _ hk)
theorem info24:(prog.info? 199).map (·.size)=some 24:=by kernel_rfl
theorem Ir {w:World} {q f t:Nat} {an:List (Option Nat)} {st:Int} {F T:CF} {l:List Pr} {fav fov tav tov lv:Value} (h:Sq w q f t an st) (hF:dm w f F fav fov) (hT:dm w t T tav tov) (hl:w.ownsRow 0 182 3 lv l.length (aj l)) (qq:l.length<=1000000) (yw:T.ow.length<=1000000)
  (hq:∀k,k∈aG f fav fov++(aG t tav tov++lv.ownBlock.toList)->k≠q) :
  Calls prog 176 #[.pointer (some ⟨q,0,none⟩),lv] w λe w'=>e=.returned (.tuple #[])/\∃v ov pv,Sw w' ⟨q,f,t,v,an,tav,tov,fav,lv,ov,pv⟩ T (vw F l) (sI (vw F l) T an st)/\am [q] w (DK q ov pv) w':=by
 obtain⟨mid,vv,ov0,uv,pv0,m7,YR,CQ⟩:=h;have hq0:w.cell? ⟨q,0,none⟩=some (.pointer (some ⟨f,0,none⟩)):=by rw[ownsRow.cellAt m7 0 (by omega)];rfl
 have Bf:=hF.c5;have hf0:=hF.cls (i:=0) (by omega);have SA:=hF.cls (i:=1) (by omega);have kF:=hF.cls (i:=2) (by omega);have kX:=hF.cls (i:=3) (by omega);have yB:=hF.cls (i:=4) (by omega);unfold eR at hf0 SA kF kX yB;obtain⟨n0,qt⟩:∃x,x=F.cl.getD 0 0:=⟨_,rfl⟩;obtain⟨n1,jg⟩:∃x,x=F.cl.getD 1 0:=⟨_,rfl⟩;obtain⟨n2,nE⟩:∃x,x=F.cl.getD 2 0:=⟨_,rfl⟩;obtain⟨n3,uS⟩:∃x,x=F.cl.getD 3 0:=⟨_,rfl⟩;obtain⟨n4,Ec⟩:∃x,x=F.cl.getD 4 0:=⟨_,rfl⟩;rw[<-qt]at hf0;rw[<-jg]at SA;rw[<-nE]at kF;rw[<-uS]at kX;rw[<-Ec]at yB;obtain⟨fao,fcap,YD⟩:=bm hF.ap;rw[YD]at Bf;have HN:Hid (n0=F.cl.getD 0 0/\n1=F.cl.getD 1 0/\n2=F.cl.getD 2 0/\n3=F.cl.getD 3 0/\n4=F.cl.getD 4 0):=ab ⟨qt,jg,nE,uS,Ec⟩;clear qt jg nE uS Ec;obtain⟨lao,lcap,gF,aeh,hln,-⟩:=bn hl;have VO:lcap<=9223372036854775807:=by unfold maxLen at aeh;omega
 have hobA:∀o,Ob (w.alloc o) 202 55 q (fK f t an++(mid++[vv,ov0,uv,pv0,.int .i64 st])):=λo=>Ob.of_eq m7 (heap_alloc _ _ _ (ownsRow.lt m7 _ rfl).2);have aj9:∀o,(w.alloc o).cell? ⟨q,50,none⟩=some vv:=λo=>by
  rw[ownsRow.cellAt (hobA o) 50 (by omega)];rw[getElem?_append_right (by simp[fK,aL,CQ]),getElem?_append_right (by simp[fK,aL,CQ,YR])];simp[fK,aL,CQ,YR]
 have YG:∀o j,(w.alloc o).frozen? ⟨q,j,none⟩=false:=λo j=>ownsRow.frozenAt (hobA o) j;have HF:=ab hF;have HT:=ab hT;have HL:=ab hl;have HQ:=ab hq;have QK:=ab m7;have WP:=ab gF;have WI:=ab YD;rw[gF];clear hF hT hl hq m7 hobA aeh gF YD;go_enter func176,ntmps176;go_wp2_with fail
 go_region
 obtain⟨X,hX⟩:∃X,X=fK f t an++(mid++[vv,ov0,uv,pv0,Value.int IntKind.i64 st]):=⟨_,rfl⟩;obtain⟨w1,qx⟩:∃w1,w1=((w.alloc (Obj.cells #[Value.int IntKind.i64 n0,Value.int IntKind.i64 n1,Value.int IntKind.i64 n2,Value.int IntKind.i64 n3,Value.int IntKind.i64 n4,Value.slice fao F.ap.length fcap,Value.slice lao l.length lcap] 179)).setCell ⟨q,50,none⟩ (Value.pointer (some ⟨w.heap.size,0,none⟩))).drew:=⟨_,rfl⟩;rw[<-qx];have hqs:q<w.heap.size:=(ownsRow.lt (uh QK) _ rfl).2;have Yh:am [q] w [q] w1:=by rw[qx];exact(((am.refl [q] w).alloc _).setCell (zq0 (by simp)) _).drew
 have MD:Ob w1 202 55 q (X.set 50 (.pointer (some ⟨w.heap.size,0,none⟩))):=by
  rw[qx];have h1:=Ob.of_eq (uh QK) (w':=w.alloc (Obj.cells #[Value.int IntKind.i64 n0,Value.int IntKind.i64 n1,Value.int IntKind.i64 n2,Value.int IntKind.i64 n3,Value.int IntKind.i64 n4,Value.slice fao F.ap.length fcap,Value.slice lao l.length lcap] 179)) (heap_alloc _ _ _ hqs);rw[<-hX]at h1;exact Ob.of_eq (ownsRow.stored h1 50 _).1 rfl
 have Bb:∀k,k<w.heap.size->k≠q->w1.heap[k]?=w.heap[k]?:=λk hk aM=>Yh.block k hk (by simpa using aM);have acW:dm w1 w.heap.size (vw F l) fav lv:=by
  refine⟨?_,?_,?_⟩
  .have h1:=ownsRow_lit (base:=0) (e:=179) (size:=7) w #[Value.int IntKind.i64 n0,Value.int IntKind.i64 n1,Value.int IntKind.i64 n2,Value.int IntKind.i64 n3,Value.int IntKind.i64 n4,Value.slice fao F.ap.length fcap,Value.slice lao l.length lcap] 1 (zq5 _) (by simp[maxLen]) rfl;have h2:Ob w1 179 7 w.heap.size [Value.int IntKind.i64 n0,Value.int IntKind.i64 n1,Value.int IntKind.i64 n2,Value.int IntKind.i64 n3,Value.int IntKind.i64 n4,Value.slice fao F.ap.length fcap,Value.slice lao l.length lcap]:=by
    refine Ob.of_eq h1 ?_;rw[qx];exact heap_setCell _ _ _ _ (by show w.heap.size≠q;omega)
   obtain⟨e0,e1,e2,e3,e4⟩:=uh HN;rw[<-uh WI,<-uh WP]at h2;unfold gP eR;rw[show(vw F l).cl=F.cl from rfl,<-e0,<-e1,<-e2,<-e3,<-e4];exact h2
  .exact ae (uh HF).ap (λk hk=>Bb k ((uh HF).ap.lt k hk).2 (uh HQ k (by simp[aG,hk])))
  .exact ae (uh HL) (λk hk=>Bb k ((uh HL).lt k hk).2 (uh HQ k (by simp[hk])))
 have acV:dm w1 t T tav tov:=(uh HT).of_eq (λk hk=>Bb k ((uh HT).lt k hk) (uh HQ k (by simp[hk])));have v9:=ab acW;have v7:=ab acV;have Al:=ab Yh;obtain⟨X1,hX1⟩:∃X1,X1=X.set 50 (.pointer (some ⟨w.heap.size,0,none⟩)):=⟨_,rfl⟩;rw[<-hX1]at MD;have HX1:=ab hX1;have HX:=ab hX;have QG:=ab MD;obtain⟨⟨u52,akr⟩,akL⟩:=MD.some (j:=52) (by omega);have ac1:=MD.set 52 (.int .i64 (l.length:Int));have YS:=run_make_row' (P:=prog) 29 3 (.int .i64 0) 8 underlying29 infoInt rfl .i64 .i64 l.length (by omega) (by omega);obtain⟨⟨u51,akq⟩,akK⟩:=(ac1.alloc (.cells (madeCells #[.int .i64 0] l.length) 3)).some (j:=51) (by omega);clear acW acV Yh hX1 hX MD ac1 Bb hq0 Bf hf0 SA kF kX yB aj9 YG;have PX:=ab qx;clear qx;go_wp2_with fail
 obtain⟨O,hO⟩:∃O,O=w1.heap.size:=⟨_,rfl⟩;obtain⟨w3,Bw⟩:∃w3,w3=((w1.setCell ⟨q,52,none⟩ (.int .i64 (l.length:Int))).alloc (.cells (madeCells #[Value.int .i64 0] l.length) 3)).setCell ⟨q,51,none⟩ (.slice (some ⟨w1.heap.size,0,none⟩) l.length l.length):=⟨_,rfl⟩;rw[<-Bw,<-hO];have hqO:q<O:=by rw[hO];exact zq6 hqs (uh Al).size
 have Gj:am [q] w1 [q] w3:=by rw[Bw];exact(((am.refl [q] w1).setCell (zq0 (by simp)) _).alloc _).setCell (zq0 (by simp)) _
 have adf:am [q] w [q] w3:=(uh Al).trans Gj;have ac2:Ob w3 202 55 q ((X1.set 52 (.int .i64 (l.length:Int))).set 51 (.slice (some ⟨O,0,none⟩) l.length l.length)):=by
  rw[Bw,hO];exact(((uh QG).set 52 _).alloc _).set 51 _
 have VX:w3.ownsRow 0 3 1 (.slice (some ⟨O,0,none⟩) l.length l.length) l.length (replicate l.length (.int .i64 0)):=by
  have h1:=ownsRow_lit (base:=0) (e:=3) (size:=1) (w1.setCell ⟨q,52,none⟩ (.int .i64 (l.length:Int))) (madeCells #[Value.int .i64 0] l.length) l.length (zq5 _) (by simp[maxLen];omega) (by simp[madeCells]);rw[toList_madeCells_one]at h1;have e:(w1.setCell ⟨q,52,none⟩ (.int .i64 (l.length:Int))).heap.size=O:=by rw[hO];simp
  rw[e]at h1;refine ae h1 (λk hk=>?_);cases hk
  rw[Bw];exact heap_setCell _ _ _ _ (by show O≠q;omega)
 have aqE:w3.heap.size=O+1:=by rw[Bw,hO];simp
 have aqO:w.heap.size<O:=by
  have:=(uh v9).lt w.heap.size (by simp[aG]);rw[hO];exact this
 have Vv:dm w3 w.heap.size (vw F l) fav lv:=(uh v9).of_eq (λk hk=>Gj.block k ((uh v9).lt k hk) (by
  simp only[mem_singleton];simp only[aG,mem_cons,mem_append,Option.mem_toList]at hk;rcases hk with rfl|hk|hk
  .omega
  .exact uh HQ k (by simp[aG,hk])
  .exact uh HQ k (by simp[hk])))
 have Vu:dm w3 t T tav tov:=(uh v7).of_eq (λk hk=>Gj.block k ((uh v7).lt k hk) (by
  simp only[mem_singleton];exact uh HQ k (by simp[hk])))
 have HV3:=ab Vv;have sm:=ab Vu;have ahX:=ab adf;have HO3:=ab ac2;have CD:=ab VX;have HO:=ab hO;clear Vv Vu adf Gj ac2 VX hO Bw akr akL akq akK YS PX v7 v9 QG Al;go_loopw [4] (λi wr=>∃k:Nat,k<=l.length/\i=.int .i64 k/\Hid (wr.ownsRow 0 3 1 (.slice (some ⟨O,0,none⟩) l.length l.length) l.length (replicate k (.int .i64 (-1))++replicate (l.length-k) (.int .i64 0)))/\Hid (am [O] w3 [O] wr)) (λi _=>l.length-(intOf i).toNat)
 case atStart=>exact⟨0,zq5 _,rfl,ab (by simpa using uh CD),ab (am.refl _ _)⟩
 case round =>
  obtain⟨k,hk,rfl,aF,aE⟩:=hrel;have IQ:Ob wr 202 55 q ((X1.set 52 (.int .i64 (l.length:Int))).set 51 (.slice (some ⟨O,0,none⟩) l.length l.length)):=(uh HO3).of_eq ((uh aE).block q (by omega) (by simp;omega));have apG:X1.length=55:=by
   have h1:=(uh HO3).1;simp only[length_set]at h1;omega
  have h51:wr.cell? ⟨q,51,none⟩=some (.slice (some ⟨O,0,none⟩) l.length l.length):=by
   rw[ownsRow.cellAt IQ 51 (by omega),getElem?_set_self (by simp;omega)]
  by_cases ar:k<l.length
  .have Kh:wr.cell? ⟨O,k,none⟩=some (.int .i64 0):=by
    rw[(uh aF).cellAt k (by omega),getElem?_append_right (by simp),length_replicate,Nat.sub_self,getElem?_replicate,if_pos (by omega)]
   have MZ:=(uh aF).frozenAt k;have gQ:=((uh aF).stored k (.int .i64 (-1))).1;have e:(replicate k (Value.int .i64 (-1))++replicate (l.length-k) (Value.int .i64 0)).set k (Value.int .i64 (-1))=replicate (k+1) (Value.int .i64 (-1))++replicate (l.length-(k+1)) (Value.int .i64 0):=by
    rw[set_append_right k _ (by simp)];simp only[length_replicate,Nat.sub_self];rw[show l.length-k=(l.length-(k+1))+1 by omega,replicate_succ,set_cons_zero,replicate_succ',append_assoc];rfl
   rw[e]at gQ;have ahG:=ab gQ;have HSt:=ab ((uh aE).setCell (p:=⟨O,k,none⟩) (zq0 (by simp)) (.int .i64 (-1)));clear gQ IQ aF aE;go_wp2_with fail
   go_roundw
   case rel=>exact⟨k+1,by omega,by go_num,ahG,HSt⟩
   case measure=>simp[intOf];omega
  .have hd:decide ((k:Int)<(l.length:Int))=false:=(by simp;omega);have gy:k=l.length:=(by omega);subst gy;have SV:wr.cell? ⟨q,1,none⟩=some (.pointer (some ⟨t,0,none⟩)):=by
    rw[ownsRow.cellAt IQ 1 (by omega),getElem?_set_ne (by omega),getElem?_set_ne (by omega),uh HX1,getElem?_set_ne (by omega),uh HX];rfl
   have Gg:dm wr t T tav tov:=(uh sm).of_eq (λk hk=>(uh aE).block k ((uh sm).lt k hk) (by
    simp only[mem_singleton];rintro rfl;have:=(uh HT).lt _ hk;omega))
   have IU:=Gg.c6;obtain⟨tao,tcap,m8,aeQ,V4,-⟩:=bn Gg.ow;have V3:tcap<=9223372036854775807:=(by unfold maxLen at aeQ;omega);rw[m8]at IU;have YS:=run_make_row' (P:=prog) 200 4 (.bool false) 1 underlying200 infoBool rfl .i64 .i64 T.ow.length (by omega) (by omega);obtain⟨⟨u53,aqL⟩,aqU⟩:=(IQ.alloc (.cells (madeCells #[.bool false] T.ow.length) 4)).some (j:=53) (by omega);have ao3:=ab m8;have HTr:=ab Gg;have Sc:=(IQ.alloc (.cells (madeCells #[Value.bool false] T.ow.length) 4)).set 53 (Value.slice (some ⟨wr.heap.size,0,none⟩) T.ow.length T.ow.length);have MM:((wr.alloc (.cells (madeCells #[Value.bool false] T.ow.length) 4)).setCell ⟨q,53,none⟩ (Value.slice (some ⟨wr.heap.size,0,none⟩) T.ow.length T.ow.length)).rangeAt q 2 (aW an):=by
    intro j v hj;have ajC:j<24:=by
     have:=(List.getElem?_eq_some_iff.1 hj).1;rw[aL,CQ]at this;exact this
    rw[ownsRow.cellAt Sc (2+j) (by omega),getElem?_set_ne (by omega),getElem?_set_ne (by omega),getElem?_set_ne (by omega),uh HX1,getElem?_set_ne (by omega),uh HX];rw[getElem?_append_left (by simp[fK,aL];omega)];unfold fK;rw[getElem?_append_right (by simp)];simpa[show 2+j-2=j by omega] using hj
   have MO:((wr.alloc (.cells (madeCells #[Value.bool false] T.ow.length) 4)).setCell ⟨q,53,none⟩ (Value.slice (some ⟨wr.heap.size,0,none⟩) T.ow.length T.ow.length)).there q 26 (aW an).toArray.size:=by
    intro j hj;have ajC:j<24:=(by simpa[aL,CQ] using hj);obtain⟨⟨u,hu⟩,hz⟩:=Sc.some (j:=26+j) (by omega);exact⟨by rw[hu];rfl,hz⟩
   have sZ:=Ob.setCells (aW an) 26 Sc;have acU:(prog.info? 199).map (·.size)=some (aW an).length:=(by rw[aL,CQ];exact info24);have Vt:(prog.info? 199).map (·.size)=some (aW an).toArray.size:=(by rw[size_toArray,aL,CQ];exact info24);have ac5:(aW an).toArray.all (·.oneCell')=true:=all_oneCell_toArray (by
    intro v hv;obtain⟨o,_,rfl⟩:=mem_map.1 hv;rfl)
   have HR:=ab MM;have rl:=ab MO;have HI:=ab acU;have db:=ab Vt;have abX:=ab ac5;have Ih:=ab sZ;obtain⟨AN,hAN⟩:∃AN,AN=aW an:=⟨_,rfl⟩;rw[<-hAN]at HR rl HI db abX Ih;have Ws:=ab hAN;clear m8 IQ Gg aeQ Sc MM MO acU Vt ac5 sZ hAN;go_wp2_with (first|refine wpList_load_mid rfl 199 (.tmp 66) rfl q 2 rfl AN _ (uh HR) underlying199 rfl (uh HI) ?_|refine wpList_store_mid rfl 199 (.tmp 69) (.tmp 67) rfl q 26 AN.toArray rfl rfl (uh rl) (uh db) (uh abX) ?_)
   go_end0
   rw[<-uh WP];have Ji:(fK f t an).length=26:=(by simp[fK,aL,CQ]);have hL3:O<wr.heap.size:=(by have:=(uh aE).size;omega);have hobF:Ob (((wr.alloc (Obj.cells (madeCells #[Value.bool false] T.ow.length) 4)).setCell ⟨q,53,none⟩ (Value.slice (some ⟨wr.heap.size,0,none⟩) T.ow.length T.ow.length)).setCells q 26 AN) 202 55 q (lz f t w.heap.size an (sI (vw F l) T an st) (.slice (some ⟨O,0,none⟩) l.length l.length) (.slice (some ⟨wr.heap.size,0,none⟩) T.ow.length T.ow.length)):=by
    have h5:=uh Ih;rw[uh HX1,uh HX]at h5;have cf:∀(tl:List Value) (j:Nat) (u:Value),(fK f t an++(mid++tl)).set (50+j) u=fK f t an++(mid++tl.set j u):=by
     intro tl j u;rw[set_append_right _ _ (by omega),Ji,set_append_right _ _ (by omega),YR,show 50+j-26-24=j by omega]
    have s0:=cf [vv,ov0,uv,pv0,Value.int IntKind.i64 st] 0 (.pointer (some ⟨w.heap.size,0,none⟩));have s1:=cf [.pointer (some ⟨w.heap.size,0,none⟩),ov0,uv,pv0,Value.int IntKind.i64 st] 2 (.int .i64 (l.length:Int));have s2:=cf [.pointer (some ⟨w.heap.size,0,none⟩),ov0,.int .i64 (l.length:Int),pv0,Value.int IntKind.i64 st] 1 (.slice (some ⟨O,0,none⟩) l.length l.length);have s3:=cf [.pointer (some ⟨w.heap.size,0,none⟩),.slice (some ⟨O,0,none⟩) l.length l.length,.int .i64 (l.length:Int),pv0,Value.int IntKind.i64 st] 3 (Value.slice (some ⟨wr.heap.size,0,none⟩) T.ow.length T.ow.length);simp only[set_cons_zero,set_cons_succ,Nat.add_zero,Nat.reduceAdd]at s0 s1 s2 s3;rw[s0,s1,s2,s3,show(26:Nat)=(fK f t an).length from Ji.symm,lC AN (fK f t an) mid _ (by rw[uh Ws,aL];omega)]at h5;rw[show 26=(fK f t an).length from Ji.symm];rw[uh Ws]at h5 ⊢;exact h5
   obtain⟨w5,Bx⟩:∃w5,w5=(((wr.alloc (Obj.cells (madeCells #[Value.bool false] T.ow.length) 4)).setCell ⟨q,53,none⟩ (Value.slice (some ⟨wr.heap.size,0,none⟩) T.ow.length T.ow.length)).setCells q 26 AN):=⟨_,rfl⟩;rw[<-Bx]at hobF ⊢;have fB:∀k,k<wr.heap.size->k≠q->w5.heap[k]?=wr.heap[k]?:=by
    intro k hk aM;rw[Bx,jA aM,heap_setCell _ _ _ _ aM,heap_alloc _ _ _ hk]
   have yy:∀k,k<O->k≠q->w5.heap[k]?=w3.heap[k]?:=λk hk aM=>(fB k (by omega) aM).trans ((uh aE).block k (by omega) (by simp;omega));have eT:∀k,k∈aG t tav tov->k<w.heap.size/\k≠q:=λk hk=>⟨(uh HT).lt k hk,uh HQ k (by simp[hk])⟩;have Nh:∀k,k∈aG w.heap.size fav lv->k<=w.heap.size/\k≠q:=by
    intro k hk;simp only[aG,mem_cons,mem_append,Option.mem_toList]at hk;rcases hk with rfl|hk|hk
    .exact⟨zq4 _,by omega⟩
    .exact⟨Nat.le_of_lt ((uh HF).ap.lt k hk).2,uh HQ k (by simp[aG,hk])⟩
    .exact⟨Nat.le_of_lt ((uh HL).lt k hk).2,uh HQ k (by simp[hk])⟩
   refine⟨rfl,w.heap.size,.slice (some ⟨O,0,none⟩) l.length l.length,.slice (some ⟨wr.heap.size,0,none⟩) T.ow.length T.ow.length,⟨hobF,CQ,CQ,?_,?_,?_,?_,?_,?_,?_⟩,?_⟩
   .have h1:=uh aF;rw[Nat.sub_self]at h1;simp only[replicate_zero,append_nil]at h1;have h2:(sI (vw F l) T an st).ot=replicate l.length none:=rfl;rw[h2];simp only[aW,map_replicate,length_replicate];exact ae h1 (λk hk=>by cases hk;exact fB O hL3 (by omega))
   .have h1:=ownsRow_lit (base:=0) (e:=4) (size:=1) wr (madeCells #[Value.bool false] T.ow.length) T.ow.length (zq5 _) (by simp[maxLen];omega) (by simp[madeCells]);rw[toList_madeCells_one]at h1;have h2:(sI (vw F l) T an st).pl=replicate T.ow.length false:=rfl;rw[h2];simp only[map_replicate,length_replicate];refine ae h1 (λk hk=>?_);cases hk
    have aM:wr.heap.size≠q:=(by omega);rw[Bx,jA aM];exact heap_setCell _ _ _ _ aM
   .show [q,O,wr.heap.size].Nodup;simp;omega
   .exact(uh sm).of_eq (λk hk=>yy k (by have:=(eT k hk).1;omega) (eT k hk).2)
   .exact(uh HV3).of_eq (λk hk=>yy k (by have:=(Nh k hk).1;omega) (Nh k hk).2)
   .intro k hk;have:=eT k hk;show k ∉ [q,O,wr.heap.size];simp;omega
   .intro k hk;have:=Nh k hk;show k ∉ [q,O,wr.heap.size];simp;omega
   .have h1:=uh ahX;have h2:=uh aE;have h3:am [q] wr [q] w5:=(by rw[Bx];exact am.setCells (by simp) _ _ (((am.refl [q] wr).alloc _).setCell (zq0 (by simp)) _));refine⟨h3.os.trans (h2.os.trans h1.os),h3.tape.trans (h2.tape.trans h1.tape),h3.output.trans (h2.output.trans h1.output),zq3 h1.size (zq3 h2.size h3.size),λk hk hF=>?_,λk hk=>?_⟩
    .have aM:k≠q:=(by simpa using hF);exact(yy k (by omega) aM).trans (h1.block k hk hF)
    .have Gl:k∈[q,O,wr.heap.size]:=hk;simp at Gl;simp;omega
theorem Xr{V T:CF}{an:List (Option Nat)}{st:Int}(CQ:an.length=24):Wf V T (sI V T an st)/\(uP (sI V T an st)).length+0=T.ow.length:=by
 have Jp:uP (sI V T an st)=range T.ow.length:=by
  unfold uP sI;simp only[length_replicate];rw[filter_eq_self];intro k hk;have:=mem_range.1 hk;simp[getD_eq_getElem?_getD,this]
 have f7:qm (sI V T an st)=range V.ow.length:=by
  unfold qm sI;simp only[length_replicate];rw[filter_eq_self];intro k hk;have:=mem_range.1 hk;simp[getD_eq_getElem?_getD,this]
 exact⟨⟨by simp[sI],by simp[sI],CQ,by rw[f7];simp[sI]⟩,by rw[Jp];simp⟩
structure Se(w:World)(q f t:Nat)(an:List (Option Nat))(F T:CF)(fav fov tav tov:Value)(st:Int):Prop where
 sq:Sq w q f t an st
 ff:dm w f F fav fov
 ft:dm w t T tav tov
 nf:∀k∈aG f fav fov,k≠q
 nt:∀k∈aG t tav tov,k≠q
theorem Mf{w:World}{q f t:Nat}{an:List (Option Nat)}{st:Int}{F T:CF}{l:List Pr}{fav fov tav tov lv:Value}(h:Se w q f t an F T fav fov tav tov st)(hl:w.ownsRow 0 182 3 lv l.length (aj l))(hlq:∀k,lv.ownBlock=some k->k≠q)(qq:l.length<=1000000)(yw:T.ow.length<=1000000)(hR:Rm T)(hA:RmA T):
  Calls prog 153 #[.pointer (some ⟨q,0,none⟩),lv] w λe w'=>e=.returned (.bool (fit (vw F l) T an st).1)/\∃v ov pv,Sw w' ⟨q,f,t,v,an,tav,tov,fav,lv,ov,pv⟩ T (vw F l) (fit (vw F l) T an st).2/\am [q] w (DK q ov pv) w'/\(∀k∈DK q ov pv,k=q\/w.heap.size<=k):=by
 have HB:=ab (Ir h.sq h.ff h.ft hl qq yw (λk hk=>by
  simp only[mem_append,Option.mem_toList]at hk;rcases hk with hk|hk|hk
  .exact h.nf k hk
  .exact h.nt k hk
  .exact hlq k hk))
 have CQ:an.length=24:=by obtain⟨_,_,_,_,_,_,_,h2⟩:=h.sq;exact h2
 have HP:=ab (λy=>tY (y:=y) (T:=T) (V:=vw F l) hR hA yw qq (m:=l.length+1) (aag hR hA yw qq _));obtain⟨hwf,Jp⟩:=Xr (V:=vw F l) (T:=T) (an:=an) (st:=st) CQ;have HW:=ab hwf;have HU:=ab Jp;clear h hl hlq hwf Jp;go_enter func153,ntmps153;go_wp2_with fail
 refine(uh HB).mono ?_;rintro e w1 ⟨rfl,v,ov,pv,bE,kW⟩;have bC:=ab bE;have v7:=ab kW;clear bE kW;go_wp2_with fail
 refine(uh HP ⟨q,f,t,v,an,tav,tov,fav,lv,ov,pv⟩ w1 (sI (vw F l) T an st) 0 (uh bC) (uh HW) (by show l.length<l.length+1;omega) (uh HU)).mono ?_;rintro e w2 ⟨rfl,bK,hT2⟩;have bz:=ab bK;have mz:=ab hT2;clear bK hT2;go_wp2_with fail
 go_ret;refine⟨rfl,v,ov,pv,uh bz,(uh v7).trans (uh mz),λk hk=>?_⟩;rcases(uh v7).foot k hk with h1|h1
 .exact zq0 (by simpa using h1)
 .exact zq1 h1
theorem j7{l:List Pr}{i:Nat}(hi:i<l.length)(k:Nat):(aj l).set (i*3) (.int .i64 (k:Int))=aj (l.set i ⟨k,(l.getD i az).l,(l.getD i az).r⟩):=by
 induction l generalizing i with
 |nil=>simp at hi
 |cons x l ih =>
  have hx:∀y:Pr,aj (y::l)=[Value.int .i64 y.k,.int .i64 y.l,.int .i64 y.r]++aj l:=λy=>rfl;cases i with
  |zero=>rw[hx,set_cons_zero,hx];rfl
  |succ i =>
   have h1:=ih (i:=i) (by simpa using hi);rw[hx,set_append_right _ _ (by simp;omega),set_cons_succ];show _=[Value.int .i64 x.k,.int .i64 x.l,.int .i64 x.r]++aj _;rw[show(i+1)*3 - [Value.int .i64 (x.k:Int),.int .i64 (x.l:Int),.int .i64 (x.r:Int)].length=i*3 by simp;omega,h1];rfl
theorem ej{l:List Pr}{i:Nat}(hi:i<l.length)(r:Nat):(aj l).set (i*3+2) (.int .i64 (r:Int))=aj (l.set i ⟨(l.getD i az).k,(l.getD i az).l,r⟩):=by
 induction l generalizing i with
 |nil=>simp at hi
 |cons x l ih =>
  have hx:∀y:Pr,aj (y::l)=[Value.int .i64 y.k,.int .i64 y.l,.int .i64 y.r]++aj l:=λy=>rfl;cases i with
  |zero=>rw[hx,set_cons_zero,hx];rfl
  |succ i =>
   have h1:=ih (i:=i) (by simpa using hi);rw[hx,set_append_right _ _ (by simp;omega),set_cons_succ];show _=[Value.int .i64 x.k,.int .i64 x.l,.int .i64 x.r]++aj _;rw[show(i+1)*3+2 - [Value.int .i64 (x.k:Int),.int .i64 (x.l:Int),.int .i64 (x.r:Int)].length=i*3+2 by simp;omega,h1];rfl
theorem lx(l:List Pr):∀u∈aj l,u.oneCell'=true:=by
 intro u hu;simp only[aj,mem_flatMap]at hu;obtain⟨a,_,ha⟩:=hu;simp only[TN,mem_cons,not_mem_nil,or_false]at ha;rcases ha with rfl|rfl|rfl <;> rfl
theorem infoPair:(prog.info? 182).map (λi=>(i.zero,i.size,i.bytes))=some (some (.agg #[.int .i64 0,.int .i64 0,.int .i64 0]),3,24):=by kernel_rfl
theorem dm.below{w w':World}{A:Nat}{f:CF}{av ov:Value}(h:dm w A f av ov)(hb:Below w.heap.size w w'):dm w' A f av ov:=h.of_eq (λk hk=>hb.block k (h.lt k hk))
theorem afi{w w':World}{B:Nat}{e:TypeId}{sz n:Nat}{v:Value}{xs:List Value}(h:w.ownsRow B e sz v n xs)(hb:Below w.heap.size w w'):w'.ownsRow B e sz v n xs:=ae h (λk hk=>hb.block k (h.lt k hk).2)
theorem am.blk{q:Nat}{w w':World}{F:List Nat}(h:am [q] w F w'):∀k,k<w.heap.size->k≠q->w'.heap[k]?=w.heap[k]?:=λk hk aM=>h.block k hk (by simpa using aM)
def yg(F T:CF):List Nat->List (Option Nat)->Option (List (Option Nat))
 |[],an=>some an
 |i::r,an=>if an.getD (T.cl.getD i 0) none≠none/\an.getD (T.cl.getD i 0) none≠some (F.cl.getD i 0) then none else yg F T r (an.set (T.cl.getD i 0) (some (F.cl.getD i 0)))
def tm(a:bt):Pr:=⟨a.k,ut a.lk a.li,ut a.rk a.ri⟩
def ij(al:List bt):Prop:=∀a∈al,(tm a).l<13/\(tm a).r<13
structure AtH(ad nx:List Int)(s:Nat->Int)(al:List bt):Prop where
 nl:s 0=0
 eq:∀a∈al,a.k=1->s (tm a).l=s (tm a).r
 ne:∀a∈al,a.k=2->s (tm a).l≠s (tm a).r
 sp:pf ad nx s ((al.filter (λa=>a.k==3||a.k==4)).map tm) (replicate ad.length true)
theorem Fr{ad nx:List Int}{v v':Nat->Int}{f g:bt->Pr}:∀{L:List bt} {fr:List Bool},(∀a∈L,(f a).k=(g a).k/\v (f a).l=v' (g a).l/\v (f a).r=v' (g a).r)->pf ad nx v (L.map f) fr->pf ad nx v' (L.map g) fr:=by
 intro L;induction L with
 |nil=>intro fr _ h;exact h
 |cons a L ih =>
  rintro fr h ⟨q,fr',h1,h2,h3,h4⟩;obtain⟨e1,e2,e3⟩:=h a (by simp);exact⟨q,fr',by rw[<-e2,<-e3];exact h1,h2,λhk=>h3 (by rw[e1];exact hk),ih (λb hb=>h b (by simp[hb])) h4⟩
theorem jw{f:Nat->Nat}{c:List Nat}{i:Nat}(h:i<c.length):(c.map f).getD i 0=f (c.getD i 0):=by simp[h]
theorem y7:∀(al:List bt) (c:List Nat),ij al->c.length=13->(∀i,i<13->c.getD i 0<13)->(al.foldl iG c).length=13/\∀i,i<13->(al.foldl iG c).getD i 0<13:=by
 intro al;induction al with
 |nil=>intro c _ h1 h2;exact⟨h1,h2⟩
 |cons a al ih =>
  intro c ht h1 h2;rw[foldl_cons];have pq:=ht a (by simp);have Ql:ij al:=λb hb=>ht b (by simp[hb]);unfold iG;split
  .refine ih _ Ql (by simpa using h1) (λi hi=>?_);rw[jw (by omega)];split
   .exact h2 _ pq.1
   .exact h2 i hi
  .exact ih _ Ql h1 h2
theorem Tx{s:Nat->Int}:∀(al:List bt) (c:List Nat),ij al->c.length=13->(∀i,i<13->s (c.getD i 0)=s i)->(∀a∈al,a.k=1->s (tm a).l=s (tm a).r)->∀i,i<13->s ((al.foldl iG c).getD i 0)=s i:=by
 intro al;induction al with
 |nil=>intro c _ _ h _;exact h
 |cons a al ih =>
  intro c ht h1 h2 h3;rw[foldl_cons];have pq:=ht a (by simp);have Ql:ij al:=λb hb=>ht b (by simp[hb]);have h3':∀b∈al,b.k=1->s (tm b).l=s (tm b).r:=λb hb=>h3 b (by simp[hb]);unfold iG;split
  .rename_i hk;refine ih _ Ql (by simpa using h1) (λi hi=>?_) h3';rw[jw (by omega)];split
   .rename_i e;have g1:=h2 _ pq.1;have g2:=h2 _ pq.2;have g3:=h3 a (by simp) hk;have g4:=h2 i hi;rw[e]at g4;exact(g1.trans g3).trans (g2.symm.trans g4)
   .exact h2 i hi
  .exact ih _ Ql h1 h2 h3'
theorem N6{i j:Nat}(hi:i<13)(hj:j<13):∀(al:List bt) (c:List Nat),c.length=13->c.getD i 0=c.getD j 0->(al.foldl iG c).getD i 0=(al.foldl iG c).getD j 0:=by
 intro al;induction al with
 |nil=>intro c _ h;exact h
 |cons a al ih =>
  intro c h1 h2;rw[foldl_cons];unfold iG;split
  .exact ih _ (by simpa using h1) (by rw[jw (by omega),jw (by omega),h2])
  .exact ih _ h1 h2
theorem BM(c:List Nat)(a:bt):(iG c a).length=c.length:=by unfold iG;split <;> simp
theorem Zt:∀(al:List bt) (c:List Nat),ij al->c.length=13->∀a∈al,a.k=1->(al.foldl iG c).getD (tm a).l 0=(al.foldl iG c).getD (tm a).r 0:=by
 intro al;induction al with
 |nil=>intro c _ _ a ha;cases ha
 |cons b al ih =>
  intro c ht h1 a ha hk;rw[foldl_cons];have Ql:ij al:=λb hb=>ht b (by simp[hb]);rcases mem_cons.1 ha with rfl|ha
  .have pq:=ht a (by simp);refine N6 pq.1 pq.2 al _ (by rw[BM];exact h1) ?_;unfold iG;rw[if_pos hk,jw (by omega),jw (by omega)];rw[show ut a.rk a.ri=(tm a).r from rfl,show ut a.lk a.li=(tm a).l from rfl,if_pos rfl];split <;> rfl
  .exact ih _ Ql (by rw[BM];exact h1) a ha hk
theorem rW(i:Nat)(h:i<13):(range 13).getD i 0=i:=by simp[h]
theorem y9{al:List bt}(ht:ij al):(iY al).length=13:=(y7 al _ ht (by simp) (λi hi=>by rw[rW i hi];exact hi)).1
theorem j5{al:List bt}(ht:ij al){i:Nat}(hi:i<13):(iY al).getD i 0<13:=(y7 al _ ht (by simp) (λi hi=>by rw[rW i hi];exact hi)).2 i hi
theorem Ez{s:Nat->Int}{al:List bt}(ht:ij al)(h:∀a∈al,a.k=1->s (tm a).l=s (tm a).r){i:Nat}(hi:i<13):s ((iY al).getD i 0)=s i:=Tx al _ ht (by simp) (λi hi=>by rw[rW i hi]) h i hi
theorem kO{al:List bt}{i:Nat}(hi:i<5):(bL al).cl.getD i 0=(iY al).getD i 0:=by
 simp only[bL,getD_eq_getElem?_getD];rw[getElem?_take_of_lt hi]
theorem AtH.mod{ad nx:List Int}{s:Nat->Int}{al:List bt}(ht:ij al)(h:AtH ad nx s al):Va ad nx s (bL al):=by
 have hm:=fun {i:Nat} (hi:i<13)=>Ez ht h.eq hi
 refine⟨by rw[kO (by omega),hm (by omega)];exact h.nl,λp hp=>?_,?_⟩
 .obtain⟨a,ha,rfl⟩:=mem_map.1 hp;obtain⟨ha,hk⟩:=mem_filter.1 ha;have pq:=ht a ha;have:=h.ne a ha (by simpa using hk);show s ((iY al).getD (tm a).l 0)≠s ((iY al).getD (tm a).r 0);rw[hm pq.1,hm pq.2];exact this
 .refine Fr (λa ha=>?_) h.sp;have pq:=ht a (mem_filter.1 ha).1;exact⟨rfl,(hm pq.1).symm,(hm pq.2).symm⟩
theorem LM:∀{ow:List Pr} {seen:List Nat},qL seen ow=true->∃i,i<ow.length/\((ow.getD i az).l∈seen\/∃j,j<i/\(ow.getD j az).l=(ow.getD i az).l):=by
 intro ow;induction ow with
 |nil=>intro seen h;cases h
 |cons p r ih =>
  intro seen h;simp only[qL]at h;by_cases hp:p.l∈seen
  .exact⟨0,by simp,zq0 (by simpa using hp)⟩
  .rw[if_neg hp]at h;obtain⟨i,hi,h1|⟨j,hj,h1⟩⟩:=ih h
   .rcases mem_cons.1 h1 with h1|h1
    .exact⟨i+1,by simp;omega,zq1 ⟨0,by omega,by simpa using h1.symm⟩⟩
    .exact⟨i+1,by simp;omega,zq0 (by simpa using h1)⟩
   .exact⟨i+1,by simp;omega,zq1 ⟨j+1,by omega,by simpa using h1⟩⟩
theorem XG{ad nx:List Int}{val:Nat->Int}{V:CF}(h:Va ad nx val V)(hd:ad.Nodup)(hp:∀v∈ad,0<v):je V=false:=by
 cases hf:je V with
 |false=>rfl
 |true =>
  exfalso;unfold je at hf;rw[Bool.or_eq_true]at hf;obtain⟨h1,h2⟩:=h.heads hd hp;rcases hf with hf|hf
  .obtain⟨p,hp,e⟩:=any_eq_true.1 hf;have:=h.ap p hp;rw[beq_iff_eq.1 e]at this;exact this rfl
  .obtain⟨i,hi,h3|⟨j,hj,h3⟩⟩:=LM hf
   .simp only[mem_singleton]at h3;have:=h1 i hi;rw[h3,h.nl]at this;omega
   .exact h2 j i (by omega) hi (by omega) (by rw[h3])
theorem LL{F T:CF}(hT:∀i,i<5->T.cl.getD i 0<24):∀{is:List Nat} {an an':List (Option Nat)},(∀i∈is,i<5)->an.length=24->yg F T is an=some an' ->
  an'.length=24/\(∀c a,an.getD c none=some a->an'.getD c none=some a)/\(∀i∈is,an'.getD (T.cl.getD i 0) none=some (F.cl.getD i 0))/\(∀c a,an'.getD c none=some a->an.getD c none=some a\/∃i∈is,a=F.cl.getD i 0):=by
 intro is;induction is with
 |nil=>intro an an' _ h h2;cases h2;exact⟨h,λ_ _ h=>h,λi hi=>(by cases hi),λc a h=>zq0 h⟩
 |cons i is ih =>
  intro an an' his h h2;simp only[yg]at h2;by_cases h0:an.getD (T.cl.getD i 0) none≠none/\an.getD (T.cl.getD i 0) none≠some (F.cl.getD i 0)
  .rw[if_pos h0]at h2;cases h2
  .rw[if_neg h0]at h2;obtain⟨g1,g2,g3,g4⟩:=ih (λj hj=>his j (by simp[hj])) (by simpa using h) h2;have cf:∀c,(an.set (T.cl.getD i 0) (some (F.cl.getD i 0))).getD c none=if T.cl.getD i 0=c then some (F.cl.getD i 0) else an.getD c none:=λc=>bS _ _ _ _ _ (by rw[h];exact hT i (his i (by simp)))
   refine⟨g1,λc a hc=>g2 c a ?_,λj hj=>?_,λc a hc=>?_⟩
   .rw[cf];by_cases e:T.cl.getD i 0=c
    .rw[if_pos e];subst e;by_cases e2:a=F.cl.getD i 0
     .rw[e2]
     .exact absurd ⟨by rw[hc];simp,by rw[hc];simpa using e2⟩ h0
    .rw[if_neg e];exact hc
   .rcases mem_cons.1 hj with rfl|hj
    .exact g2 _ _ (by rw[cf,if_pos rfl])
    .exact g3 j hj
   .rcases g4 c a hc with h5|⟨j,hj,h5⟩
    .rw[cf]at h5;by_cases e:T.cl.getD i 0=c
     .rw[if_pos e]at h5;cases h5;exact zq1 ⟨i,by simp,rfl⟩
     .rw[if_neg e]at h5;exact zq0 h5
    .exact zq1 ⟨j,by simp[hj],h5⟩
theorem afc{al:List bt}(ht:ij al):∀p∈(bL al).ow,p.l<13/\p.r<13:=by
 intro p hp;obtain⟨a,ha,rfl⟩:=mem_map.1 hp;have pq:=ht a (mem_filter.1 ha).1;exact⟨j5 ht pq.1,j5 ht pq.2⟩
