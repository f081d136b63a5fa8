import Derived.Test.YtciihepbeacppaaGreatM08
import Derived.Deep.MidRow
import Derived.Deep.OwnRows
set_option maxRecDepth 100000
set_option maxHeartbeats 0
namespace Go.Proofs.YtciihepbeacppaaGreat
open Tryz Go.RowKit List World Below
set_option linter.unusedVariables false
def vT(ad nx:List Int)(val:Nat->Int):List Pr->List Bool->Prop
 |[],fr=>fr.any id=false
 |p::r,fr=>∃q fr',Ix ad nx q (val p.l) (val p.r)/\tk fr q=some fr'/\(p.k≠4->q.length=1)/\vT ad nx val r fr'
theorem AT{ad nx:List Int}{val:Nat->Int}{a b:Pr}{r:List Pr}{fr:List Bool}(h:vT ad nx val (a::b::r) fr):vT ad nx val (b::a::r) fr:=by
 obtain⟨p,f1,h1,h2,h3,q,f2,h4,h5,h6,h7⟩:=h;have e1:tk fr (p++q)=some f2:=by rw[vf,h2];exact h5
 rw[IM perm_append_comm,vf]at e1;obtain⟨f3,e2,e3⟩:=Option.bind_eq_some_iff.1 e1;exact⟨q,f3,h4,e2,h6,p,f2,h1,e3,h3,h7⟩
theorem LA{ad nx:List Int}{val:Nat->Int}{a:Pr}{r r':List Pr}(h:∀fr,vT ad nx val r fr->vT ad nx val r' fr){fr:List Bool}(h2:vT ad nx val (a::r) fr):vT ad nx val (a::r') fr:=by
 obtain⟨p,f1,h3,h4,h5,h6⟩:=h2;exact⟨p,f1,h3,h4,h5,h _ h6⟩
theorem tH{ad nx:List Int}{val:Nat->Int}{l l':List Pr}(h:l.Perm l'):∀{fr:List Bool},vT ad nx val l fr->vT ad nx val l' fr:=by
 induction h with
 |nil=>intro fr h;exact h
 |cons k _ ih=>intro fr hd;exact LA (λ_ h=>ih h) hd
 |swap j k r=>intro fr hd;exact AT hd
 |trans _ _ h1 h2=>intro fr hd;exact h2 (h1 hd)
theorem AU{ad nx:List Int}{val:Nat->Int}:∀{l:List Pr} {fr:List Bool},vT ad nx val l fr->∃P:Nat->List Nat,(∀i,i<l.length->Ix ad nx (P i) (val (l.getD i au).l) (val (l.getD i au).r)/\((l.getD i au).k≠4->(P i).length=1))/\∃fr',tk fr ((range l.length).flatMap P)=some fr'/\fr'.any id=false:=by
 intro l;induction l with
 |nil=>intro fr h;exact⟨λ_=>[],λi hi=>by simp at hi,fr,rfl,h⟩
 |cons a l ih =>
  rintro fr ⟨q,f1,h1,h2,h3,h4⟩;obtain⟨P,hP,f2,g1,g2⟩:=ih h4;refine⟨λi=>match i with|0=>q|j+1=>P j,λi hi=>?_,f2,?_,g2⟩
  .cases i with
   |zero=>exact⟨h1,h3⟩
   |succ j=>simpa using hP j (by simpa using hi)
  .rw[length_cons,range_succ_eq_map,flatMap_cons,vf,h2,flatMap_map];exact g1
theorem R8{ad nx:List Int}{val:Nat->Int}{V:CF}{P:Nat->List Nat}(hP:∀i,i<V.ow.length->Ix ad nx (P i) (val (V.ow.getD i au).l) (val (V.ow.getD i au).r)/\((V.ow.getD i au).k≠4->(P i).length=1)):∀{L:List Nat} {a e:Nat},(∀i∈L,i<V.ow.length)->QT V L a e->Ix ad nx (L.flatMap P) (val a) (val e):=by
 intro L;induction L with
 |nil=>intro a e _ h;exact h.elim
 |cons i L ih =>
  intro a e hi h;have h1:=(hP i (hi i (by simp))).1;cases L with
  |nil =>
   obtain⟨g1,g2⟩:=h;rw[g1,g2]at h1;simpa using h1
  |cons j r =>
   obtain⟨g1,g2⟩:=h;rw[g1]at h1;rw[flatMap_cons];exact Iy h1 (ih (λk hk=>hi k (by simp[hk])) g2)
theorem So{ad nx:List Int}{val sv:Nat->Int}{V T:CF}{b:Nat->Option Nat}{P:Nat->List Nat}(hP:∀i,i<V.ow.length->Ix ad nx (P i) (val (V.ow.getD i au).l) (val (V.ow.getD i au).r)/\((V.ow.getD i au).k≠4->(P i).length=1))(hs:∀c a,b c=some a->sv c=val a):∀{ks fr:List Nat} {f f':List Bool},(∀i∈fr,i<V.ow.length)->ie V T b ks fr->tk f (fr.flatMap P)=some f'->f'.any id=false->vT ad nx sv (ks.map (λk=>T.ow.getD k au)) f:=by
 intro ks;induction ks with
 |nil =>
  intro fr f f' _ hd ht ha;cases hd
  cases ht
  exact ha
 |cons k ks ih =>
  rintro fr f f' ir ⟨L,rest,h1,⟨a,e,h2,h3,h4⟩,h5,h6⟩ ht ha;have hL:∀i∈L,i<V.ow.length:=λi hi=>ir i (h1.mem_iff.2 (by simp[hi]));have hr:∀i∈rest,i<V.ow.length:=λi hi=>ir i (h1.mem_iff.2 (by simp[hi]));rw[IM (h1.flatMap_right P),flatMap_append,vf]at ht;obtain⟨f1,g1,g2⟩:=Option.bind_eq_some_iff.1 ht;refine⟨L.flatMap P,f1,by rw[hs _ _ h2,hs _ _ h3];exact R8 hP hL h4,g1,λh4=>?_,ih hr h6 g2 ha⟩;obtain⟨i,rfl,hi⟩:=h5 h4;have:=(hP i (hL i (by simp))).2 hi;simpa using this
structure XT(ad nx:List Int)(val:Nat->Int)(V:CF):Prop where
 nl:val (V.cl.getD 0 0)=0
 ap:∀p∈V.ap,val p.l≠val p.r
 sp:vT ad nx val V.ow (replicate ad.length true)
theorem IL{fr fr':List Bool}{p:List Nat}(h:tk fr p=some fr'):∀k∈p,fr.getD k false=true:=by
 induction p generalizing fr with
 |nil=>intro k hk;cases hk
 |cons j r ih =>
  simp only[tk]at h;by_cases hf:fr.getD j false=true
  .rw[if_pos hf]at h;intro k hk;rcases mem_cons.1 hk with rfl|hk
   .exact hf
   .have:=ih h k hk;by_cases e:j=k
    .rw[<-e];exact hf
    .simpa[getD_eq_getElem?_getD,getElem?_set,e] using this
  .rw[if_neg hf]at h;cases h
theorem Qh{fr fr':List Bool}{p:List Nat}(h:tk fr p=some fr'):p.Nodup:=by
 induction p generalizing fr with
 |nil=>exact nodup_nil
 |cons j r ih =>
  simp only[tk]at h;by_cases hf:fr.getD j false=true
  .rw[if_pos hf]at h;refine nodup_cons.2 ⟨λhj=>?_,ih h⟩;have:=IL h j hj;simp only[getD_eq_getElem?_getD,getElem?_set]at this;simp at this;split at this <;> simp_all
  .rw[if_neg hf]at h;cases h
theorem XT.heads{ad nx:List Int}{val:Nat->Int}{V:CF}(h:XT ad nx val V)(hd:ad.Nodup)(hp:∀v∈ad,0<v):
  (∀i,i<V.ow.length->0<val (V.ow.getD i au).l)/\(∀i j,i<V.ow.length->j<V.ow.length->i≠j->val (V.ow.getD i au).l≠val (V.ow.getD j au).l):=by
 obtain⟨P,hP,f',ht,_⟩:=AU h.sp;have hhd:∀i,i<V.ow.length->∃k,k∈P i/\k<ad.length/\ad.getD k 0=val (V.ow.getD i au).l:=by
  intro i hi;have h1:=(hP i hi).1;cases hpi:P i with
  |nil=>rw[hpi]at h1;exact h1.elim
  |cons k r =>
   rw[hpi]at h1;have h2:=IL ht k (mem_flatMap.2 ⟨i,mem_range.2 hi,by rw[hpi];simp⟩);have h3:=Gy h2;exact⟨k,by simp,by simpa using h3,aa5 h1⟩
 refine⟨λi hi=>?_,λi j hi hj hij=>?_⟩
 .obtain⟨k,_,hk,e⟩:=hhd i hi;rw[<-e];have:ad.getD k 0=ad[k]:=by simp[hk]
  rw[this];exact hp _ (getElem_mem hk)
 .obtain⟨k,KW,hk,e⟩:=hhd i hi;obtain⟨k',akV,Dn,e'⟩:=hhd j hj;rw[<-e,<-e'];have aJ:k≠k':=by
   rintro rfl;have hn:=Qh ht;have hcount:∀(l:List Nat),l.Nodup->i∈l->j∈l->¬ (l.flatMap P).Nodup:=by
    intro l hl hi hj hn;have h1:=perm_cons_erase hi;have h2:j∈l.erase i:=(mem_erase_of_ne (λe=>hij e.symm)).2 hj;have h3:=(h1.flatMap_right P).nodup_iff.1 hn;rw[flatMap_cons,nodup_append]at h3;exact h3.2.2 k KW k (mem_flatMap.2 ⟨j,h2,akV⟩) rfl
   exact hcount _ nodup_range (mem_range.2 hi) (mem_range.2 hj) hn
  intro e2;have ea:ad.getD k 0=ad[k]:=by simp[hk]
  have eb:ad.getD k' 0=ad[k']:=by simp[Dn]
  rw[ea,eb]at e2;exact aJ ((getElem_inj hd).1 e2)
theorem Sp{ad nx:List Int}{val:Nat->Int}{V:CF}(h:XT ad nx val V)(hd:ad.Nodup)(hp:∀v∈ad,0<v){a b:Nat}(hb:dS V a b=true):val a≠val b:=by
 unfold dS at hb;by_cases e:a=b
 .rw[if_pos e]at hb;cases hb
 .rw[if_neg e,Bool.or_eq_true]at hb;obtain⟨h1,h2⟩:=h.heads hd hp;rcases hb with hb|hb
  .obtain⟨p,hp,hx⟩:=any_eq_true.1 hb;simp only[Bool.or_eq_true,Bool.and_eq_true,beq_iff_eq]at hx;have:=h.ap p hp;rcases hx with⟨rfl,rfl⟩|⟨rfl,rfl⟩
   .exact this
   .exact λe=>this e.symm
  .unfold qA at hb;simp only[Bool.or_eq_true,Bool.and_eq_true,beq_iff_eq]at hb;have hn:=h.nl;rcases hb with⟨ha,hb|hb⟩|⟨hb,ha⟩
   .obtain⟨i,hi⟩:=Option.isSome_iff_exists.1 ha;obtain⟨j,hj⟩:=Option.isSome_iff_exists.1 hb;obtain⟨i1,i2⟩:=gF hi;obtain⟨j1,j2⟩:=gF hj;have hij:i≠j:=(by rintro rfl;exact e (i2.symm.trans j2));have:=h2 i j i1 j1 hij;rw[i2,j2]at this;exact this
   .obtain⟨i,hi⟩:=Option.isSome_iff_exists.1 ha;obtain⟨i1,i2⟩:=gF hi;have:=h1 i i1;rw[i2]at this;rw[hb,hn];omega
   .obtain⟨j,hj⟩:=Option.isSome_iff_exists.1 hb;obtain⟨j1,j2⟩:=gF hj;have:=h1 j j1;rw[j2]at this;rw[ha,hn];omega
def Sat(ad nx:List Int)(av:Nat->Int)(an:List (Option Nat))(T:CF):Prop :=
 ∃sv:Nat->Int,(∀c a,an.getD c none=some a->sv c=av a)/\(∀p∈T.ap,sv p.l≠sv p.r)/\vT ad nx sv T.ow (replicate ad.length true)
def lM(V T:CF)(an:List (Option Nat))(st:Int):SS:=⟨an,replicate V.ow.length none,V.ow.length,replicate T.ow.length false,st⟩
def xj(V T:CF)(an:List (Option Nat))(st:Int):Bool × SS:=pP (wk V T (V.ow.length+1)) V T (lM V T an st) 0
theorem D5(val:Nat->Int)(b:Nat->Option Nat):∀n:Nat,∃M:Int,∀c,c<n->∀a,b c=some a->val a<M:=by
 intro n;induction n with
 |zero=>exact⟨0,λc hc=>by omega⟩
 |succ n ih =>
  obtain⟨M,hM⟩:=ih;cases hb:b n with
  |none=>exact⟨M,λc hc a ha=>by
    by_cases e:c=n
    .rw[e,hb]at ha;cases ha
    .exact hM c (by omega) a ha⟩
  |some x=>exact⟨max M (val x+1),λc hc a ha=>by
    by_cases e:c=n
    .rw[e,hb]at ha;cases ha;omega
    .have:=hM c (by omega) a ha;omega⟩
def svl(b:Nat->Option Nat)(val:Nat->Int)(M:Int)(c:Nat):Int:=match b c with|some a=>val a|none=>M+c
theorem kg{b:Nat->Option Nat}{val:Nat->Int}{M:Int}{c a:Nat}(h:b c=some a):svl b val M c=val a:=by unfold svl;rw[h]
theorem pX{b:Nat->Option Nat}{val:Nat->Int}{M:Int}{c:Nat}(h:b c=none):svl b val M c=M+c:=by unfold svl;rw[h]
theorem SJ{ad nx:List Int}{val:Nat->Int}{V T:CF}(h:XT ad nx val V)(hd:ad.Nodup)(hp:∀v∈ad,0<v)(hT:Rm T){an:List (Option Nat)}(yM:an.length=24){st:Int}{s':SS}(hf:xj V T an st=(true,s')):Sat ad nx val an T:=by
 have xH:uP (lM V T an st)=range T.ow.length:=by
  unfold uP lM;simp only[length_replicate];rw[filter_eq_self];intro k hk;have:=mem_range.1 hk;simp[getD_eq_getElem?_getD,this]
 have ir:qn (lM V T an st)=range V.ow.length:=by
  unfold qn lM;simp only[length_replicate];rw[filter_eq_self];intro k hk;have:=mem_range.1 hk;simp[getD_eq_getElem?_getD,this]
 have hw:Wf V T (lM V T an st):=⟨by simp[lM],by simp[lM],yM,by rw[ir];simp[lM]⟩;obtain⟨he,fT,Eh,Tr⟩:=(uH hT (yg hT _) _ _ hw (by rw[xH];simp) _ _ hf).2 rfl;rw[xH,ir]at Tr;obtain⟨M,hM⟩:=D5 val s'.b 24;have aq:∀c a,s'.b c=some a->c<24:=by
  intro c a hc;rcases Nat.lt_or_ge c 24 with h|h
  .exact h
  .unfold SS.b at hc;rw[getD_eq_getElem?_getD,getElem?_eq_none (by omega)]at hc;cases hc
 obtain⟨P,hP,f',ht,ha⟩:=AU h.sp;refine⟨svl s'.b val M,λc a hc=>kg (he c a hc),λp hpp=>?_,?_⟩
 .have:=all_eq_true.1 fT p hpp;simp only[Bool.and_eq_true,bne_iff_ne]at this;obtain⟨aJ,hx⟩:=this;cases h1:s'.b p.l with
  |none =>
   cases h2:s'.b p.r with
   |none=>rw[pX h1,pX h2];omega
   |some y=>have:=hM _ (aq _ _ h2) _ h2;rw[pX h1,kg h2];omega
  |some x =>
   cases h2:s'.b p.r with
   |none=>have:=hM _ (aq _ _ h1) _ h1;rw[kg h1,pX h2];omega
   |some y=>rw[h1,h2]at hx;rw[kg h1,kg h2];exact Sp h hd hp hx
 .have:=So (sv:=svl s'.b val M) hP (λc a hc=>kg hc) (λi hi=>mem_range.1 hi) Tr ht ha;have e:(range T.ow.length).map (λk=>T.ow.getD k au)=T.ow:=by
   apply ext_getElem (by simp);intro n h1 h2;simp[h2]
  rwa [e]at this
def fj(l:List Pr)(i size:Nat):List Pr :=
 if size=1 then l.set i ⟨3,(l.getD i au).l,(l.getD i au).r⟩
 else if size=2 then l.set i ⟨3,(l.getD i au).l,24+2*i⟩++[⟨3,24+2*i,(l.getD i au).r⟩]
 else l.set i ⟨3,(l.getD i au).l,24+2*i⟩++[⟨4,24+2*i,25+2*i⟩,⟨3,25+2*i,(l.getD i au).r⟩]
def Vf(n:Nat)(l:List Pr)(i:Nat):Bool:=decide (i<n)&&((l.getD i au).k==4)
def cuF(n:Nat)(l:List Pr)(f:List Pr)(i:Nat):List Pr:=if Vf n l i then fj f i 3 else f
def lP(n:Nat)(l:List Pr):List Pr:=(range l.length).foldl (cuF n l) l
def Ri(v:List Pr)(s:SS)(i:Nat):Bool:=match cR v (24+2*i),cR v (25+2*i) with
 |some m,some e=>if s.ot.getD m none≠s.ot.getD i none\/s.ot.getD e none≠s.ot.getD i none then true else s.bd.any (λb=>b==some (24+2*i)||b==some (25+2*i))
 |_,_=>true
def trn(n:Nat)(l v:List Pr)(s:SS):Option Nat:=(range l.length).find? (λi=>Vf n l i&&Ri v s i)
def vw(F:CF)(l:List Pr):CF:=⟨F.cl,F.ap,l⟩
def rV(F T:CF)(an:List (Option Nat)):Nat->Int->List Pr->Bool × Int
 |0,st,_=>(false,st)
 |m+1,st,l=>match xj (vw F l) T an st with
  |(true,s)=>(true,s.st)
  |(false,s)=>match xj (vw F (lP F.ow.length l)) T an s.st with
   |(false,s2)=>(false,s2.st)
   |(true,s2)=>match trn F.ow.length l (lP F.ow.length l) s2 with
    |none=>(false,s2.st)
    |some i=>match rV F T an m s2.st (fj l i 1) with
     |(false,t)=>(false,t)
     |(true,t)=>match rV F T an m t (fj l i 2) with
      |(false,t)=>(false,t)
      |(true,t)=>rV F T an m t (fj l i 3)
theorem Ml{l:List Pr}{i size j:Nat}(hi:i<l.length)(hj:j<l.length):(fj l i size).getD j au=if i=j then ⟨3,(l.getD i au).l,if size=1 then (l.getD i au).r else 24+2*i⟩ else l.getD j au:=by
 have JQ:∀(x:Pr) (r:List Pr),(l.set i x++r).getD j au=if i=j then x else l.getD j au:=by
  intro x r;rw[<-aU l i j x au hi];simp only[getD_eq_getElem?_getD];rw[getElem?_append_left (by simpa using hj)]
 unfold fj;by_cases h1:size=1
 .rw[if_pos h1,if_pos h1];exact aU l i j _ au hi
 .rw[if_neg h1,if_neg h1];by_cases h2:size=2
  .rw[if_pos h2,JQ]
  .rw[if_neg h2,JQ]
theorem Ge{l:List Pr}{i size:Nat}:l.length<=(fj l i size).length:=by
 unfold fj;split
 .simp
 .split <;> simp
theorem Qk{n:Nat}{l v:List Pr}{s:SS}{i:Nat}(h:trn n l v s=some i):i<n/\(l.getD i au).k=4:=by
 have:=find?_some h;simp only[Bool.and_eq_true,Vf,decide_eq_true_eq,beq_iff_eq]at this;exact this.1
theorem aby{y:oO}{T V:CF}(hT:Rm T)(hA:VL T)(pw:T.ow.length<=1000000)(Y0:V.ow.length<=1000000):∀m,WkC y T V m (wk V T m):=by
 intro m;induction m with
 |zero=>intro w s k at_ count _ _ h;omega
 |succ m ih=>exact Ky hT Y0 ih (uI hT hA pw Y0 ih)
def Sq(w:World)(q f t:Nat)(an:List (Option Nat))(st:Int):Prop :=
 ∃(mid:List Value) (vv ov uv pv:Value),Ob w 202 55 q (f8 f t an++(mid++[vv,ov,uv,pv,.int .i64 st]))/\mid.length=24/\an.length=24
theorem Sw.sq{w:World}{y:oO}{T V:CF}{s:SS}(h:Sw w y T V s):Sq w y.q y.f y.t y.an s.st:=⟨_,_,_,_,_,h.ob,by rw[aK];exact h.lb,h.la⟩
theorem Ob.some{w:World}{T n A:Nat}{xs:List Value}(h:Ob w T n A xs){j:Nat}(hj:j<n):(∃u,w.cell? ⟨A,j,none⟩=some u)/\w.frozen? ⟨A,j,none⟩=false:=by
 refine⟨?_,ownsRow.frozenAt h j⟩;have hl:j<xs.length:=by have:=h.1;omega
 exact⟨xs[j],by rw[ownsRow.cellAt h j (by omega)];simp[hl]⟩
theorem Ob.set{w:World}{T n A:Nat}{xs:List Value}(h:Ob w T n A xs)(j:Nat)(u:Value):Ob (w.setCell ⟨A,j,none⟩ u) T n A (xs.set j u):=(ownsRow.stored h j u).1
theorem Ob.alloc{w:World}{T n A:Nat}{xs:List Value}(h:Ob w T n A xs)(o:Obj):Ob (w.alloc o) T n A xs:=h.of_eq (heap_alloc _ _ _ (ownsRow.lt h _ rfl).2)
def UL(xs:List Value):Nat->List Value->List Value
 |_,[]=>xs
 |o,v::r=>UL (xs.set o v) (o+1) r
theorem Ob.setCells{T n A:Nat}:∀(vs:List Value) (o:Nat) {w:World} {xs:List Value},Ob w T n A xs->Ob (w.setCells A o vs) T n A (UL xs o vs):=by
 intro vs;induction vs with
 |nil=>intro o w xs h;exact h
 |cons v r ih=>intro o w xs h;exact ih (o+1) (h.set o v)
theorem mn:∀(vs a mid c:List Value),mid.length=vs.length->UL (a++(mid++c)) a.length vs=a++(vs++c):=by
 intro vs;induction vs with
 |nil =>
  intro a mid c h;have:mid=[]:=eq_nil_of_length_eq_zero h;subst this;rfl
 |cons v r ih =>
  intro a mid c h;cases mid with
  |nil=>simp at h
  |cons m mid =>
   have h2:=ih (a++[v]) mid c (by simpa using h);simp only[UL];rw[set_append_right _ _ (zq4 _),Nat.sub_self];simp only[cons_append,set_cons_zero];have e1:a++v::(mid++c)=(a++[v])++(mid++c):=(by simp);have e2:a.length+1=(a++[v]).length:=(by simp);rw[e1,e2,h2];simp
theorem ar.setCells{F F':List Nat}{a:World}{b:Nat}(hb:b∈F):∀(vs:List Value) (o:Nat) {w:World},ar F a F' w->ar F a F' (w.setCells b o vs):=by
 intro vs;induction vs with
 |nil=>intro o w h;exact h
 |cons v r ih=>intro o w h;exact ih (o+1) (h.setCell (zq0 hb) v)
theorem jR{b k:Nat}(hk:k≠b):∀(vs:List Value) (o:Nat) (w:World),(w.setCells b o vs).heap[k]?=w.heap[k]?:=by
 intro vs;induction vs with
 |nil=>intro o w;rfl
 |cons v r ih=>intro o w;exact(ih (o+1) _).trans (heap_setCell _ _ _ _ hk)
theorem info24:(prog.info? 199).map (·.size)=some 24:=by kernel_rfl
theorem Ji {w:World} {q f t:Nat} {an:List (Option Nat)} {st:Int} {F T:CF} {l:List Pr} {fav fov tav tov lv:Value} (h:Sq w q f t an st) (hF:dF w f F fav fov) (hT:dF w t T tav tov) (hl:w.ownsRow 0 182 3 lv l.length (af l)) (sQ:l.length<=1000000) (pw:T.ow.length<=1000000)
  (hq:∀k,k∈aD f fav fov++(aD t tav tov++lv.ownBlock.toList)->k≠q) :
  Calls prog 176 #[.pointer (some ⟨q,0,none⟩),lv] w λe w'=>e=.returned (.tuple #[])/\∃v ov pv,Sw w' ⟨q,f,t,v,an,tav,tov,fav,lv,ov,pv⟩ T (vw F l) (lM (vw F l) T an st)/\ar [q] w (Ee q ov pv) w':=by
 obtain⟨mid,vv,ov0,uv,pv0,lI,JT,yM⟩:=h;have Rc:w.cell? ⟨q,0,none⟩=some (.pointer (some ⟨f,0,none⟩)):=by rw[ownsRow.cellAt lI 0 (by omega)];rfl
 have BT:=hF.c5;have hf0:=hF.cls (i:=0) (by omega);have BS:=hF.cls (i:=1) (by omega);have jK:=hF.cls (i:=2) (by omega);have lV:=hF.cls (i:=3) (by omega);have yR:=hF.cls (i:=4) (by omega);unfold fH at hf0 BS jK lV yR;obtain⟨n0,oq⟩:∃x,x=F.cl.getD 0 0:=⟨_,rfl⟩;obtain⟨n1,jF⟩:∃x,x=F.cl.getD 1 0:=⟨_,rfl⟩;obtain⟨n2,qQ⟩:∃x,x=F.cl.getD 2 0:=⟨_,rfl⟩;obtain⟨n3,vE⟩:∃x,x=F.cl.getD 3 0:=⟨_,rfl⟩;obtain⟨n4,N9⟩:∃x,x=F.cl.getD 4 0:=⟨_,rfl⟩;rw[<-oq]at hf0;rw[<-jF]at BS;rw[<-qQ]at jK;rw[<-vE]at lV;rw[<-N9]at yR;obtain⟨fao,fcap,Zj⟩:=aC hF.ap;rw[Zj]at BT;have HN:Hid (n0=F.cl.getD 0 0/\n1=F.cl.getD 1 0/\n2=F.cl.getD 2 0/\n3=F.cl.getD 3 0/\n4=F.cl.getD 4 0):=ab ⟨oq,jF,qQ,vE,N9⟩;clear oq jF qQ vE N9;obtain⟨lao,lcap,dX,afO,hln,-⟩:=cP hl;have Wx:lcap<=9223372036854775807:=by unfold maxLen at afO;omega
 have hobA:∀o,Ob (w.alloc o) 202 55 q (f8 f t an++(mid++[vv,ov0,uv,pv0,.int .i64 st])):=λo=>Ob.of_eq lI (heap_alloc _ _ _ (ownsRow.lt lI _ rfl).2);have alo:∀o,(w.alloc o).cell? ⟨q,50,none⟩=some vv:=λo=>by
  rw[ownsRow.cellAt (hobA o) 50 (by omega)];rw[getElem?_append_right (by simp[f8,aK,yM]),getElem?_append_right (by simp[f8,aK,yM,JT])];simp[f8,aK,yM,JT]
 have hfz:∀o j,(w.alloc o).frozen? ⟨q,j,none⟩=false:=λo j=>ownsRow.frozenAt (hobA o) j;have HF:=ab hF;have HT:=ab hT;have HL:=ab hl;have HQ:=ab hq;have RE:=ab lI;have yj:=ab dX;have Xx:=ab Zj;rw[dX];clear hF hT hl hq lI hobA afO dX Zj;go_enter func176,ntmps176;go_wp2_with fail
 go_region
 obtain⟨X,hX⟩:∃X,X=f8 f t an++(mid++[vv,ov0,uv,pv0,Value.int IntKind.i64 st]):=⟨_,rfl⟩;obtain⟨w1,xI⟩:∃w1,w1=((w.alloc (Obj.cells #[Value.int IntKind.i64 n0,Value.int IntKind.i64 n1,Value.int IntKind.i64 n2,Value.int IntKind.i64 n3,Value.int IntKind.i64 n4,Value.slice fao F.ap.length fcap,Value.slice lao l.length lcap] 179)).setCell ⟨q,50,none⟩ (Value.pointer (some ⟨w.heap.size,0,none⟩))).drew:=⟨_,rfl⟩;rw[<-xI];have hqs:q<w.heap.size:=(ownsRow.lt (uh RE) _ rfl).2;have YW:ar [q] w [q] w1:=by rw[xI];exact(((ar.refl [q] w).alloc _).setCell (zq0 (by simp)) _).drew
 have Nk:Ob w1 202 55 q (X.set 50 (.pointer (some ⟨w.heap.size,0,none⟩))):=by
  rw[xI];have h1:=Ob.of_eq (uh RE) (w':=w.alloc (Obj.cells #[Value.int IntKind.i64 n0,Value.int IntKind.i64 n1,Value.int IntKind.i64 n2,Value.int IntKind.i64 n3,Value.int IntKind.i64 n4,Value.slice fao F.ap.length fcap,Value.slice lao l.length lcap] 179)) (heap_alloc _ _ _ hqs);rw[<-hX]at h1;exact Ob.of_eq (ownsRow.stored h1 50 _).1 rfl
 have BM:∀k,k<w.heap.size->k≠q->w1.heap[k]?=w.heap[k]?:=λk hk aJ=>YW.block k hk (by simpa using aJ);have aev:dF w1 w.heap.size (vw F l) fav lv:=by
  refine⟨?_,?_,?_⟩
  .have h1:=ownsRow_lit (base:=0) (e:=179) (size:=7) w #[Value.int IntKind.i64 n0,Value.int IntKind.i64 n1,Value.int IntKind.i64 n2,Value.int IntKind.i64 n3,Value.int IntKind.i64 n4,Value.slice fao F.ap.length fcap,Value.slice lao l.length lcap] 1 (zq5 _) (by simp[maxLen]) rfl;have h2:Ob w1 179 7 w.heap.size [Value.int IntKind.i64 n0,Value.int IntKind.i64 n1,Value.int IntKind.i64 n2,Value.int IntKind.i64 n3,Value.int IntKind.i64 n4,Value.slice fao F.ap.length fcap,Value.slice lao l.length lcap]:=by
    refine Ob.of_eq h1 ?_;rw[xI];exact heap_setCell _ _ _ _ (by show w.heap.size≠q;omega)
   obtain⟨e0,e1,e2,e3,e4⟩:=uh HN;rw[<-uh Xx,<-uh yj]at h2;unfold ij fH;rw[show(vw F l).cl=F.cl from rfl,<-e0,<-e1,<-e2,<-e3,<-e4];exact h2
  .exact ae (uh HF).ap (λk hk=>BM k ((uh HF).ap.lt k hk).2 (uh HQ k (by simp[aD,hk])))
  .exact ae (uh HL) (λk hk=>BM k ((uh HL).lt k hk).2 (uh HQ k (by simp[hk])))
 have aeu:dF w1 t T tav tov:=(uh HT).of_eq (λk hk=>BM k ((uh HT).lt k hk) (uh HQ k (by simp[hk])));have wJ:=ab aev;have mW:=ab aeu;have AQ:=ab YW;obtain⟨X1,hX1⟩:∃X1,X1=X.set 50 (.pointer (some ⟨w.heap.size,0,none⟩)):=⟨_,rfl⟩;rw[<-hX1]at Nk;have HX1:=ab hX1;have HX:=ab hX;have I3:=ab Nk;obtain⟨⟨u52,alI⟩,al3⟩:=Nk.some (j:=52) (by omega);have aeE:=Nk.set 52 (.int .i64 (l.length:Int));have Zv:=run_make_row' (P:=prog) 29 3 (.int .i64 0) 8 underlying29 infoInt rfl .i64 .i64 l.length (by omega) (by omega);obtain⟨⟨u51,alH⟩,al2⟩:=(aeE.alloc (.cells (madeCells #[.int .i64 0] l.length) 3)).some (j:=51) (by omega);clear aev aeu YW hX1 hX Nk aeE BM Rc BT hf0 BS jK lV yR alo hfz;have XP:=ab xI;clear xI;go_wp2_with fail
 obtain⟨O,hO⟩:∃O,O=w1.heap.size:=⟨_,rfl⟩;obtain⟨w3,GT⟩:∃w3,w3=((w1.setCell ⟨q,52,none⟩ (.int .i64 (l.length:Int))).alloc (.cells (madeCells #[Value.int .i64 0] l.length) 3)).setCell ⟨q,51,none⟩ (.slice (some ⟨w1.heap.size,0,none⟩) l.length l.length):=⟨_,rfl⟩;rw[<-GT,<-hO];have hqO:q<O:=by rw[hO];exact zq6 hqs (uh AQ).size
 have GI:ar [q] w1 [q] w3:=by rw[GT];exact(((ar.refl [q] w1).setCell (zq0 (by simp)) _).alloc _).setCell (zq0 (by simp)) _
 have aeO:ar [q] w [q] w3:=(uh AQ).trans GI;have aeF:Ob w3 202 55 q ((X1.set 52 (.int .i64 (l.length:Int))).set 51 (.slice (some ⟨O,0,none⟩) l.length l.length)):=by
  rw[GT,hO];exact(((uh I3).set 52 _).alloc _).set 51 _
 have WJ:w3.ownsRow 0 3 1 (.slice (some ⟨O,0,none⟩) l.length l.length) l.length (replicate l.length (.int .i64 0)):=by
  have h1:=ownsRow_lit (base:=0) (e:=3) (size:=1) (w1.setCell ⟨q,52,none⟩ (.int .i64 (l.length:Int))) (madeCells #[Value.int .i64 0] l.length) l.length (zq5 _) (by simp[maxLen];omega) (by simp[madeCells]);rw[toList_madeCells_one]at h1;have e:(w1.setCell ⟨q,52,none⟩ (.int .i64 (l.length:Int))).heap.size=O:=by rw[hO];simp
  rw[e]at h1;refine ae h1 (λk hk=>?_);cases hk
  rw[GT];exact heap_setCell _ _ _ _ (by show O≠q;omega)
 have arC:w3.heap.size=O+1:=by rw[GT,hO];simp
 have arM:w.heap.size<O:=by
  have:=(uh wJ).lt w.heap.size (by simp[aD]);rw[hO];exact this
 have Wc:dF w3 w.heap.size (vw F l) fav lv:=(uh wJ).of_eq (λk hk=>GI.block k ((uh wJ).lt k hk) (by
  simp only[mem_singleton];simp only[aD,mem_cons,mem_append,Option.mem_toList]at hk;rcases hk with rfl|hk|hk
  .omega
  .exact uh HQ k (by simp[aD,hk])
  .exact uh HQ k (by simp[hk])))
 have Wb:dF w3 t T tav tov:=(uh mW).of_eq (λk hk=>GI.block k ((uh mW).lt k hk) (by
  simp only[mem_singleton];exact uh HQ k (by simp[hk])))
 have HV3:=ab Wc;have qg:=ab Wb;have ajt:=ab aeO;have HO3:=ab aeF;have KI:=ab WJ;have HO:=ab hO;clear Wc Wb aeO GI aeF WJ hO GT alI al3 alH al2 Zv XP mW wJ I3 AQ;go_loopw [4] (λi wr=>∃k:Nat,k<=l.length/\i=.int .i64 k/\Hid (wr.ownsRow 0 3 1 (.slice (some ⟨O,0,none⟩) l.length l.length) l.length (replicate k (.int .i64 (-1))++replicate (l.length-k) (.int .i64 0)))/\Hid (ar [O] w3 [O] wr)) (λi _=>l.length-(intOf i).toNat)
 case atStart=>exact⟨0,zq5 _,rfl,ab (by simpa using uh KI),ab (ar.refl _ _)⟩
 case round =>
  obtain⟨k,hk,rfl,aR,aE⟩:=hrel;have JD:Ob wr 202 55 q ((X1.set 52 (.int .i64 (l.length:Int))).set 51 (.slice (some ⟨O,0,none⟩) l.length l.length)):=(uh HO3).of_eq ((uh aE).block q (by omega) (by simp;omega));have aqF:X1.length=55:=by
   have h1:=(uh HO3).1;simp only[length_set]at h1;omega
  have h51:wr.cell? ⟨q,51,none⟩=some (.slice (some ⟨O,0,none⟩) l.length l.length):=by
   rw[ownsRow.cellAt JD 51 (by omega),getElem?_set_self (by simp;omega)]
  by_cases aq:k<l.length
  .have Q3:wr.cell? ⟨O,k,none⟩=some (.int .i64 0):=by
    rw[(uh aR).cellAt k (by omega),getElem?_append_right (by simp),length_replicate,Nat.sub_self,getElem?_replicate,if_pos (by omega)]
   have NJ:=(uh aR).frozenAt k;have ik:=((uh aR).stored k (.int .i64 (-1))).1;have e:(replicate k (Value.int .i64 (-1))++replicate (l.length-k) (Value.int .i64 0)).set k (Value.int .i64 (-1))=replicate (k+1) (Value.int .i64 (-1))++replicate (l.length-(k+1)) (Value.int .i64 0):=by
    rw[set_append_right k _ (by simp)];simp only[length_replicate,Nat.sub_self];rw[show l.length-k=(l.length-(k+1))+1 by omega,replicate_succ,set_cons_zero,replicate_succ',append_assoc];rfl
   rw[e]at ik;have ajg:=ab ik;have QQ:=ab ((uh aE).setCell (p:=⟨O,k,none⟩) (zq0 (by simp)) (.int .i64 (-1)));clear ik JD aR aE;go_wp2_with fail
   go_roundw
   case rel=>exact⟨k+1,by omega,by go_num,ajg,QQ⟩
   case measure=>simp[intOf];omega
  .have hd:decide ((k:Int)<(l.length:Int))=false:=(by simp;omega);have jf:k=l.length:=(by omega);subst jf;have xF:wr.cell? ⟨q,1,none⟩=some (.pointer (some ⟨t,0,none⟩)):=by
    rw[ownsRow.cellAt JD 1 (by omega),getElem?_set_ne (by omega),getElem?_set_ne (by omega),uh HX1,getElem?_set_ne (by omega),uh HX];rfl
   have GF:dF wr t T tav tov:=(uh qg).of_eq (λk hk=>(uh aE).block k ((uh qg).lt k hk) (by
    simp only[mem_singleton];rintro rfl;have:=(uh HT).lt _ hk;omega))
   have BI:=GF.c6;obtain⟨tao,tcap,oy,agr,WM,-⟩:=cP GF.ow;have htm:tcap<=9223372036854775807:=(by unfold maxLen at agr;omega);rw[oy]at BI;have Zv:=run_make_row' (P:=prog) 200 4 (.bool false) 1 underlying200 infoBool rfl .i64 .i64 T.ow.length (by omega) (by omega);obtain⟨⟨u53,arI⟩,arV⟩:=(JD.alloc (.cells (madeCells #[.bool false] T.ow.length) 4)).some (j:=53) (by omega);have ap3:=ab oy;have HTr:=ab GF;have Tg:=(JD.alloc (.cells (madeCells #[Value.bool false] T.ow.length) 4)).set 53 (Value.slice (some ⟨wr.heap.size,0,none⟩) T.ow.length T.ow.length);have Ns:((wr.alloc (.cells (madeCells #[Value.bool false] T.ow.length) 4)).setCell ⟨q,53,none⟩ (Value.slice (some ⟨wr.heap.size,0,none⟩) T.ow.length T.ow.length)).rangeAt q 2 (a6 an):=by
    intro j v hj;have akR:j<24:=by
     have:=(List.getElem?_eq_some_iff.1 hj).1;rw[aK,yM]at this;exact this
    rw[ownsRow.cellAt Tg (2+j) (by omega),getElem?_set_ne (by omega),getElem?_set_ne (by omega),getElem?_set_ne (by omega),uh HX1,getElem?_set_ne (by omega),uh HX];rw[getElem?_append_left (by simp[f8,aK];omega)];unfold f8;rw[getElem?_append_right (by simp)];simpa[show 2+j-2=j by omega] using hj
   have Ny:((wr.alloc (.cells (madeCells #[Value.bool false] T.ow.length) 4)).setCell ⟨q,53,none⟩ (Value.slice (some ⟨wr.heap.size,0,none⟩) T.ow.length T.ow.length)).there q 26 (a6 an).toArray.size:=by
    intro j hj;have akR:j<24:=(by simpa[aK,yM] using hj);obtain⟨⟨u,hu⟩,hz⟩:=Tg.some (j:=26+j) (by omega);exact⟨by rw[hu];rfl,hz⟩
   have tZ:=Ob.setCells (a6 an) 26 Tg;have aet:(prog.info? 199).map (·.size)=some (a6 an).length:=(by rw[aK,yM];exact info24);have V9:(prog.info? 199).map (·.size)=some (a6 an).toArray.size:=(by rw[size_toArray,aK,yM];exact info24);have aeI:(a6 an).toArray.all (·.oneCell')=true:=all_oneCell_toArray (by
    intro v hv;obtain⟨o,_,rfl⟩:=mem_map.1 hv;rfl)
   have HR:=ab Ns;have sy:=ab Ny;have HI:=ab aet;have dc:=ab V9;have ado:=ab aeI;have I5:=ab tZ;obtain⟨AN,hAN⟩:∃AN,AN=a6 an:=⟨_,rfl⟩;rw[<-hAN]at HR sy HI dc ado I5;have Xo:=ab hAN;clear oy JD GF agr Tg Ns Ny aet V9 aeI tZ hAN;go_wp2_with (first|refine wpList_load_mid rfl 199 (.tmp 66) rfl q 2 rfl AN _ (uh HR) underlying199 rfl (uh HI) ?_|refine wpList_store_mid rfl 199 (.tmp 69) (.tmp 67) rfl q 26 AN.toArray rfl rfl (uh sy) (uh dc) (uh ado) ?_)
   go_end0
   rw[<-uh yj];have TH:(f8 f t an).length=26:=(by simp[f8,aK,yM]);have hL3:O<wr.heap.size:=(by have:=(uh aE).size;omega);have hobF:Ob (((wr.alloc (Obj.cells (madeCells #[Value.bool false] T.ow.length) 4)).setCell ⟨q,53,none⟩ (Value.slice (some ⟨wr.heap.size,0,none⟩) T.ow.length T.ow.length)).setCells q 26 AN) 202 55 q (mi f t w.heap.size an (lM (vw F l) T an st) (.slice (some ⟨O,0,none⟩) l.length l.length) (.slice (some ⟨wr.heap.size,0,none⟩) T.ow.length T.ow.length)):=by
    have h5:=uh I5;rw[uh HX1,uh HX]at h5;have cf:∀(tl:List Value) (j:Nat) (u:Value),(f8 f t an++(mid++tl)).set (50+j) u=f8 f t an++(mid++tl.set j u):=by
     intro tl j u;rw[set_append_right _ _ (by omega),TH,set_append_right _ _ (by omega),JT,show 50+j-26-24=j by omega]
    have s0:=cf [vv,ov0,uv,pv0,Value.int IntKind.i64 st] 0 (.pointer (some ⟨w.heap.size,0,none⟩));have s1:=cf [.pointer (some ⟨w.heap.size,0,none⟩),ov0,uv,pv0,Value.int IntKind.i64 st] 2 (.int .i64 (l.length:Int));have s2:=cf [.pointer (some ⟨w.heap.size,0,none⟩),ov0,.int .i64 (l.length:Int),pv0,Value.int IntKind.i64 st] 1 (.slice (some ⟨O,0,none⟩) l.length l.length);have s3:=cf [.pointer (some ⟨w.heap.size,0,none⟩),.slice (some ⟨O,0,none⟩) l.length l.length,.int .i64 (l.length:Int),pv0,Value.int IntKind.i64 st] 3 (Value.slice (some ⟨wr.heap.size,0,none⟩) T.ow.length T.ow.length);simp only[set_cons_zero,set_cons_succ,Nat.add_zero,Nat.reduceAdd]at s0 s1 s2 s3;rw[s0,s1,s2,s3,show(26:Nat)=(f8 f t an).length from TH.symm,mn AN (f8 f t an) mid _ (by rw[uh Xo,aK];omega)]at h5;rw[show 26=(f8 f t an).length from TH.symm];rw[uh Xo]at h5 ⊢;exact h5
   obtain⟨w5,ZX⟩:∃w5,w5=(((wr.alloc (Obj.cells (madeCells #[Value.bool false] T.ow.length) 4)).setCell ⟨q,53,none⟩ (Value.slice (some ⟨wr.heap.size,0,none⟩) T.ow.length T.ow.length)).setCells q 26 AN):=⟨_,rfl⟩;rw[<-ZX]at hobF ⊢;have fq:∀k,k<wr.heap.size->k≠q->w5.heap[k]?=wr.heap[k]?:=by
    intro k hk aJ;rw[ZX,jR aJ,heap_setCell _ _ _ _ aJ,heap_alloc _ _ _ hk]
   have yO:∀k,k<O->k≠q->w5.heap[k]?=w3.heap[k]?:=λk hk aJ=>(fq k (by omega) aJ).trans ((uh aE).block k (by omega) (by simp;omega));have gJ:∀k,k∈aD t tav tov->k<w.heap.size/\k≠q:=λk hk=>⟨(uh HT).lt k hk,uh HQ k (by simp[hk])⟩;have N4:∀k,k∈aD w.heap.size fav lv->k<=w.heap.size/\k≠q:=by
    intro k hk;simp only[aD,mem_cons,mem_append,Option.mem_toList]at hk;rcases hk with rfl|hk|hk
    .exact⟨zq4 _,by omega⟩
    .exact⟨Nat.le_of_lt ((uh HF).ap.lt k hk).2,uh HQ k (by simp[aD,hk])⟩
    .exact⟨Nat.le_of_lt ((uh HL).lt k hk).2,uh HQ k (by simp[hk])⟩
   refine⟨rfl,w.heap.size,.slice (some ⟨O,0,none⟩) l.length l.length,.slice (some ⟨wr.heap.size,0,none⟩) T.ow.length T.ow.length,⟨hobF,yM,yM,?_,?_,?_,?_,?_,?_,?_⟩,?_⟩
   .have h1:=uh aR;rw[Nat.sub_self]at h1;simp only[replicate_zero,append_nil]at h1;have h2:(lM (vw F l) T an st).ot=replicate l.length none:=rfl;rw[h2];simp only[a6,map_replicate,length_replicate];exact ae h1 (λk hk=>by cases hk;exact fq O hL3 (by omega))
   .have h1:=ownsRow_lit (base:=0) (e:=4) (size:=1) wr (madeCells #[Value.bool false] T.ow.length) T.ow.length (zq5 _) (by simp[maxLen];omega) (by simp[madeCells]);rw[toList_madeCells_one]at h1;have h2:(lM (vw F l) T an st).pl=replicate T.ow.length false:=rfl;rw[h2];simp only[map_replicate,length_replicate];refine ae h1 (λk hk=>?_);cases hk
    have aJ:wr.heap.size≠q:=(by omega);rw[ZX,jR aJ];exact heap_setCell _ _ _ _ aJ
   .show [q,O,wr.heap.size].Nodup;simp;omega
   .exact(uh qg).of_eq (λk hk=>yO k (by have:=(gJ k hk).1;omega) (gJ k hk).2)
   .exact(uh HV3).of_eq (λk hk=>yO k (by have:=(N4 k hk).1;omega) (N4 k hk).2)
   .intro k hk;have:=gJ k hk;show k ∉ [q,O,wr.heap.size];simp;omega
   .intro k hk;have:=N4 k hk;show k ∉ [q,O,wr.heap.size];simp;omega
   .have h1:=uh ajt;have h2:=uh aE;have h3:ar [q] wr [q] w5:=(by rw[ZX];exact ar.setCells (by simp) _ _ (((ar.refl [q] wr).alloc _).setCell (zq0 (by simp)) _));refine⟨h3.os.trans (h2.os.trans h1.os),h3.tape.trans (h2.tape.trans h1.tape),h3.output.trans (h2.output.trans h1.output),zq3 h1.size (zq3 h2.size h3.size),λk hk hF=>?_,λk hk=>?_⟩
    .have aJ:k≠q:=(by simpa using hF);exact(yO k (by omega) aJ).trans (h1.block k hk hF)
    .have Dn:k∈[q,O,wr.heap.size]:=hk;simp at Dn;simp;omega
theorem X9{V T:CF}{an:List (Option Nat)}{st:Int}(yM:an.length=24):Wf V T (lM V T an st)/\(uP (lM V T an st)).length+0=T.ow.length:=by
 have xH:uP (lM V T an st)=range T.ow.length:=by
  unfold uP lM;simp only[length_replicate];rw[filter_eq_self];intro k hk;have:=mem_range.1 hk;simp[getD_eq_getElem?_getD,this]
 have ir:qn (lM V T an st)=range V.ow.length:=by
  unfold qn lM;simp only[length_replicate];rw[filter_eq_self];intro k hk;have:=mem_range.1 hk;simp[getD_eq_getElem?_getD,this]
 exact⟨⟨by simp[lM],by simp[lM],yM,by rw[ir];simp[lM]⟩,by rw[xH];simp⟩
structure Se(w:World)(q f t:Nat)(an:List (Option Nat))(F T:CF)(fav fov tav tov:Value)(st:Int):Prop where
 sq:Sq w q f t an st
 ff:dF w f F fav fov
 ft:dF w t T tav tov
 nf:∀k∈aD f fav fov,k≠q
 nt:∀k∈aD t tav tov,k≠q
theorem tV{w:World}{q f t:Nat}{an:List (Option Nat)}{st:Int}{F T:CF}{l:List Pr}{fav fov tav tov lv:Value}(h:Se w q f t an F T fav fov tav tov st)(hl:w.ownsRow 0 182 3 lv l.length (af l))(hlq:∀k,lv.ownBlock=some k->k≠q)(sQ:l.length<=1000000)(pw:T.ow.length<=1000000)(hR:Rm T)(hA:VL T):
  Calls prog 153 #[.pointer (some ⟨q,0,none⟩),lv] w λe w'=>e=.returned (.bool (xj (vw F l) T an st).1)/\∃v ov pv,Sw w' ⟨q,f,t,v,an,tav,tov,fav,lv,ov,pv⟩ T (vw F l) (xj (vw F l) T an st).2/\ar [q] w (Ee q ov pv) w'/\(∀k∈Ee q ov pv,k=q\/w.heap.size<=k):=by
 have HB:=ab (Ji h.sq h.ff h.ft hl sQ pw (λk hk=>by
  simp only[mem_append,Option.mem_toList]at hk;rcases hk with hk|hk|hk
  .exact h.nf k hk
  .exact h.nt k hk
  .exact hlq k hk))
 have yM:an.length=24:=by obtain⟨_,_,_,_,_,_,_,h2⟩:=h.sq;exact h2
 have HP:=ab (λy=>uI (y:=y) (T:=T) (V:=vw F l) hR hA pw sQ (m:=l.length+1) (aby hR hA pw sQ _));obtain⟨hwf,xH⟩:=X9 (V:=vw F l) (T:=T) (an:=an) (st:=st) yM;have HW:=ab hwf;have HU:=ab xH;clear h hl hlq hwf xH;go_enter func153,ntmps153;go_wp2_with fail
 refine(uh HB).mono ?_;rintro e w1 ⟨rfl,v,ov,pv,bq,jd⟩;have bT:=ab bq;have mW:=ab jd;clear bq jd;go_wp2_with fail
 refine(uh HP ⟨q,f,t,v,an,tav,tov,fav,lv,ov,pv⟩ w1 (lM (vw F l) T an st) 0 (uh bT) (uh HW) (by show l.length<l.length+1;omega) (uh HU)).mono ?_;rintro e w2 ⟨rfl,bE,Tl⟩;have cH:=ab bE;have ku:=ab Tl;clear bE Tl;go_wp2_with fail
 go_ret;refine⟨rfl,v,ov,pv,uh cH,(uh mW).trans (uh ku),λk hk=>?_⟩;rcases(uh mW).foot k hk with h1|h1
 .exact zq0 (by simpa using h1)
 .exact zq1 h1
theorem xJ(i:Nat)(hi:i<=1000000)(w:World):Calls prog 180 #[.int .i64 i] w λe w'=>e=.returned (.tuple #[.int .i64 ((24+2*i:Nat):Int),.int .i64 ((25+2*i:Nat):Int)])/\w'=w:=by
 go_enter func180,ntmps180;go_wp2_with fail
 refine bodyPost_ret (v:=.tuple #[.int .i64 ((24+2*i:Nat):Int),.int .i64 ((25+2*i:Nat):Int)]) ?_ rfl ⟨rfl,rfl⟩;simp[results,Tryz.results180,go_sem];omega
theorem ye{w:World}{q f t:Nat}{an:List (Option Nat)}{st:Int}{F:CF}{l:List Pr}{fav fov lv:Value}(h:Sq w q f t an st)(hF:dF w f F fav fov)(hl:w.ownsRow 0 182 3 lv l.length (af l)){i:Nat}(hi:i<l.length):
  Calls prog 178 #[.pointer (some ⟨q,0,none⟩),lv,.int .i64 i] w λe w'=>e=.returned (.bool (Vf F.ow.length l i))/\w'=w:=by
 obtain⟨mid,vv,ov0,uv,pv0,lI,JT,yM⟩:=h;have Rc:w.cell? ⟨q,0,none⟩=some (.pointer (some ⟨f,0,none⟩)):=by rw[ownsRow.cellAt lI 0 (by omega)];rfl
 have GJ:=hF.c6;obtain⟨fao,fcap,afm,afk,hfn,-⟩:=cP hF.ow;have hfm:fcap<=9223372036854775807:=by unfold maxLen at afk;omega
 rw[afm]at GJ;obtain⟨g,cap,dX,Wx,hln⟩:=az hl hi;rw[dX]at hl ⊢;obtain⟨hk,-,-⟩:=ax hl hi;obtain⟨kd,GN⟩:∃kd,kd=(l.getD i au).k:=⟨_,rfl⟩;rw[<-GN]at hk;have HE:Hid (Vf F.ow.length l i=(decide (i<F.ow.length)&&(kd==4))):=ab (by unfold Vf;rw[GN]);clear lI afm afk dX hl GN hF;by_cases aq:i<F.ow.length
 .have hd:decide ((i:Int)<(F.ow.length:Int))=true:=by simp;omega
  have h4:((kd:Int)==4)=(kd==4):=by rw[Bool.eq_iff_iff,beq_iff_eq,beq_iff_eq];omega
  go_enter func178,ntmps178;go_wp2_with fail
  go_ret;exact⟨by rw[uh HE];simp[aq],rfl⟩
 .have hd:decide ((i:Int)<(F.ow.length:Int))=false:=by simp;omega
  go_enter func178,ntmps178;go_wp2_with fail
  go_ret;exact⟨by rw[uh HE];simp[aq],rfl⟩
theorem il{l:List Pr}{i:Nat}(hi:i<l.length)(k:Nat):(af l).set (i*3) (.int .i64 (k:Int))=af (l.set i ⟨k,(l.getD i au).l,(l.getD i au).r⟩):=by
 induction l generalizing i with
 |nil=>simp at hi
 |cons x l ih =>
  have hx:∀y:Pr,af (y::l)=[Value.int .i64 y.k,.int .i64 y.l,.int .i64 y.r]++af l:=λy=>rfl;cases i with
  |zero=>rw[hx,set_cons_zero,hx];rfl
  |succ i =>
   have h1:=ih (i:=i) (by simpa using hi);rw[hx,set_append_right _ _ (by simp;omega),set_cons_succ];show _=[Value.int .i64 x.k,.int .i64 x.l,.int .i64 x.r]++af _;rw[show(i+1)*3 - [Value.int .i64 (x.k:Int),.int .i64 (x.l:Int),.int .i64 (x.r:Int)].length=i*3 by simp;omega,h1];rfl
theorem dB{l:List Pr}{i:Nat}(hi:i<l.length)(r:Nat):(af l).set (i*3+2) (.int .i64 (r:Int))=af (l.set i ⟨(l.getD i au).k,(l.getD i au).l,r⟩):=by
 induction l generalizing i with
 |nil=>simp at hi
 |cons x l ih =>
  have hx:∀y:Pr,af (y::l)=[Value.int .i64 y.k,.int .i64 y.l,.int .i64 y.r]++af l:=λy=>rfl;cases i with
  |zero=>rw[hx,set_cons_zero,hx];rfl
  |succ i =>
   have h1:=ih (i:=i) (by simpa using hi);rw[hx,set_append_right _ _ (by simp;omega),set_cons_succ];show _=[Value.int .i64 x.k,.int .i64 x.l,.int .i64 x.r]++af _;rw[show(i+1)*3+2 - [Value.int .i64 (x.k:Int),.int .i64 (x.l:Int),.int .i64 (x.r:Int)].length=i*3+2 by simp;omega,h1];rfl
theorem dZ(l:List Pr):∀u∈af l,u.oneCell'=true:=by
 intro u hu;simp only[af,mem_flatMap]at hu;obtain⟨a,_,ha⟩:=hu;simp only[Uz,mem_cons,not_mem_nil,or_false]at ha;rcases ha with rfl|rfl|rfl <;> rfl
theorem infoPair:(prog.info? 182).map (λi=>(i.zero,i.size,i.bytes))=some (some (.agg #[.int .i64 0,.int .i64 0,.int .i64 0]),3,24):=by kernel_rfl
theorem Gc{w:World}{l:List Pr}{lv:Value}(hl:w.ownsRow 0 182 3 lv l.length (af l)){i size:Nat}(hi:i<l.length)(sQ:l.length<=10000)(ko:size=1\/size=2\/size=3):
  Calls prog 156 #[lv,.int .i64 i,.int .i64 size] w λe w'=>∃v,e=.returned v/\w'.ownsRow w.heap.size 182 3 v (fj l i size).length (af (fj l i size))/\Below w.heap.size w w':=by
 obtain⟨i0,iL,eo,ep,eK⟩:=info_parts infoPair;have HL:=ab hl;have ajc:=ab (C8.of_own hl (by omega));obtain⟨lg,lcap,dX,Wx,hln⟩:=az hl hi;have yj:=ab dX;have Rw:=ab (xJ i (by omega) w);rw[dX];clear hl dX;go_enter func156,ntmps156;go_wp2_with fail
 refine(uh Rw).mono ?_;rintro e w1 ⟨rfl,rfl⟩;obtain⟨near,rI⟩:∃near:Nat,near=24+2*i:=⟨_,rfl⟩;obtain⟨far,BU⟩:∃far:Nat,far=25+2*i:=⟨_,rfl⟩;rw[<-rI,<-BU];have lj:=ownsRow_lit (base:=w1.heap.size) (e:=182) (size:=3) w1 #[] 0 (zq4 _) (by simp[maxLen]) rfl;have ru:=ab lj;have Vx:=ab ((uh ajc).below ((Below.refl w1.heap.size w1).alloc (zq4 _) (.cells #[] 182)));rw[uh yj]at Vx;have HN:=ab rI;have KH:=ab BU;have jF:near<=30000:=by omega
 have BS:far<=30000:=by omega
 clear lj rI BU;go_wp2_with (at_builtin;refine ja rfl (.tmp 16) (.tmp 17) 177 rfl w1.heap.size 182 i0 _ 3 24 underlying177 iL eo ep eK rfl (by decide) _ 0 [] rfl (uh ru) _ l.length (af l) rfl (uh Vx) (dZ l) (by omega) (by decide) (by simp) ?_)
 intro v1 wA cy ce;have hbA:Below w1.heap.size w1 wA:=((Below.refl w1.heap.size w1).alloc (zq4 _) _).grown ce (by simp) (λk e=>by cases e;exact zq4 _);obtain⟨g,cap,WO,kj,fQ⟩:=az (eM cy (zq5 _)) hi;subst WO;obtain⟨Dl,-,r7⟩:=ax (eM cy (zq5 _)) hi;obtain⟨kd,GN⟩:∃kd,kd=(l.getD i au).k:=⟨_,rfl⟩;obtain⟨rr,AF⟩:∃rr,rr=(l.getD i au).r:=⟨_,rfl⟩;rw[<-GN]at Dl;rw[<-AF]at r7;have hz:=cy.frozenAt (i*3);have hrowB:=(cy.stored (i*3) (.int .i64 3)).1;rw[show(Value.int .i64 3)=Value.int .i64 ((3:Nat):Int) from rfl,il hi]at hrowB;have hlB:(l.set i ⟨3,(l.getD i au).l,(l.getD i au).r⟩).length=l.length:=by simp
 have hiB:i<(l.set i ⟨3,(l.getD i au).l,(l.getD i au).r⟩).length:=by rw[hlB];exact hi
 have hrowB':(wA.setCell ⟨g,i*3,none⟩ (.int .i64 3)).ownsRow w1.heap.size 182 3 (.slice (some ⟨g,0,none⟩) l.length cap) (l.set i ⟨3,(l.getD i au).l,(l.getD i au).r⟩).length (af (l.set i ⟨3,(l.getD i au).l,(l.getD i au).r⟩)):=by rw[hlB];exact hrowB
 have hBg:w1.heap.size<=g:=(cy.lt g rfl).1;have hbB:Below w1.heap.size w1 (wA.setCell ⟨g,i*3,none⟩ (.int .i64 3)):=hbA.setCell hBg _;have HB:=ab hbB;have VD:=ab hrowB';have HKD:=ab GN;have HRR:=ab AF;have kV:=ab hBg;have HGr:=ab ce;rcases ko with rfl|ko
 .clear cy hbA GN AF hrowB hrowB' hbB ce hlB hiB;go_wp2_with fail
  refine bodyPost_ret (v:=.slice (some ⟨g,0,none⟩) l.length cap) (by simp[results,Tryz.results156,go_sem]) rfl ⟨_,rfl,?_,uh HB⟩;unfold fj;rw[if_pos rfl];have:=uh VD;simp only[length_set]at this ⊢;exact this
 .have hc2B:(wA.setCell ⟨g,i*3,none⟩ (.int .i64 3)).cell? ⟨g,i*3+2,none⟩=some (.int .i64 rr):=by
   rw[cell?_setCell_other _ _ _ _ (by simp)];exact r7
  have hzB:(wA.setCell ⟨g,i*3,none⟩ (.int .i64 3)).frozen? ⟨g,i*3+2,none⟩=false:=hrowB.frozenAt (i*3+2);have hrowC:=(hrowB.stored (i*3+2) (.int .i64 (near:Int))).1;rw[dB hiB]at hrowC;have eC:(l.set i ⟨3,(l.getD i au).l,(l.getD i au).r⟩).set i ⟨((l.set i ⟨3,(l.getD i au).l,(l.getD i au).r⟩).getD i au).k,((l.set i ⟨3,(l.getD i au).l,(l.getD i au).r⟩).getD i au).l,near⟩=l.set i ⟨3,(l.getD i au).l,near⟩:=by
   rw[set_set,aU _ _ _ _ _ hi,if_pos rfl]
  rw[eC]at hrowC;replace hrowC:((wA.setCell ⟨g,i*3,none⟩ (.int .i64 3)).setCell ⟨g,i*3+2,none⟩ (.int .i64 (near:Int))).ownsRow w1.heap.size 182 3 (.slice (some ⟨g,0,none⟩) l.length cap) l.length (af (l.set i ⟨3,(l.getD i au).l,near⟩)):=hrowC
  have hbC:Below w1.heap.size w1 ((wA.setCell ⟨g,i*3,none⟩ (.int .i64 3)).setCell ⟨g,i*3+2,none⟩ (.int .i64 (near:Int))):=hbB.setCell hBg _;have HRC:=ab hrowC;have Vn:=ab hbC;have cY:((size:Int)==1)=false:=by rw[beq_eq_false_iff_ne];omega
  clear cy hbA GN AF hrowB hrowB' hbB ce hlB hiB eC hrowC hbC;rcases ko with rfl|rfl
  .go_wp2_with (at_builtin;refine aH _ rfl (.tmp 38) (.tmp 42) 177 rfl w1.heap.size 182 i0 _ 3 24 underlying177 iL eo ep eK rfl (by decide) _ l.length (af (l.set i ⟨3,(l.getD i au).l,near⟩)) rfl ((uh HRC).alloc _) ⟨_,0,none⟩ 1 [.int .i64 3,.int .i64 near,.int .i64 rr] rfl rfl ?c1 ?c2 ?c3 ?c4 ?c5 ?_)
   case c1=>exact oH _ _ (by simp) _ _
   case c2=>exact dZ [⟨3,near,rr⟩]
   case c3=>omega
   case c4=>omega
   case c5=>have:=(uh Vn).size;simp at this ⊢;omega
   intro g2 cap2 wD hownD hgrowD hblkD;have hbD:Below w1.heap.size w1 wD:=((uh Vn).alloc (uh Vn).size _).grown hgrowD (by have:=(uh Vn).size;simp[World.setCell]at this ⊢;omega) (λk e=>by cases e;exact uh kV);have HD:=ab hownD;have Vo:=ab hbD;clear hownD hgrowD hblkD hbD;go_wp2_with fail
   refine bodyPost_ret (v:=.slice (some ⟨g2,0,none⟩) (l.length+1) cap2) (by simp[results,Tryz.results156,go_sem]) rfl ⟨_,rfl,?_,uh Vo⟩;unfold fj;rw[if_neg (by decide),if_pos rfl,<-uh HN,<-uh HRR,cU,gS hi];have:=uh HD;simp only[length_append,length_set,length_singleton];exact this
  .go_wp2_with (at_builtin;refine aH _ rfl (.tmp 44) (.tmp 48) 177 rfl w1.heap.size 182 i0 _ 3 24 underlying177 iL eo ep eK rfl (by decide) _ l.length (af (l.set i ⟨3,(l.getD i au).l,near⟩)) rfl ((uh HRC).alloc _) ⟨_,0,none⟩ 1 [.int .i64 4,.int .i64 near,.int .i64 far] rfl rfl ?c1 ?c2 ?c3 ?c4 ?c5 ?_)
   case c1=>exact oH _ _ (by simp) _ _
   case c2=>exact dZ [⟨4,near,far⟩]
   case c3=>omega
   case c4=>omega
   case c5=>have:=(uh Vn).size;simp at this ⊢;omega
   intro g2 cap2 wD hownD hgrowD hblkD;have hbD:Below w1.heap.size w1 wD:=((uh Vn).alloc (uh Vn).size _).grown hgrowD (by have:=(uh Vn).size;simp[World.setCell]at this ⊢;omega) (λk e=>by cases e;exact uh kV);have HD:=ab hownD;have Vo:=ab hbD;clear hownD hgrowD hblkD hbD;go_wp2_with (at_builtin;refine aH _ rfl (.tmp 50) (.tmp 54) 177 rfl w1.heap.size 182 i0 _ 3 24 underlying177 iL eo ep eK rfl (by decide) _ (l.length+1) _ rfl ((uh HD).alloc _) ⟨_,0,none⟩ 1 [.int .i64 3,.int .i64 far,.int .i64 rr] rfl rfl ?d1 ?d2 ?d3 ?d4 ?d5 ?_)
   case d1=>exact oH _ _ (by simp) _ _
   case d2=>exact dZ [⟨3,far,rr⟩]
   case d3=>omega
   case d4=>omega
   case d5=>have:=(uh Vo).size;simp at this ⊢;omega
   intro g3 cap3 wE hownE hgrowE hblkE;have hbE:Below w1.heap.size w1 wE:=((uh Vo).alloc (uh Vo).size _).grown hgrowE (by have:=(uh Vo).size;simp;omega) (λk e=>((uh HD).lt k e).1);have HE:=ab hownE;have nO:=ab hbE;clear hownE hgrowE hblkE hbE;go_wp2_with fail
   refine bodyPost_ret (v:=.slice (some ⟨g3,0,none⟩) (l.length+1+1) cap3) (by simp[results,Tryz.results156,go_sem]) rfl ⟨_,rfl,?_,uh nO⟩;unfold fj;rw[if_neg (by decide),if_neg (by decide),<-uh HN,<-uh KH,<-uh HRR,cU,gS hi];have:=uh HE;simp only[length_append,length_set,length_cons,length_nil];exact this
