import Derived.Test.YtciihepbeacppaaGreatM01
import Derived.Test.YtciihepbeacppaaGreatM02
import Derived.Test.YtciihepbeacppaaGreatM05
import Derived.Test.YtciihepbeacppaaGreatRG
import Derived.Test.YtciihepbeacppaaGreatWX
import Derived.Deep.LoopGhost
import Derived.Laws.OwnMore
namespace Go.Proofs.YtciihepbeacppaaGreat
open Go.RowKit
set_option linter.unusedVariables false
def Rd (ws:List ByteArray) (s:PS) (r:List ByteArray):Prop:=s.failed = false∧ws.drop s.pos = r∧s.pos≤ws.length
def Res (ws:List ByteArray) (s:PS):Option (List ByteArray)→Prop
 | none=>s.failed = true
 | some r=>Rd ws s r
structure Par (ws:List ByteArray) (F:PS→PS) (f:List ByteArray→Option (List ByteArray)):Prop where
 ok:∀ s r,Rd ws s r→Res ws (F s) (f r)
 bad:∀ s,s.failed = true→(F s).failed = true
 nd:∀ s,(F s).nodes = s.nodes
def hdB (k:ByteArray):List ByteArray→Bool
 | []=>false
 | x :: _=>eqW x k
def pEx (k:ByteArray):List ByteArray→Option (List ByteArray)
 | []=>none
 | x :: r=>if eqW x k then some r else none
theorem pk_rd {ws:List ByteArray} {s:PS} {x:ByteArray} {r:List ByteArray} (h:Rd ws s (x :: r)):pk ws s = x:=by
 unfold pk;rw [if_neg (by simp [h.1])]
 have:ws[s.pos]? = some x:=by rw [← List.head?_drop,h.2.1];rfl
 rw [this];rfl
theorem pk_nil {ws:List ByteArray} {s:PS} (h:Rd ws s []):pk ws s = ⟨#[]⟩:=by
 apply pk_end
 have:=congrArg List.length h.2.1
 simp only [List.length_drop,List.length_nil] at this
 omega
theorem adv_rd {ws:List ByteArray} {s:PS} {x:ByteArray} {r:List ByteArray} (h:Rd ws s (x :: r)):Rd ws s.adv r :=
 ⟨h.1,by show ws.drop (s.pos + 1) = r;rw [← List.drop_drop,h.2.1];rfl,by
  have:=congrArg List.length h.2.1
  simp only [List.length_drop,List.length_cons] at this
  show s.pos + 1≤ws.length
  omega⟩
theorem em_l3:(⟨#[]⟩:ByteArray).toList = []:=ByteArray.toList_eq _
theorem acB_rd {ws:List ByteArray} {s:PS} {k:ByteArray} {r:List ByteArray} (hk:k.toList≠[]) (h:Rd ws s r):acB ws k s = hdB k r:=by
 cases r with
 | nil=>unfold acB;rw [pk_nil h,em_l3];cases hk':k.toList with
  | nil=>exact absurd hk' hk
  | cons _ _=>rfl
 | cons x r=>unfold acB;rw [pk_rd h];rfl
theorem acB_bad {ws:List ByteArray} {s:PS} {k:ByteArray} (hk:k.toList≠[]) (h:s.failed = true):acB ws k s = false:=by
 unfold acB;rw [pk_failed h,em_l3];cases hk':k.toList with
  | nil=>exact absurd hk' hk
  | cons _ _=>rfl
theorem Par.comp {ws:List ByteArray} {F G:PS→PS} {f g:List ByteArray→Option (List ByteArray)} (hF:Par ws F f) (hG:Par ws G g):Par ws (fun s=>G (F s)) (fun r=>(f r).bind g):=by
 refine ⟨fun s r h=>?_,fun s h=>hG.bad _ (hF.bad _ h),fun s=>(hG.nd _).trans (hF.nd s)⟩
 have:=hF.ok s r h
 cases hf:f r with
 | none=>rw [hf] at this;exact hG.bad _ this
 | some r'=>rw [hf] at this;exact hG.ok _ _ this
theorem Par.ite {ws:List ByteArray} {A B:PS→PS} {a b:List ByteArray→Option (List ByteArray)} {k:ByteArray} (hk:k.toList≠[]) (hA:∀ s x r,Rd ws s (x :: r)→Res ws (A s) (a (x :: r))) (hN:∀ s,(A s).nodes = s.nodes) (hB:Par ws B b):Par ws (fun s=>if acB ws k s then A s else B s) (fun r=>if hdB k r then a r else b r):=by
 refine ⟨fun s r h=>?_,fun s h=>?_,fun s=>by split;exact hN s;exact hB.nd s⟩
 ·rw [acB_rd hk h]
  cases r with
  | nil=>simp only [hdB,Bool.false_eq_true,if_false];exact hB.ok _ _ h
  | cons x r =>
   split
   ·exact hA _ _ _ h
   ·exact hB.ok _ _ h
 ·rw [acB_bad hk h];exact hB.bad _ h
theorem par_ex {ws:List ByteArray} {k:ByteArray} (hk:k.toList≠[]):Par ws (exS ws k) (pEx k):=by
 refine ⟨fun s r h=>?_,fun s h=>?_,fun s=>by unfold exS;split <;> rfl⟩
 ·unfold exS;rw [acB_rd hk h]
  cases r with
  | nil=>simp [hdB,pEx,Res,PS.fail]
  | cons x r =>
   show Res ws (if eqW x k = true then s.adv else s.fail) (if eqW x k = true then some r else none)
   by_cases hx:eqW x k = true
   ·rw [if_pos hx,if_pos hx];exact adv_rd h
   ·rw [if_neg hx,if_neg hx];rfl
 ·unfold exS;rw [acB_bad hk h];simp [PS.fail]
def pVa:List ByteArray→Option (List ByteArray)
 | []=>none
 | x :: r=>if lowB x then some r else none
theorem lowB_em:lowB ⟨#[]⟩ = false:=rfl
theorem upB_em:upB ⟨#[]⟩ = false:=rfl
theorem par_va {ws:List ByteArray}:Par ws (vaS ws) pVa:=by
 refine ⟨fun s r h=>?_,fun s h=>?_,fun s=>by unfold vaS;split <;> rfl⟩
 ·unfold vaS
  cases r with
  | nil=>rw [pk_nil h,lowB_em];simp [pVa,Res,PS.fail]
  | cons x r =>
   rw [pk_rd h];simp only [pVa]
   split
   ·exact ⟨h.1,(adv_rd h).2⟩
   ·simp [Res,PS.fail]
 ·unfold vaS;rw [pk_failed h,lowB_em];simp [PS.fail]
theorem kNil_n:kNil.toList≠[]:=by rw [ByteArray.toList_eq];simp [kNil]
theorem kEq_n:kEq.toList≠[]:=by rw [ByteArray.toList_eq];simp [kEq]
theorem kNe_n:kNe.toList≠[]:=by rw [ByteArray.toList_eq];simp [kNe]
theorem kTo_n:kTo.toList≠[]:=by rw [ByteArray.toList_eq];simp [kTo]
theorem kOpen_n:kOpen.toList≠[]:=by rw [ByteArray.toList_eq];simp [kOpen]
theorem kComma_n:kComma.toList≠[]:=by rw [ByteArray.toList_eq];simp [kComma]
theorem kClose_n:kClose.toList≠[]:=by rw [ByteArray.toList_eq];simp [kClose]
theorem kEmp_n:kEmp.toList≠[]:=by rw [ByteArray.toList_eq];simp [kEmp]
theorem kLs_n:kLs.toList≠[]:=by rw [ByteArray.toList_eq];simp [kLs]
theorem kStar_n:kStar.toList≠[]:=by rw [ByteArray.toList_eq];simp [kStar]
def pVal (r:List ByteArray):Option (List ByteArray):=if hdB kNil r then some r.tail else pVa r
theorem par_val {ws:List ByteArray}:Par ws (valS ws) pVal:=Par.ite kNil_n (fun _ _ _ h=>adv_rd h) (fun _=>rfl) par_va
def pTe:List ByteArray→Option (List ByteArray)
 | []=>none
 | x :: r=>if upB x then some r else pVal (x :: r)
theorem par_te {ws:List ByteArray}:Par ws (teS ws) pTe:=by
 refine ⟨fun s r h=>?_,fun s h=>?_,fun s=>by unfold teS;split;rfl;exact par_val.nd s⟩
 ·unfold teS
  cases r with
  | nil=>rw [pk_nil h,upB_em];exact par_val.ok _ _ h
  | cons x r =>
   rw [pk_rd h];simp only [pTe]
   cases hx:upB x with
   | true=>exact ⟨h.1,(adv_rd h).2⟩
   | false=>exact par_val.ok _ _ h
 ·unfold teS;rw [pk_failed h,upB_em];exact par_val.bad _ h
def pRel (r:List ByteArray):Option (List ByteArray):=if hdB kEq r then some r.tail else if hdB kNe r then some r.tail else pEx kTo r
theorem par_rel {ws:List ByteArray}:Par ws (relS ws) pRel:=Par.ite kEq_n (fun _ _ _ h=>adv_rd h) (fun _=>rfl) (Par.ite kNe_n (fun _ _ _ h=>adv_rd h) (fun _=>rfl) (par_ex kTo_n))
def pLi (r:List ByteArray):Option (List ByteArray):=((((pEx kOpen r).bind pTe).bind (pEx kComma)).bind pTe).bind (pEx kClose)
theorem par_li {ws:List ByteArray}:Par ws (liS ws) pLi:=((((par_ex kOpen_n).comp par_te).comp (par_ex kComma_n)).comp par_te).comp (par_ex kClose_n)
def pAtom (r:List ByteArray):Option (List ByteArray):=if hdB kEmp r then some r.tail else if hdB kLs r then pLi r.tail else ((pTe r).bind pRel).bind pTe
theorem par_atom {ws:List ByteArray}:Par ws (atS ws) pAtom :=
 Par.ite kEmp_n (fun _ _ _ h=>adv_rd h) (fun _=>rfl) (Par.ite kLs_n (fun _ _ _ h=>par_li.ok _ _ (adv_rd h)) (fun s=>par_li.nd s.adv) ((par_te.comp par_rel).comp par_te))
theorem par_id {ws:List ByteArray}:Par ws (fun s=>s) some:=⟨fun _ _ h=>h,fun _ h=>h,fun _=>rfl⟩
def pFoG:Nat→List ByteArray→Option (List ByteArray)
 | 0,r=>some r
 | n + 1,r=>if hdB kStar r then (pAtom r.tail).bind (pFoG n) else some r
theorem par_foG {ws:List ByteArray} (n:Nat):Par ws (fun s=>(foG ws n s).2) (pFoG n):=by
 induction n with
 | zero=>exact par_id
 | succ n ih =>
  have e:(fun s=>(foG ws (n + 1) s).2) = (fun s=>if acB ws kStar s then (foG ws n (atS ws s.adv)).2 else s):=by
   funext s;simp only [foG];split <;> rfl
  rw [e]
  exact Par.ite kStar_n (fun _ _ _ h=>(par_atom.comp ih).ok _ _ (adv_rd h)) (fun s=>(par_atom.comp ih).nd s.adv) par_id
def pFor (n:Nat) (r:List ByteArray):Option (List ByteArray):=(pAtom r).bind (pFoG n)
theorem par_for {ws:List ByteArray}:Par ws (foS ws) (pFor (ws.length + 1)):=par_atom.comp (par_foG (ws.length + 1))
def n0 (f:List ByteArray→Option (List ByteArray)) (r:List ByteArray):Option (List ByteArray × Nat):=(f r).map (fun q=>(q,0))
def n1 (f:List ByteArray→Option (List ByteArray)) (r:List ByteArray):Option (List ByteArray × Nat):=(f r).map (fun q=>(q,1))
def one (r:List ByteArray):Option (List ByteArray × Nat):=some (r,1)
structure Pr where
 k:Nat
 l:Nat
 r:Nat
def pr0:Pr:=⟨0,0,0⟩
structure CF where
 cl:List Nat
 ap:List Pr
 ow:List Pr
def tNo (k i:Nat):Nat:=if k = 1 then 1 + i else if k = 2 then 5 + i else 0
def mrg1 (c:List Nat) (a:Atm):List Nat:=if a.k = 1 then c.map (fun x=>if x = c.getD (tNo a.rk a.ri) 0 then c.getD (tNo a.lk a.li) 0 else x) else c
def mrg (al:List Atm):List Nat:=al.foldl mrg1 (List.range 13)
def prOf (c:List Nat) (a:Atm):Pr:=⟨a.k,c.getD (tNo a.lk a.li) 0,c.getD (tNo a.rk a.ri) 0⟩
def cfOf (al:List Atm):CF:=⟨(mrg al).take 5,(al.filter (fun a=>a.k == 2)).map (prOf (mrg al)),(al.filter (fun a=>a.k == 3 || a.k == 4)).map (prOf (mrg al))⟩
def bgn:List Pr→Nat→Option Nat
 | [],_=>none
 | p :: r,c=>if p.l = c then some 0 else (bgn r c).map (· + 1)
def dupB:List Nat→List Pr→Bool
 | _,[]=>false
 | seen,p :: r=>if p.l∈seen then true else dupB (p.l :: seen) r
def falB (f:CF):Bool:=f.ap.any (fun p=>p.l == p.r) || dupB [f.cl.getD 0 0] f.ow
def clrB (f:CF) (a b:Nat):Bool:=((bgn f.ow a).isSome && ((bgn f.ow b).isSome || b == f.cl.getD 0 0)) || ((bgn f.ow b).isSome && a == f.cl.getD 0 0)
def difB (f:CF) (a b:Nat):Bool:=if a = b then false else f.ap.any (fun p=>(p.l == a && p.r == b) || (p.l == b && p.r == a)) || clrB f a b
structure SS where
 bd:List (Option Nat)
 ot:List (Option Nat)
 un:Nat
 pl:List Bool
 st:Int
def SS.b (s:SS) (c:Nat):Option Nat:=s.bd.getD c none
def apB (V T:CF) (s:SS):Bool:=T.ap.all (fun p=>p.l != p.r && (match s.b p.l,s.b p.r with | some a,some b=>difB V a b | _,_=>true))
def chF (T:CF) (s:SS):List Nat→Option Nat→Option Nat
 | [],o=>o
 | k :: r,o=>if s.pl.getD k false = true then chF T s r o else if (s.b (T.ow.getD k pr0).l).isSome = true then some k else chF T s r (if o.isSome = true then o else some k)
def chs (T:CF) (s:SS):Option Nat:=chF T s (List.range s.pl.length) none
def plL (W:SS→Nat→Nat→Nat→Bool × SS) (k left count:Nat):List Pr→SS→Bool × SS
 | [],s=>(false,{ s with bd:=s.bd.set left none })
 | p :: r,s=>match W { s with bd:=s.bd.set left (some p.l) } k p.l count with
  | (true,s')=>(true,s')
  | (false,s')=>plL W k left count r s'
def plF (W:SS→Nat→Nat→Nat→Bool × SS) (V T:CF) (s:SS) (count:Nat):Bool × SS :=
 if T.ow.length = count then (decide (s.un = 0) && apB V T s,s)
 else if s.un < T.ow.length - count then (false,s)
 else match chs T s with
  | none=>(false,s)
  | some k=>match s.b (T.ow.getD k pr0).l with
   | some at_=>W s k at_ count
   | none=>plL W k (T.ow.getD k pr0).l count V.ow s
def enF (P:SS→Nat→Bool × SS) (T:CF) (s:SS) (k at_ count:Nat):Bool × SS :=
 if s.b (T.ow.getD k pr0).r≠none∧s.b (T.ow.getD k pr0).r≠some at_ then (false,s)
 else match P { s with bd:=s.bd.set (T.ow.getD k pr0).r (some at_),pl:=s.pl.set k true } (count + 1) with
  | (true,s')=>(true,s')
  | (false,s')=>(false,{ s' with pl:=s'.pl.set k false,bd:=s'.bd.set (T.ow.getD k pr0).r (s.b (T.ow.getD k pr0).r) })
def wk (V T:CF):Nat→SS→Nat→Nat→Nat→Bool × SS
 | 0,s,_,_,_=>(false,s)
 | m + 1,s,k,at_,count =>
  if wrap64 (s.st - 1) < 0 then (false,{ s with st:=wrap64 (s.st - 1) })
  else match bgn V.ow at_ with
   | none=>(false,{ s with st:=wrap64 (s.st - 1) })
   | some i =>
    if s.ot.getD i none≠none then (false,{ s with st:=wrap64 (s.st - 1) })
    else if (T.ow.getD k pr0).k≠4∧(V.ow.getD i pr0).k = 4 then (false,{ s with st:=wrap64 (s.st - 1) })
    else match enF (plF (wk V T m) V T) T { s with st:=wrap64 (s.st - 1),ot:=s.ot.set i (some k),un:=s.un - 1 } k (V.ow.getD i pr0).r count with
     | (true,s')=>(true,s')
     | (false,s2)=>match (if (T.ow.getD k pr0).k = 4 then wk V T m s2 k (V.ow.getD i pr0).r count else (false,s2)) with
      | (true,s')=>(true,s')
      | (false,s3)=>(false,{ s3 with ot:=s3.ot.set i none,un:=s3.un + 1 })
def prC (p:Pr):List Value:=[.int .i64 p.k,.int .i64 p.l,.int .i64 p.r]
def prCells (l:List Pr):List Value:=l.flatMap prC
def opI:Option Nat→Int
 | none=>-1
 | some n=>n
def opCells (l:List (Option Nat)):List Value:=l.map (fun o=>Value.int .i64 (opI o))
theorem prCells_app (a b:List Pr):prCells (a ++ b) = prCells a ++ prCells b:=by simp [prCells]
theorem pr_get {l:List Pr} {k:Nat} (h:k < l.length):(prCells l)[k * 3]? = some (.int .i64 l[k].k)∧(prCells l)[k * 3 + 1]? = some (.int .i64 l[k].l)∧(prCells l)[k * 3 + 2]? = some (.int .i64 l[k].r):=by
 induction l generalizing k with
 | nil=>simp at h
 | cons x l ih =>
  have hx:prCells (x :: l) = [Value.int .i64 x.k,.int .i64 x.l,.int .i64 x.r] ++ prCells l:=rfl
  cases k with
  | zero=>rw [hx];simp
  | succ k =>
   have:=ih (k:=k) (by simpa using h)
   rw [hx,show (k + 1) * 3 = k * 3 + 3 by omega]
   simp only [List.getElem_cons_succ]
   refine ⟨?_,?_,?_⟩
   ·rw [List.getElem?_append_right (by simp)];simpa using this.1
   ·rw [List.getElem?_append_right (by simp)];simpa [show k * 3 + 3 + 1 - 3 = k * 3 + 1 by omega] using this.2.1
   ·rw [List.getElem?_append_right (by simp)];simpa [show k * 3 + 3 + 2 - 3 = k * 3 + 2 by omega] using this.2.2
theorem pr_of_own {w:World} {B:Nat} {v:Value} {l:List Pr} (h:w.ownsRow B 182 3 v l.length (prCells l)) :
  ∃ ao cap,v = .slice ao l.length cap∧cap≤maxLen∧l.length≤cap∧(l≠[]→∃ g,ao = some ⟨g,0,none⟩∧∀ j,(h:j < l.length)→w.cell? ⟨g,j * 3,none⟩ = some (.int .i64 l[j].k)∧w.cell? ⟨g,j * 3 + 1,none⟩ = some (.int .i64 l[j].l)∧w.cell? ⟨g,j * 3 + 2,none⟩ = some (.int .i64 l[j].r)):=by
 have hw:=h
 rcases h.2 with ⟨rfl,h0⟩ | ⟨g,cap,cur,rfl,_,_,hn,hm,_,_⟩
 ·have:l = []:=List.eq_nil_of_length_eq_zero h0
  subst this
  exact ⟨_,_,rfl,by simp,by simp,fun h=>absurd rfl h⟩
 ·refine ⟨_,_,rfl,hm,hn,fun _=>⟨g,rfl,fun j hj=>?_⟩⟩
  have hg:=pr_get hj
  exact ⟨(hw.cellAt _ (by omega)).trans hg.1,(hw.cellAt _ (by omega)).trans hg.2.1,(hw.cellAt _ (by omega)).trans hg.2.2⟩
def clV (f:CF) (i:Nat):Value:=.int .i64 ((f.cl.getD i 0:Nat):Int)
def foCells (f:CF) (av ov:Value):List Value:=[clV f 0,clV f 1,clV f 2,clV f 3,clV f 4,av,ov]
def Ob (w:World) (T n A:Nat) (xs:List Value):Prop:=w.ownsRow 0 T n (.slice (some ⟨A,0,none⟩) 1 1) 1 xs
structure IsF (w:World) (A:Nat) (f:CF) (av ov:Value):Prop where
 ob:Ob w 179 7 A (foCells f av ov)
 ap:w.ownsRow 0 182 3 av f.ap.length (prCells f.ap)
 ow:w.ownsRow 0 182 3 ov f.ow.length (prCells f.ow)
def bsF (A:Nat) (av ov:Value):List Nat:=A :: (av.ownBlock.toList ++ ov.ownBlock.toList)
theorem Ob.of_eq {w w':World} {T n A:Nat} {xs:List Value} (h:Ob w T n A xs) (he:w'.heap[A]? = w.heap[A]?):Ob w' T n A xs :=
 ownsRow_of_eq h (fun k hk=>by cases hk;exact he)
theorem IsF.of_eq {w w':World} {A:Nat} {f:CF} {av ov:Value} (h:IsF w A f av ov) (he:∀ k∈bsF A av ov,w'.heap[k]? = w.heap[k]?):IsF w' A f av ov :=
 ⟨h.ob.of_eq (he A (by simp [bsF])),ownsRow_of_eq h.ap (fun k hk=>he k (by simp [bsF,hk])),ownsRow_of_eq h.ow (fun k hk=>he k (by simp [bsF,hk]))⟩
theorem IsF.lt {w:World} {A:Nat} {f:CF} {av ov:Value} (h:IsF w A f av ov):∀ k∈bsF A av ov,k < w.heap.size:=by
 intro k hk
 simp only [bsF,List.mem_cons,List.mem_append,Option.mem_toList] at hk
 rcases hk with rfl | hk | hk
 ·exact (World.ownsRow.lt h.ob _ rfl).2
 ·exact (h.ap.lt k hk).2
 ·exact (h.ow.lt k hk).2
theorem IsF.drewN {w:World} {A:Nat} {f:CF} {av ov:Value} (h:IsF w A f av ov) (n:Nat):IsF (w.drewN n) A f av ov:=h.of_eq (fun _ _=>by simp)
theorem IsF.alloc {w:World} {A:Nat} {f:CF} {av ov:Value} (h:IsF w A f av ov) (o:Obj):IsF (w.alloc o) A f av ov:=h.of_eq (fun k hk=>Below.heap_alloc _ _ _ (h.lt k hk))
theorem IsF.cls {w:World} {A:Nat} {f:CF} {av ov:Value} (h:IsF w A f av ov) {i:Nat} (hi:i < 5):w.cell? ⟨A,i,none⟩ = some (clV f i):=by
 have:=World.ownsRow.cellAt h.ob i (by omega)
 rw [this]
 have hk:i = 0∨i = 1∨i = 2∨i = 3∨i = 4:=by omega
 rcases hk with rfl | rfl | rfl | rfl | rfl <;> rfl
theorem IsF.c5 {w:World} {A:Nat} {f:CF} {av ov:Value} (h:IsF w A f av ov):w.cell? ⟨A,5,none⟩ = some av:=World.ownsRow.cellAt h.ob 5 (by omega)
theorem IsF.c6 {w:World} {A:Nat} {f:CF} {av ov:Value} (h:IsF w A f av ov):w.cell? ⟨A,6,none⟩ = some ov:=World.ownsRow.cellAt h.ob 6 (by omega)
theorem bgn_hit {l:List Pr} {c k:Nat} (hk:k < l.length) (hn:∀ j,(hj:j < l.length)→j < k→l[j].l≠c) (h:l[k].l = c):bgn l c = some k:=by
 induction l generalizing k with
 | nil=>simp at hk
 | cons x r ih =>
  cases k with
  | zero=>simp only [List.getElem_cons_zero] at h;simp [bgn,h]
  | succ k =>
   have h0:x.l≠c:=hn 0 (by simp) (by omega)
   simp only [bgn,if_neg h0]
   rw [ih (k:=k) (by simpa using hk) (fun j hj hjk=>hn (j + 1) (by simpa using hj) (by omega)) (by simpa using h)]
   rfl
theorem bgn_miss {l:List Pr} {c:Nat} (hn:∀ j,(hj:j < l.length)→l[j].l≠c):bgn l c = none:=by
 induction l with
 | nil=>rfl
 | cons x r ih =>
  have h0:x.l≠c:=hn 0 (by simp)
  simp only [bgn,if_neg h0]
  rw [ih (fun j hj=>hn (j + 1) (by simpa using hj))]
  rfl
theorem nat_beq {a b:Nat}:((a:Int) == (b:Int)) = decide (a = b):=by
 rw [Bool.eq_iff_iff,beq_iff_eq,decide_eq_true_eq];omega
set_option maxRecDepth 100000 in
set_option maxHeartbeats 1000000 in
theorem begins_any {w:World} {A:Nat} {f:CF} {av ov:Value} (c:Nat) (h:IsF w A f av ov) :
  Calls Tryz.prog 208 #[.pointer (some ⟨A,0,none⟩),.int .i64 c] w fun e w'=>e = .returned (.int .i64 (opI (bgn f.ow c)))∧w' = w:=by
 obtain ⟨ao,cap,hov,hm,hnc,hc⟩:=pr_of_own h.ow
 have h6:=h.c6
 rw [hov] at h6
 have HC:=hide hc
 clear hc h hov
 unfold maxLen at hm
 go_enter Tryz.func208,Tryz.ntmps208
 go_wp2_with fail
 go_loop [5] (fun i=>∃ k:Nat,k≤f.ow.length∧i = .int .i64 k∧Hid (∀ j,(hj:j < f.ow.length)→j < k→f.ow[j].l≠c)) (fun i=>f.ow.length - (intOf i).toNat)
 case atStart=>exact ⟨0,Nat.zero_le _,rfl,fun _ _ h=>absurd h (by omega)⟩
 case round =>
  obtain ⟨k,hk,rfl,hall⟩:=hrel
  by_cases hlt:k < f.ow.length
  ·obtain ⟨g,hao,hcell⟩:=uh HC (by intro h;rw [h] at hlt;simp at hlt)
   have hcx:=(hcell k hlt).2.1
   clear hcell
   rw [hao] at h6
   cases he:((f.ow[k].l:Int) == (c:Int)) with
   | true =>
    go_wp2_with fail
    go_ret
    exact ⟨ret_int (by rw [bgn_hit hlt hall.out (by rw [nat_beq] at he;simpa using he)];rfl),rfl⟩
   | false =>
    go_wp2_with fail
    go_round
    case rel =>
     refine ⟨k + 1,by omega,by go_num,fun j hj hjk=>?_⟩
     by_cases hjk':j = k
     ·subst hjk';intro e;rw [nat_beq] at he;simp [e] at he
     ·exact hall.out j hj (by omega)
    case measure=>simp [intOf];omega
  ·have hd:decide ((k:Int) < (f.ow.length:Int)) = false:=by simp;omega
   go_wp2_with fail
   go_ret
   exact ⟨ret_int (by rw [bgn_miss (fun j hj=>hall.out j hj (by omega))];rfl),rfl⟩
theorem opI_ge (o:Option Nat):decide ((0:Int)≤opI o) = o.isSome:=by cases o <;> simp [opI]
set_option maxRecDepth 100000 in
set_option maxHeartbeats 1000000 in
theorem clear_any {w:World} {A:Nat} {f:CF} {av ov:Value} (a b:Nat) (h:IsF w A f av ov) :
  Calls Tryz.prog 222 #[.pointer (some ⟨A,0,none⟩),.int .i64 a,.int .i64 b] w fun e w'=>e = .returned (.bool (clrB f a b))∧w' = w:=by
 have HA:=hide (begins_any a h)
 have HB:=hide (begins_any b h)
 have h0:=h.cls (i:=0) (by omega)
 unfold clV at h0
 obtain ⟨c0,hc0⟩:∃ c0,c0 = f.cl.getD 0 0:=⟨_,rfl⟩
 rw [← hc0] at h0
 have HC:=hide hc0
 clear h hc0
 go_enter Tryz.func222,Tryz.ntmps222
 go_wp2_with fail
 refine (uh HA).mono ?_
 rintro e w1 ⟨rfl,rfl⟩
 have hg1:=opI_ge (bgn f.ow a)
 cases h1:(bgn f.ow a).isSome <;> rw [h1] at hg1
 all_goals
  go_wp2_with fail
  refine (uh HB).mono ?_
  rintro e w1 ⟨rfl,rfl⟩
  have hg2:=opI_ge (bgn f.ow b)
  cases h2:(bgn f.ow b).isSome <;> rw [h2] at hg2
 ·go_wp2_with fail
  go_ret
  exact ⟨by unfold clrB;rw [h1,h2];rfl,rfl⟩
 ·cases h3:((a:Int) == (c0:Int)) <;>
  ·go_wp2_with fail
   go_ret
   exact ⟨by unfold clrB;rw [h1,h2,← uh HC];rw [nat_beq] at h3;simp at h3;simp [h3],rfl⟩
 ·cases h3:((b:Int) == (c0:Int)) <;>
  ·go_wp2_with fail
   go_ret
   exact ⟨by unfold clrB;rw [h1,h2,← uh HC];rw [nat_beq] at h3;simp at h3;simp [h3],rfl⟩
 ·go_wp2_with fail
  go_ret
  exact ⟨by unfold clrB;rw [h1,h2];rfl,rfl⟩
def dfP (a b:Nat) (p:Pr):Bool:=(p.l == a && p.r == b) || (p.l == b && p.r == a)
theorem dif_here {f:CF} {a b k:Nat} (hne:a≠b) (hk:k < f.ap.length) (h:dfP a b f.ap[k] = true):difB f a b = true:=by
 unfold difB
 rw [if_neg hne]
 have:f.ap.any (dfP a b) = true:=List.any_eq_true.2 ⟨_,List.getElem_mem hk,h⟩
 show (f.ap.any (dfP a b) || clrB f a b) = true
 rw [this];rfl
theorem dif_none {f:CF} {a b:Nat} (hne:a≠b) (h:∀ j,(hj:j < f.ap.length)→dfP a b f.ap[j] = false):difB f a b = clrB f a b:=by
 unfold difB
 rw [if_neg hne]
 have:f.ap.any (dfP a b) = false:=by
  rw [List.any_eq_false]
  intro p hp
  obtain ⟨j,hj,rfl⟩:=List.mem_iff_getElem.1 hp
  rw [h j hj];simp
 show (f.ap.any (dfP a b) || clrB f a b) = _
 rw [this];rfl
set_option maxRecDepth 100000 in
set_option maxHeartbeats 2000000 in
theorem differ_any {w:World} {A:Nat} {f:CF} {av ov:Value} (a b:Nat) (h:IsF w A f av ov) :
  Calls Tryz.prog 245 #[.pointer (some ⟨A,0,none⟩),.int .i64 a,.int .i64 b] w fun e w'=>e = .returned (.bool (difB f a b))∧Below w.heap.size w w':=by
 by_cases hab:a = b
 ·subst hab
  have he:((a:Int) == (a:Int)) = true:=by simp
  go_enter Tryz.func245,Tryz.ntmps245
  go_wp2_with fail
  go_ret
  exact ⟨by unfold difB;simp,Below.refl _ _⟩
 ·have hne:((a:Int) == (b:Int)) = false:=by rw [nat_beq];simpa using hab
  obtain ⟨ao,cap,hav,hm,hnc,hc⟩:=pr_of_own h.ap
  have h5:=h.c5
  rw [hav] at h5
  have HC:=hide hc
  have HF:=hide h
  clear hc hav h
  unfold maxLen at hm
  go_enter Tryz.func245,Tryz.ntmps245
  go_wp2_with fail
  go_loopw [17] (fun i wr=>∃ k:Nat,k≤f.ap.length∧i = .int .i64 k∧Hid (∀ j,(hj:j < f.ap.length)→j < k→dfP a b f.ap[j] = false)∧Below w.heap.size w wr) (fun i _=>f.ap.length - (intOf i).toNat)
  case atStart=>exact ⟨0,Nat.zero_le _,rfl,fun _ _ h=>absurd h (by omega),Below.refl _ _⟩
  case round =>
   obtain ⟨k,hk,rfl,hall,hbl⟩:=hrel
   by_cases hlt:k < f.ap.length
   ·obtain ⟨g,hao,hcell⟩:=uh HC (by intro h;rw [h] at hlt;simp at hlt)
    subst hao
    obtain ⟨hx0,hx1,hx2⟩:=hcell k hlt
    have c0:=(hbl.cell (World.block_lt_of_cell? w _ hx0)).trans hx0
    have c1:=(hbl.cell (World.block_lt_of_cell? w _ hx1)).trans hx1
    have c2:=(hbl.cell (World.block_lt_of_cell? w _ hx2)).trans hx2
    clear hcell hx0 hx1 hx2
    have HB:=hide hbl
    obtain ⟨p,hp⟩:∃ p,p = f.ap[k]:=⟨_,rfl⟩
    rw [← hp] at c0 c1 c2
    have HP:=hide hp
    clear hbl hp
    have HR:Hid (dfP a b p = true→difB f a b = true):=hide (fun h=>dif_here hab hlt (by rw [← uh HP];exact h))
    have HN:Hid (dfP a b p = false→∀ j,(hj:j < f.ap.length)→j < k + 1→dfP a b f.ap[j] = false):=hide (fun h j hj hjk=>by
     by_cases e:j = k
     ·subst e;rw [← uh HP];exact h
     ·exact hall.out j hj (by omega))
    have round:dfP a b p = false→(∃ k_1:Nat,k_1≤f.ap.length∧Value.int IntKind.i64 ((k:Int) + 1) = Value.int IntKind.i64 k_1∧Hid (∀ (j:Nat) (hj:j < f.ap.length),j < k_1→dfP a b f.ap[j] = false)∧Below w.heap.size w (wr.alloc (Obj.cells #[Value.int IntKind.i64 p.k,Value.int IntKind.i64 p.l,Value.int IntKind.i64 p.r] 182)))∧f.ap.length - (intOf (Value.int IntKind.i64 ((k:Int) + 1))).toNat < f.ap.length - (intOf (Value.int IntKind.i64 (k:Int))).toNat:=fun h =>
     ⟨⟨k + 1,by omega,by go_num,hide (uh HN h),(uh HB).alloc (uh HB).size _⟩,by simp [intOf];omega⟩
    have HRo:=hide round
    clear round
    cases h1:((p.l:Int) == (a:Int)) with
    | true =>
     have hla:Hid (p.l = a):=hide (by rw [nat_beq] at h1;simpa using h1)
     cases h2:((p.r:Int) == (b:Int)) with
     | true =>
      have hrb:Hid (p.r = b):=hide (by rw [nat_beq] at h2;simpa using h2)
      go_wp2_with fail
      go_ret
      exact ⟨by rw [uh HR (by simp [dfP,uh hla,uh hrb])];rfl,(uh HB).alloc (uh HB).size _⟩
     | false =>
      have h3:((p.l:Int) == (b:Int)) = false:=by rw [uh hla];exact hne
      have hrb:Hid (p.r≠b):=hide (by rw [nat_beq] at h2;simpa using h2)
      go_wp2_with fail
      exact uh HRo (by simp [dfP,uh hla,uh hrb,hab])
    | false =>
     have hla:Hid (p.l≠a):=hide (by rw [nat_beq] at h1;simpa using h1)
     cases h3:((p.l:Int) == (b:Int)) with
     | true =>
      have hlb:Hid (p.l = b):=hide (by rw [nat_beq] at h3;simpa using h3)
      cases h4:((p.r:Int) == (a:Int)) with
      | true =>
       have hra:Hid (p.r = a):=hide (by rw [nat_beq] at h4;simpa using h4)
       go_wp2_with fail
       go_ret
       exact ⟨by rw [uh HR (by simp [dfP,uh hlb,uh hra])];rfl,(uh HB).alloc (uh HB).size _⟩
      | false =>
       have hra:Hid (p.r≠a):=hide (by rw [nat_beq] at h4;simpa using h4)
       go_wp2_with fail
       exact uh HRo (by simp [dfP,uh hla,uh hra])
     | false =>
      have hlb:Hid (p.l≠b):=hide (by rw [nat_beq] at h3;simpa using h3)
      go_wp2_with fail
      exact uh HRo (by simp [dfP,uh hla,uh hlb])
   ·have hd:decide ((k:Int) < (f.ap.length:Int)) = false:=by simp;omega
    go_wp2_with fail
    refine (clear_any a b ((uh HF).of_eq (fun k hk=>hbl.block k ((uh HF).lt k hk)))).mono ?_
    rintro e w1 ⟨rfl,rfl⟩
    go_wp2_with fail
    go_ret
    exact ⟨by rw [dif_none hab (fun j hj=>hall.out j hj (by omega))];rfl,hbl⟩
def chn (V:CF):List Nat→Nat→Nat→Prop
 | [],_,_=>False
 | [i],a,e=>(V.ow.getD i pr0).l = a∧(V.ow.getD i pr0).r = e
 | i :: j :: r,a,e=>(V.ow.getD i pr0).l = a∧chn V (j :: r) (V.ow.getD i pr0).r e
def Deal (V T:CF) (b:Nat→Option Nat):List Nat→List Nat→Prop
 | [],fr=>fr = []
 | k :: ks,fr=>∃ L rest,fr.Perm (L ++ rest)∧(∃ a e,b (T.ow.getD k pr0).l = some a∧b (T.ow.getD k pr0).r = some e∧chn V L a e)∧((T.ow.getD k pr0).k≠4→∃ i,L = [i]∧(V.ow.getD i pr0).k≠4)∧Deal V T b ks rest
theorem Deal.swap {V T:CF} {b:Nat→Option Nat} {j k:Nat} {ks fr:List Nat} (h:Deal V T b (j :: k :: ks) fr):Deal V T b (k :: j :: ks) fr:=by
 obtain ⟨L,rest,h1,h2,h3,L2,rest2,h4,h5,h6,h7⟩:=h
 refine ⟨L2,L ++ rest2,?_,h5,h6,L,rest2,List.Perm.refl _,h2,h3,h7⟩
 refine h1.trans ((List.Perm.append_left L h4).trans ?_)
 rw [← List.append_assoc,← List.append_assoc]
 exact List.Perm.append_right rest2 List.perm_append_comm
theorem Deal.cons {V T:CF} {b:Nat→Option Nat} {k:Nat} {ks ks':List Nat} (h:∀ fr,Deal V T b ks fr→Deal V T b ks' fr) {fr:List Nat} (hd:Deal V T b (k :: ks) fr):Deal V T b (k :: ks') fr:=by
 obtain ⟨L,rest,h1,h2,h3,h4⟩:=hd
 exact ⟨L,rest,h1,h2,h3,h _ h4⟩
theorem Deal.permK {V T:CF} {b:Nat→Option Nat} {ks ks':List Nat} (h:ks.Perm ks'):∀ {fr:List Nat},Deal V T b ks fr→Deal V T b ks' fr:=by
 induction h with
 | nil=>intro fr h;exact h
 | cons k _ ih=>intro fr hd;exact Deal.cons (fun _ h=>ih h) hd
 | swap j k r=>intro fr hd;exact Deal.swap hd
 | trans _ _ h1 h2=>intro fr hd;exact h2 (h1 hd)
def frL (s:SS):List Nat:=(List.range s.ot.length).filter (fun i=>(s.ot.getD i none).isNone)
def uP (s:SS):List Nat:=(List.range s.pl.length).filter (fun k=>!s.pl.getD k false)
structure Wf (V T:CF) (s:SS):Prop where
 lo:s.ot.length = V.ow.length
 lp:s.pl.length = T.ow.length
 lb:s.bd.length = 24
 un:s.un = (frL s).length
theorem getD_set {α:Type} (l:List α) (i j:Nat) (x d:α) (h:i < l.length):(l.set i x).getD j d = if i = j then x else l.getD j d:=by
 simp only [List.getD_eq_getElem?_getD,List.getElem?_set]
 by_cases e:i = j
 ·subst e;simp [h]
 ·simp [e]
theorem set_getD {α:Type} (l:List α) (i:Nat) (d:α):l.set i (l.getD i d) = l:=by
 apply List.ext_getElem?
 intro n
 by_cases hn:i = n
 ·subst hn
  by_cases h:i < l.length
  ·simp [h]
  ·simp [h]
 ·simp [hn]
theorem filter_take {p q:Nat→Bool} {l:List Nat} {i:Nat} (hl:l.Nodup) (hi:i∈l) (hp:p i = true) (hq:q i = false) (h:∀ j,j≠i→q j = p j):(l.filter p).Perm (i :: l.filter q):=by
 induction l with
 | nil=>cases hi
 | cons a l ih =>
  have hn:=List.nodup_cons.1 hl
  by_cases e:a = i
  ·subst e
   have:l.filter q = l.filter p:=List.filter_congr (fun j hj=>h j (fun e=>hn.1 (e ▸ hj)))
   simp [hp,hq,this]
  ·have hm:i∈l:=by
    rcases List.mem_cons.1 hi with h | h
    ·exact absurd h.symm e
    ·exact h
   have h2:=h a e
   cases hpa:p a with
   | true =>
    rw [List.filter_cons_of_pos hpa,List.filter_cons_of_pos (by rw [h2,hpa])]
    exact (List.Perm.cons a (ih hn.2 hm)).trans (List.Perm.swap i a _)
   | false =>
    rw [List.filter_cons_of_neg (by simp [hpa]),List.filter_cons_of_neg (by simp [h2,hpa])]
    exact ih hn.2 hm
theorem frL_take {s:SS} {i k:Nat} (hi:i < s.ot.length) (hn:s.ot.getD i none = none) {s':SS} (h:s'.ot = s.ot.set i (some k)):(frL s).Perm (i :: frL s'):=by
 unfold frL
 rw [h,List.length_set]
 refine filter_take List.nodup_range (List.mem_range.2 hi) (by rw [hn];rfl) (by rw [getD_set _ _ _ _ _ hi];simp) (fun j hj=>?_)
 rw [getD_set _ _ _ _ _ hi,if_neg (fun e=>hj e.symm)]
theorem uP_take {s:SS} {k:Nat} (hk:k∈uP s) {s':SS} (h:s'.pl = s.pl.set k true):(uP s).Perm (k :: uP s'):=by
 have h1:=List.mem_filter.1 hk
 have hi:=List.mem_range.1 h1.1
 unfold uP
 rw [h,List.length_set]
 refine filter_take List.nodup_range h1.1 h1.2 (by rw [getD_set _ _ _ _ _ hi];simp) (fun j hj=>?_)
 rw [getD_set _ _ _ _ _ hi,if_neg (fun e=>hj e.symm)]
def Ext (s s':SS):Prop:=∀ c a,s.b c = some a→s'.b c = some a
theorem bgn_some {l:List Pr} {c i:Nat} (h:bgn l c = some i):i < l.length∧(l.getD i pr0).l = c:=by
 induction l generalizing i with
 | nil=>cases h
 | cons p r ih =>
  simp only [bgn] at h
  split at h
  ·cases h;exact ⟨by simp,by simpa⟩
  ·obtain ⟨j,hj,rfl⟩:=Option.map_eq_some_iff.1 h
   have:=ih hj
   exact ⟨by simp;omega,by simpa using this.2⟩
theorem chF_some {T:CF} {s:SS}:∀ {l:List Nat} {o:Option Nat} {k:Nat},chF T s l o = some k→(k∈l∧s.pl.getD k false = false)∨o = some k:=by
 intro l
 induction l with
 | nil=>intro o k h;exact Or.inr h
 | cons a l ih =>
  intro o k h
  simp only [chF] at h
  split at h
  ·rcases ih h with h1 | h1
   ·exact Or.inl ⟨by simp [h1.1],h1.2⟩
   ·exact Or.inr h1
  ·rename_i hp
   split at h
   ·cases h;exact Or.inl ⟨by simp,by simpa using hp⟩
   ·rcases ih h with h1 | h1
    ·exact Or.inl ⟨by simp [h1.1],h1.2⟩
    ·split at h1
     ·exact Or.inr h1
     ·cases h1;exact Or.inl ⟨by simp,by simpa using hp⟩
theorem chs_some {T:CF} {s:SS} {k:Nat} (h:chs T s = some k):k∈uP s:=by
 rcases chF_some h with h1 | h1
 ·exact List.mem_filter.2 ⟨h1.1,by rw [h1.2];rfl⟩
 ·cases h1
def Rm (T:CF):Prop:=∀ p∈T.ow,p.l < 24∧p.r < 24
theorem Rm.at {T:CF} (h:Rm T) (k:Nat):(T.ow.getD k pr0).l < 24∧(T.ow.getD k pr0).r < 24:=by
 by_cases hk:k < T.ow.length
 ·have:T.ow.getD k pr0 = T.ow[k]:=by simp [hk]
  rw [this];exact h _ (List.getElem_mem hk)
 ·simp [List.getD_eq_getElem?_getD,List.getElem?_eq_none (Nat.le_of_not_lt hk),pr0]
def WkOK (V T:CF) (W:SS→Nat→Nat→Nat→Bool × SS):Prop :=
 ∀ s k at_ count,Wf V T s→k∈uP s→(uP s).length + count = T.ow.length→∀ b s',W s k at_ count = (b,s') →
  (b = false→s' = { s with st:=s'.st }) ∧
  (b = true→Ext s s'∧apB V T s' = true∧s'.bd.length = 24∧∃ L rest,(frL s).Perm (L ++ rest)∧(∃ e,s'.b (T.ow.getD k pr0).r = some e∧chn V L at_ e)∧((T.ow.getD k pr0).k≠4→∃ i,L = [i]∧(V.ow.getD i pr0).k≠4)∧Deal V T s'.b ((uP s).erase k) rest)
def PlOK (V T:CF) (P:SS→Nat→Bool × SS):Prop :=
 ∀ s count,Wf V T s→(uP s).length + count = T.ow.length→∀ b s',P s count = (b,s') →
  (b = false→s' = { s with st:=s'.st }) ∧
  (b = true→Ext s s'∧apB V T s' = true∧s'.bd.length = 24∧Deal V T s'.b (uP s) (frL s))
theorem deal_first {V T:CF} {b:Nat→Option Nat} {U fr L rest:List Nat} {k a:Nat} (hk:k∈U) (h1:fr.Perm (L ++ rest)) (ha:b (T.ow.getD k pr0).l = some a) (h2:∃ e,b (T.ow.getD k pr0).r = some e∧chn V L a e) (h3:(T.ow.getD k pr0).k≠4→∃ i,L = [i]∧(V.ow.getD i pr0).k≠4) (h4:Deal V T b (U.erase k) rest):Deal V T b U fr:=by
 refine Deal.permK (List.perm_cons_erase hk).symm ⟨L,rest,h1,?_,h3,h4⟩
 obtain ⟨e,he,hc⟩:=h2
 exact ⟨a,e,ha,he,hc⟩
theorem plL_ok {V T:CF} {W:SS→Nat→Nat→Nat→Bool × SS} (hW:WkOK V T W) {k left count:Nat} (hl:left < 24) (hle:left = (T.ow.getD k pr0).l):∀ (l:List Pr) (s:SS),Wf V T s→k∈uP s→(uP s).length + count = T.ow.length→∀ b s',plL W k left count l s = (b,s') →
  (b = false→s' = { s with st:=s'.st,bd:=s.bd.set left none }) ∧
  (b = true→(∀ c a,c≠left→s.b c = some a→s'.b c = some a)∧apB V T s' = true∧s'.bd.length = 24∧Deal V T s'.b (uP s) (frL s)):=by
 intro l
 induction l with
 | nil =>
  intro s hw hk hc b s' h
  simp only [plL] at h
  cases h
  exact ⟨fun _=>rfl,fun h=>by cases h⟩
 | cons p r ih =>
  intro s hw hk hc b s' h
  simp only [plL] at h
  have hw2:Wf V T { s with bd:=s.bd.set left (some p.l) }:=⟨hw.lo,hw.lp,by simpa using hw.lb,hw.un⟩
  cases hr:W { s with bd:=s.bd.set left (some p.l) } k p.l count with
  | mk b2 s2 =>
   rw [hr] at h
   have hx:=hW _ _ _ _ hw2 hk hc _ _ hr
   cases b2 with
   | true =>
    cases h
    refine ⟨fun h=>(by cases h),fun _=>?_⟩
    obtain ⟨he,hap,h24,L,rest,h1,h2,h3,h4⟩:=hx.2 rfl
    have hset:∀ c,({ s with bd:=s.bd.set left (some p.l) }:SS).b c = if left = c then some p.l else s.b c:=fun c=>getD_set _ _ _ _ _ (by rw [hw.lb];exact hl)
    refine ⟨fun c a hcl ha=>he c a (by rw [hset,if_neg (fun e=>hcl e.symm)];exact ha),hap,h24,?_⟩
    exact deal_first hk h1 (by rw [← hle];exact he left p.l (by rw [hset,if_pos rfl])) h2 h3 h4
   | false =>
    have h5:=hx.1 rfl
    have e2:(uP s2) = uP s:=by rw [h5];rfl
    have e3:(frL s2) = frL s:=by rw [h5];rfl
    have hw3:Wf V T s2:=by rw [h5];exact ⟨hw.lo,hw.lp,by simpa using hw.lb,hw.un⟩
    have hy:=ih s2 hw3 (by rw [e2];exact hk) (by rw [e2];exact hc) _ _ h
    refine ⟨fun hb=>?_,fun hb=>?_⟩
    ·have h6:=hy.1 hb
     rw [h6,h5]
     simp
    ·obtain ⟨g1,g2,g3,g4⟩:=hy.2 hb
     rw [e2,e3] at g4
     refine ⟨fun c a hcl ha=>g1 c a hcl ?_,g2,g3,g4⟩
     rw [h5]
     show (s.bd.set left (some p.l)).getD c none = some a
     rw [getD_set _ _ _ _ _ (by rw [hw.lb];exact hl),if_neg (fun e=>hcl e.symm)]
     exact ha
theorem plF_ok {V T:CF} (hT:Rm T) {W:SS→Nat→Nat→Nat→Bool × SS} (hW:WkOK V T W):PlOK V T (plF W V T):=by
 intro s count hw hc b s' h
 unfold plF at h
 by_cases h0:T.ow.length = count
 ·rw [if_pos h0] at h
  cases h
  refine ⟨fun _=>rfl,fun hb=>?_⟩
  simp only [Bool.and_eq_true,decide_eq_true_eq] at hb
  have hu:uP s = []:=List.eq_nil_of_length_eq_zero (by omega)
  have hf:frL s = []:=List.eq_nil_of_length_eq_zero (by rw [← hw.un];exact hb.1)
  exact ⟨fun _ _ h=>h,hb.2,hw.lb,by rw [hu,hf];rfl⟩
 ·rw [if_neg h0] at h
  by_cases h1:s.un < T.ow.length - count
  ·rw [if_pos h1] at h;cases h;exact ⟨fun _=>rfl,fun hb=>by cases hb⟩
  ·rw [if_neg h1] at h
   cases hch:chs T s with
   | none=>rw [hch] at h;cases h;exact ⟨fun _=>rfl,fun hb=>by cases hb⟩
   | some k =>
    rw [hch] at h
    dsimp only at h
    have hk:=chs_some hch
    cases hb:s.b (T.ow.getD k pr0).l with
    | some a =>
     rw [hb] at h
     have hx:=hW _ _ _ _ hw hk hc _ _ h
     refine ⟨hx.1,fun hbt=>?_⟩
     obtain ⟨he,hap,h24,L,rest,g1,g2,g3,g4⟩:=hx.2 hbt
     exact ⟨he,hap,h24,deal_first hk g1 (he _ _ hb) g2 g3 g4⟩
    | none =>
     rw [hb] at h
     have hx:=plL_ok hW (hT.at k).1 rfl _ _ hw hk hc _ _ h
     refine ⟨fun hbf=>?_,fun hbt=>?_⟩
     ·have h6:=hx.1 hbf
      rw [h6]
      have:s.bd.set (T.ow.getD k pr0).l none = s.bd:=by
       have:=set_getD s.bd (T.ow.getD k pr0).l none
       rw [show s.bd.getD (T.ow.getD k pr0).l none = none from hb] at this
       exact this
      rw [this]
     ·obtain ⟨g1,g2,g3,g4⟩:=hx.2 hbt
      refine ⟨fun c a ha=>g1 c a (fun e=>?_) ha,g2,g3,g4⟩
      rw [e,hb] at ha;cases ha
theorem enF_ok {V T:CF} (hT:Rm T) {P:SS→Nat→Bool × SS} (hP:PlOK V T P) {s:SS} {k at_ count:Nat} (hw:Wf V T s) (hk:k∈uP s) (hc:(uP s).length + count = T.ow.length) {b:Bool} {s':SS} (h:enF P T s k at_ count = (b,s')) :
  (b = false→s' = { s with st:=s'.st })∧(b = true→Ext s s'∧apB V T s' = true∧s'.bd.length = 24∧s'.b (T.ow.getD k pr0).r = some at_∧Deal V T s'.b ((uP s).erase k) (frL s)):=by
 unfold enF at h
 by_cases h0:s.b (T.ow.getD k pr0).r≠none∧s.b (T.ow.getD k pr0).r≠some at_
 ·rw [if_pos h0] at h;cases h;exact ⟨fun _=>rfl,fun hb=>by cases hb⟩
 ·rw [if_neg h0] at h
  have hw2:Wf V T { s with bd:=s.bd.set (T.ow.getD k pr0).r (some at_),pl:=s.pl.set k true }:=⟨hw.lo,by simpa using hw.lp,by simpa using hw.lb,hw.un⟩
  have hup:=uP_take (s:=s) hk (s':={ s with bd:=s.bd.set (T.ow.getD k pr0).r (some at_),pl:=s.pl.set k true }) rfl
  have hle:=hup.length_eq
  rw [List.length_cons] at hle
  have hset:∀ c,({ s with bd:=s.bd.set (T.ow.getD k pr0).r (some at_),pl:=s.pl.set k true }:SS).b c = if (T.ow.getD k pr0).r = c then some at_ else s.b c:=fun c=>getD_set _ _ _ _ _ (by rw [hw.lb];exact (hT.at k).2)
  cases hr:P { s with bd:=s.bd.set (T.ow.getD k pr0).r (some at_),pl:=s.pl.set k true } (count + 1) with
  | mk b2 s2 =>
   rw [hr] at h
   have hx:=hP _ _ hw2 (by omega) _ _ hr
   cases b2 with
   | true =>
    cases h
    refine ⟨fun h=>(by cases h),fun _=>?_⟩
    obtain ⟨he,hap,h24,hd⟩:=hx.2 rfl
    refine ⟨fun c a ha=>he c a ?_,hap,h24,he _ _ (by rw [hset,if_pos rfl]),Deal.permK ?_ hd⟩
    ·rw [hset]
     by_cases e:(T.ow.getD k pr0).r = c
     ·rw [if_pos e]
      subst e
      by_cases e2:a = at_
      ·rw [e2]
      ·exact absurd ⟨by rw [ha];simp,by rw [ha];simpa using e2⟩ h0
     ·rw [if_neg e];exact ha
    ·exact (List.perm_cons k).1 (hup.symm.trans (List.perm_cons_erase hk))
   | false =>
    cases h
    refine ⟨fun _=>?_,fun h=>by cases h⟩
    have h5:=hx.1 rfl
    rw [h5]
    have e1:(s.bd.set (T.ow.getD k pr0).r (some at_)).set (T.ow.getD k pr0).r (s.b (T.ow.getD k pr0).r) = s.bd:=by
     rw [List.set_set];exact set_getD _ _ _
    have e2:(s.pl.set k true).set k false = s.pl:=by
     rw [List.set_set]
     have:=set_getD s.pl k false
     rwa [show s.pl.getD k false = false by simpa using (List.mem_filter.1 hk).2] at this
    simp only [e1,e2]
theorem chn_cons {V:CF} {i:Nat} {L:List Nat} {e:Nat} (h:chn V L (V.ow.getD i pr0).r e):chn V (i :: L) (V.ow.getD i pr0).l e:=by
 cases L with
 | nil=>exact h.elim
 | cons j r=>exact ⟨rfl,h⟩
theorem wk_ok {V T:CF} (hT:Rm T):∀ m,WkOK V T (wk V T m):=by
 intro m
 induction m with
 | zero =>
  intro s k at_ count hw hk hc b s' h
  simp only [wk] at h
  cases h
  exact ⟨fun _=>rfl,fun hb=>by cases hb⟩
 | succ m ih =>
  intro s k at_ count hw hk hc b s' h
  simp only [wk] at h
  by_cases h0:wrap64 (s.st - 1) < 0
  ·rw [if_pos h0] at h;cases h;exact ⟨fun _=>rfl,fun hb=>by cases hb⟩
  ·rw [if_neg h0] at h
   cases hbg:bgn V.ow at_ with
   | none=>rw [hbg] at h;cases h;exact ⟨fun _=>rfl,fun hb=>by cases hb⟩
   | some i =>
    rw [hbg] at h
    dsimp only at h
    obtain ⟨hi,hil⟩:=bgn_some hbg
    by_cases h1:s.ot.getD i none≠none
    ·rw [if_pos h1] at h;cases h;exact ⟨fun _=>rfl,fun hb=>by cases hb⟩
    ·rw [if_neg h1] at h
     have hn:s.ot.getD i none = none:=Classical.byContradiction h1
     by_cases h2:(T.ow.getD k pr0).k≠4∧(V.ow.getD i pr0).k = 4
     ·rw [if_pos h2] at h;cases h;exact ⟨fun _=>rfl,fun hb=>by cases hb⟩
     ·rw [if_neg h2] at h
      have hio:i < s.ot.length:=by rw [hw.lo];exact hi
      obtain ⟨s1,hs1⟩:∃ s1:SS,s1 = { s with st:=wrap64 (s.st - 1),ot:=s.ot.set i (some k),un:=s.un - 1 }:=⟨_,rfl⟩
      rw [← hs1] at h
      have hfr:(frL s).Perm (i :: frL s1):=frL_take hio hn (by rw [hs1])
      have hfl:=hfr.length_eq
      rw [List.length_cons] at hfl
      have hw1:Wf V T s1:=by
       refine ⟨by rw [hs1];simpa using hw.lo,by rw [hs1];exact hw.lp,by rw [hs1];exact hw.lb,?_⟩
       have h3:s1.un = s.un - 1:=by rw [hs1]
       have h4:=hw.un
       omega
      have hu1:uP s1 = uP s:=by rw [hs1];rfl
      have hkind:(T.ow.getD k pr0).k≠4→(V.ow.getD i pr0).k≠4:=fun a b=>h2 ⟨a,b⟩
      cases hr:enF (plF (wk V T m) V T) T s1 k (V.ow.getD i pr0).r count with
      | mk b2 s2 =>
       rw [hr] at h
       have hx:=enF_ok hT (plF_ok hT ih) hw1 (by rw [hu1];exact hk) (by rw [hu1];exact hc) hr
       cases b2 with
       | true =>
        cases h
        refine ⟨fun h=>(by cases h),fun _=>?_⟩
        obtain ⟨he,hap,h24,hbr,hd⟩:=hx.2 rfl
        rw [hu1] at hd
        refine ⟨fun c a ha=>he c a (by rw [hs1];exact ha),hap,h24,[i],frL s1,hfr,⟨_,hbr,hil,rfl⟩,fun hk4=>⟨i,rfl,hkind hk4⟩,hd⟩
       | false =>
        dsimp only at h
        have h5:=hx.1 rfl
        have hu2:uP s2 = uP s:=by rw [h5];exact hu1
        have hf2:frL s2 = frL s1:=by rw [h5];rfl
        have hw2:Wf V T s2:=by rw [h5];exact ⟨hw1.lo,hw1.lp,hw1.lb,hw1.un⟩
        have hback:∀ s3:SS,s3 = { s1 with st:=s3.st }→({ s3 with ot:=s3.ot.set i none,un:=s3.un + 1 }:SS) = { s with st:=s3.st }:=by
         intro s3 h3
         rw [h3,hs1]
         have e1:(s.ot.set i (some k)).set i none = s.ot:=by
          rw [List.set_set]
          have:=set_getD s.ot i none
          rwa [hn] at this
         have e2:s.un - 1 + 1 = s.un:=by have:=hw.un;omega
         simp only [e1,e2]
        by_cases hk4:(T.ow.getD k pr0).k = 4
        ·rw [if_pos hk4] at h
         cases hr3:wk V T m s2 k (V.ow.getD i pr0).r count with
         | mk b3 s3 =>
          rw [hr3] at h
          have hy:=ih _ _ _ _ hw2 (by rw [hu2];exact hk) (by rw [hu2];exact hc) _ _ hr3
          cases b3 with
          | true =>
           cases h
           refine ⟨fun h=>(by cases h),fun _=>?_⟩
           obtain ⟨he,hap,h24,L,rest,g1,⟨e,g2,g2'⟩,_,g4⟩:=hy.2 rfl
           rw [hu2] at g4
           rw [hf2] at g1
           refine ⟨fun c a ha=>he c a (by rw [h5,hs1];exact ha),hap,h24,i :: L,rest,hfr.trans (List.Perm.cons i g1),⟨e,g2,by rw [← hil];exact chn_cons g2'⟩,fun hx4=>absurd hk4 hx4,g4⟩
          | false =>
           cases h
           refine ⟨fun _=>?_,fun h=>by cases h⟩
           have h6:=hy.1 rfl
           have h7:s3 = { s1 with st:=s3.st }:=by rw [h6,h5]
           exact hback s3 h7
        ·rw [if_neg hk4] at h
         cases h
         exact ⟨fun _=>hback s2 h5,fun h=>by cases h⟩
def ptr (A:Nat):Value:=.pointer (some ⟨A,0,none⟩)
def qHead (F0 T0:Nat) (an:List (Option Nat)):List Value:=[ptr F0,ptr T0] ++ opCells an
def qTail (V0:Nat) (s:SS) (ov pv:Value):List Value:=[ptr V0,ov,.int .i64 (s.un:Int),pv,.int .i64 s.st]
def qCells (F0 T0 V0:Nat) (an:List (Option Nat)) (s:SS) (ov pv:Value):List Value:=qHead F0 T0 an ++ (opCells s.bd ++ qTail V0 s ov pv)
def fpS (Q:Nat) (ov pv:Value):List Nat:=Q :: (ov.ownBlock.toList ++ pv.ownBlock.toList)
structure Lay where
 q:Nat
 f:Nat
 t:Nat
 v:Nat
 an:List (Option Nat)
 tav:Value
 tov:Value
 vav:Value
 vov:Value
 ov:Value
 pv:Value
def Lay.fp (y:Lay):List Nat:=fpS y.q y.ov y.pv
structure Sw (w:World) (y:Lay) (T V:CF) (s:SS):Prop where
 ob:Ob w 202 55 y.q (qCells y.f y.t y.v y.an s y.ov y.pv)
 la:y.an.length = 24
 lb:s.bd.length = 24
 ow:w.ownsRow 0 3 1 y.ov s.ot.length (opCells s.ot)
 pl:w.ownsRow 0 4 1 y.pv s.pl.length (s.pl.map Value.bool)
 nd:y.fp.Nodup
 ft:IsF w y.t T y.tav y.tov
 fv:IsF w y.v V y.vav y.vov
 dt:∀ k∈bsF y.t y.tav y.tov,k ∉ y.fp
 dv:∀ k∈bsF y.v y.vav y.vov,k ∉ y.fp
section
variable {w w':World} {y:Lay} {T V:CF} {s s':SS}
theorem opCells_len (l:List (Option Nat)):(opCells l).length = l.length:=by simp [opCells]
theorem qHead_len (h:Sw w y T V s):(qHead y.f y.t y.an).length = 26:=by simp [qHead,opCells_len,h.la]
theorem Sw.qlt (h:Sw w y T V s):∀ k∈y.fp,k < w.heap.size:=by
 intro k hk
 simp only [Lay.fp,fpS,List.mem_cons,List.mem_append,Option.mem_toList] at hk
 rcases hk with rfl | hk | hk
 ·exact (World.ownsRow.lt h.ob _ rfl).2
 ·exact (h.ow.lt k hk).2
 ·exact (h.pl.lt k hk).2
theorem Sw.frz (h:Sw w y T V s) (j:Nat):w.frozen? ⟨y.q,j,none⟩ = false:=World.ownsRow.frozenAt h.ob j
theorem Sw.c1 (h:Sw w y T V s):w.cell? ⟨y.q,1,none⟩ = some (.pointer (some ⟨y.t,0,none⟩)):=by rw [World.ownsRow.cellAt h.ob 1 (by omega)];rfl
theorem Sw.tail (h:Sw w y T V s) {j:Nat} (hj:j < 5):w.cell? ⟨y.q,50 + j,none⟩ = (qTail y.v s y.ov y.pv)[j]?:=by
 rw [World.ownsRow.cellAt h.ob (50 + j) (by omega)]
 unfold qCells
 rw [List.getElem?_append_right (by rw [qHead_len h];omega),qHead_len h,List.getElem?_append_right (by rw [opCells_len,h.lb];omega),opCells_len,h.lb]
 rw [show 50 + j - 26 - 24 = j by omega]
theorem Sw.cv (h:Sw w y T V s):w.cell? ⟨y.q,50,none⟩ = some (.pointer (some ⟨y.v,0,none⟩)):=h.tail (j:=0) (by omega)
theorem Sw.co (h:Sw w y T V s):w.cell? ⟨y.q,51,none⟩ = some y.ov:=h.tail (j:=1) (by omega)
theorem Sw.cu (h:Sw w y T V s):w.cell? ⟨y.q,52,none⟩ = some (.int .i64 (s.un:Int)):=h.tail (j:=2) (by omega)
theorem Sw.cp (h:Sw w y T V s):w.cell? ⟨y.q,53,none⟩ = some y.pv:=h.tail (j:=3) (by omega)
theorem Sw.cs (h:Sw w y T V s):w.cell? ⟨y.q,54,none⟩ = some (.int .i64 s.st):=h.tail (j:=4) (by omega)
theorem Sw.cb (h:Sw w y T V s) {r:Nat} (hr:r < 24):w.cell? ⟨y.q,26 + r,none⟩ = some (.int .i64 (opI (s.b r))):=by
 rw [World.ownsRow.cellAt h.ob (26 + r) (by omega)]
 unfold qCells
 rw [List.getElem?_append_right (by rw [qHead_len h];omega),qHead_len h,List.getElem?_append_left (by rw [opCells_len,h.lb];omega)]
 rw [show 26 + r - 26 = r by omega]
 have hl:r < s.bd.length:=by rw [h.lb];exact hr
 simp [opCells,SS.b,hl]
theorem Sw.setQ (h:Sw w y T V s) {j:Nat} {u:Value} (hq:(qCells y.f y.t y.v y.an s y.ov y.pv).set j u = qCells y.f y.t y.v y.an s' y.ov y.pv) (h1:s'.bd.length = 24) (h2:s'.ot = s.ot) (h3:s'.pl = s.pl):Sw (w.setCell ⟨y.q,j,none⟩ u) y T V s':=by
 have hob:=(World.ownsRow.stored h.ob j u).1
 rw [hq] at hob
 have hn:=h.nd
 simp only [Lay.fp,fpS,List.nodup_cons,List.mem_append,Option.mem_toList,not_or] at hn
 have hoth:∀ k,k≠y.q→(w.setCell ⟨y.q,j,none⟩ u).heap[k]? = w.heap[k]?:=fun k hk=>Below.heap_setCell _ _ _ _ (fun e=>hk e)
 refine ⟨hob,h.la,h1,?_,?_,h.nd,?_,?_,h.dt,h.dv⟩
 ·rw [h2];exact ownsRow_of_eq h.ow (fun k hk=>hoth k (by rintro rfl;exact hn.1.1 hk))
 ·rw [h3];exact ownsRow_of_eq h.pl (fun k hk=>hoth k (by rintro rfl;exact hn.1.2 hk))
 ·exact h.ft.of_eq (fun k hk=>hoth k (by rintro rfl;exact h.dt _ hk (by simp [Lay.fp,fpS])))
 ·exact h.fv.of_eq (fun k hk=>hoth k (by rintro rfl;exact h.dv _ hk (by simp [Lay.fp,fpS])))
theorem Sw.setB (h:Sw w y T V s) {r:Nat} (hr:r < 24) (o:Option Nat):Sw (w.setCell ⟨y.q,26 + r,none⟩ (.int .i64 (opI o))) y T V { s with bd:=s.bd.set r o }:=by
 refine h.setQ ?_ (by simpa using h.lb) rfl rfl
 unfold qCells
 rw [List.set_append_right (26 + r) _ (by rw [qHead_len h];omega),qHead_len h,show 26 + r - 26 = r by omega,List.set_append_left r _ (by rw [opCells_len,h.lb];exact hr)]
 congr 2
 simp [opCells,List.map_set]
theorem Sw.setT (h:Sw w y T V s) {j:Nat} {u:Value} (h1:(qTail y.v s y.ov y.pv).set j u = qTail y.v s' y.ov y.pv) (hb:s'.bd = s.bd) (h2:s'.ot = s.ot) (h3:s'.pl = s.pl):Sw (w.setCell ⟨y.q,50 + j,none⟩ u) y T V s':=by
 refine h.setQ ?_ (by rw [hb];exact h.lb) h2 h3
 unfold qCells
 rw [List.set_append_right (50 + j) _ (by rw [qHead_len h];omega),qHead_len h,List.set_append_right (50 + j - 26) _ (by rw [opCells_len,h.lb];omega),opCells_len,h.lb,show 50 + j - 26 - 24 = j by omega,h1,hb]
theorem Sw.setUn (h:Sw w y T V s) (n:Nat):Sw (w.setCell ⟨y.q,52,none⟩ (.int .i64 (n:Int))) y T V { s with un:=n }:=h.setT (j:=2) rfl rfl rfl rfl
theorem Sw.setSt (h:Sw w y T V s) (n:Int):Sw (w.setCell ⟨y.q,54,none⟩ (.int .i64 n)) y T V { s with st:=n }:=h.setT (j:=4) rfl rfl rfl rfl
theorem Sw.own (h:Sw w y T V s) (hn:s.ot≠[]):∃ O cap,y.ov = .slice (some ⟨O,0,none⟩) s.ot.length cap∧s.ot.length≤cap∧cap≤maxLen∧(∀ i,i < s.ot.length→w.cell? ⟨O,i,none⟩ = some (.int .i64 (opI (s.ot.getD i none))))∧(∀ j,w.frozen? ⟨O,j,none⟩ = false):=by
 have ho:=h.ow
 rcases h.ow.2 with ⟨_,h0⟩ | ⟨O,cap,cur,hv,_,_,hnc,hm,_⟩
 ·exact absurd (List.eq_nil_of_length_eq_zero h0) hn
 ·rw [hv] at ho
  refine ⟨O,cap,hv,hnc,hm,fun i hi=>?_,fun j=>ho.frozenAt j⟩
  rw [ho.cellAt i (by omega)]
  simp [opCells,hi]
theorem Sw.plc (h:Sw w y T V s) (hn:s.pl≠[]):∃ L cap,y.pv = .slice (some ⟨L,0,none⟩) s.pl.length cap∧s.pl.length≤cap∧cap≤maxLen∧(∀ i,i < s.pl.length→w.cell? ⟨L,i,none⟩ = some (.bool (s.pl.getD i false)))∧(∀ j,w.frozen? ⟨L,j,none⟩ = false):=by
 have ho:=h.pl
 rcases h.pl.2 with ⟨_,h0⟩ | ⟨O,cap,cur,hv,_,_,hnc,hm,_⟩
 ·exact absurd (List.eq_nil_of_length_eq_zero h0) hn
 ·rw [hv] at ho
  refine ⟨O,cap,hv,hnc,hm,fun i hi=>?_,fun j=>ho.frozenAt j⟩
  rw [ho.cellAt i (by omega)]
  simp [hi]
theorem Sw.setO (h:Sw w y T V s) {O cap:Nat} (hv:y.ov = .slice (some ⟨O,0,none⟩) s.ot.length cap) (i:Nat) (o:Option Nat):Sw (w.setCell ⟨O,i,none⟩ (.int .i64 (opI o))) y T V { s with ot:=s.ot.set i o }:=by
 have ho:=h.ow
 rw [hv] at ho
 have hst:=(ho.stored i (.int .i64 (opI o))).1
 have hm:O∈y.fp:=by simp [Lay.fp,fpS,hv,Value.ownBlock]
 have hn:=h.nd
 simp only [Lay.fp,fpS,List.nodup_cons,List.mem_append,Option.mem_toList,not_or,List.nodup_append] at hn
 have hob:y.ov.ownBlock = some O:=by rw [hv];rfl
 have hoth:∀ k,k≠O→(w.setCell ⟨O,i,none⟩ (.int .i64 (opI o))).heap[k]? = w.heap[k]?:=fun k hk=>Below.heap_setCell _ _ _ _ (fun e=>hk e)
 refine ⟨h.ob.of_eq (hoth _ (fun e=>hn.1.1 (by rw [hob,e]))),h.la,h.lb,?_,?_,h.nd,?_,?_,h.dt,h.dv⟩
 ·rw [hv]
  have e:(opCells s.ot).set i (.int .i64 (opI o)) = opCells (s.ot.set i o):=by simp [opCells,List.map_set]
  rw [e] at hst
  simpa using hst
 ·exact ownsRow_of_eq h.pl (fun k hk=>hoth k (by rintro rfl;exact hn.2.2.2 _ hob _ hk rfl))
 ·exact h.ft.of_eq (fun k hk=>hoth k (by rintro rfl;exact h.dt _ hk hm))
 ·exact h.fv.of_eq (fun k hk=>hoth k (by rintro rfl;exact h.dv _ hk hm))
theorem Sw.setP (h:Sw w y T V s) {O cap:Nat} (hv:y.pv = .slice (some ⟨O,0,none⟩) s.pl.length cap) (i:Nat) (o:Bool):Sw (w.setCell ⟨O,i,none⟩ (.bool o)) y T V { s with pl:=s.pl.set i o }:=by
 have ho:=h.pl
 rw [hv] at ho
 have hst:=(ho.stored i (.bool o)).1
 have hm:O∈y.fp:=by simp [Lay.fp,fpS,hv,Value.ownBlock]
 have hn:=h.nd
 simp only [Lay.fp,fpS,List.nodup_cons,List.mem_append,Option.mem_toList,not_or,List.nodup_append] at hn
 have hob:y.pv.ownBlock = some O:=by rw [hv];rfl
 have hoth:∀ k,k≠O→(w.setCell ⟨O,i,none⟩ (.bool o)).heap[k]? = w.heap[k]?:=fun k hk=>Below.heap_setCell _ _ _ _ (fun e=>hk e)
 refine ⟨h.ob.of_eq (hoth _ (fun e=>hn.1.2 (by rw [hob,e]))),h.la,h.lb,?_,?_,h.nd,?_,?_,h.dt,h.dv⟩
 ·exact ownsRow_of_eq h.ow (fun k hk=>hoth k (by rintro rfl;exact hn.2.2.2 _ hk _ hob rfl))
 ·rw [hv]
  have e:(s.pl.map Value.bool).set i (.bool o) = (s.pl.set i o).map Value.bool:=by simp [List.map_set]
  rw [e] at hst
  simpa using hst
 ·exact h.ft.of_eq (fun k hk=>hoth k (by rintro rfl;exact h.dt _ hk hm))
 ·exact h.fv.of_eq (fun k hk=>hoth k (by rintro rfl;exact h.dv _ hk hm))
theorem Sw.of_eq (h:Sw w y T V s) (he:∀ k,k < w.heap.size→w'.heap[k]? = w.heap[k]?):Sw w' y T V s :=
 ⟨h.ob.of_eq (he _ (World.ownsRow.lt h.ob _ rfl).2),h.la,h.lb,ownsRow_of_eq h.ow (fun k hk=>he k (h.ow.lt k hk).2),ownsRow_of_eq h.pl (fun k hk=>he k (h.pl.lt k hk).2),h.nd,
  h.ft.of_eq (fun k hk=>he k (h.ft.lt k hk)),h.fv.of_eq (fun k hk=>he k (h.fv.lt k hk)),h.dt,h.dv⟩
theorem Sw.below (h:Sw w y T V s) (hb:Below w.heap.size w w'):Sw w' y T V s:=h.of_eq (fun k hk=>hb.block k hk)
theorem Sw.memQ (y:Lay):y.q∈y.fp:=by simp [Lay.fp,fpS]
theorem Sw.memO {O n cap:Nat} (hv:y.ov = .slice (some ⟨O,0,none⟩) n cap):O∈y.fp:=by simp [Lay.fp,fpS,hv,Value.ownBlock]
theorem Sw.memP {O n cap:Nat} (hv:y.pv = .slice (some ⟨O,0,none⟩) n cap):O∈y.fp:=by simp [Lay.fp,fpS,hv,Value.ownBlock]
end
end Go.Proofs.YtciihepbeacppaaGreat
