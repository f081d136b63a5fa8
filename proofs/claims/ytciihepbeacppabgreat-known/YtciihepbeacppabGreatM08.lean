import Derived.Test.YtciihepbeacppabGreatM01
import Derived.Test.YtciihepbeacppabGreatRG
import Derived.Test.YtciihepbeacppabGreatM02
import Derived.Test.YtciihepbeacppabGreatM06
import Derived.Test.YtciihepbeacppabGreatM05
import Derived.Laws.AppendOwnNone
import Derived.Laws.CopyOwn
import Derived.Deep.MidRow
import Derived.Deep.OwnRows
namespace Go.Proofs.YtciihepbeacppabGreat
open Go.RowKit
set_option linter.unusedVariables false
def dotB (l : List ByteArray) : Nat → Bool
 | 0=>false
 | k + 1=>eqW (l[k]?.getD em) dotW
def addIf (c : Bool) (v : List ByteArray) (x : ByteArray) : List ByteArray:=if c && decide (amI v x < 0) then v ++ [x] else v
def nmH (l : List ByteArray) : Nat → List ByteArray
 | 0=>[]
 | k + 1=>addIf (upB (l[k]?.getD em)) (nmH l k) (l[k]?.getD em)
theorem addIf_len (c : Bool) (v : List ByteArray) (x : ByteArray) : (addIf c v x).length ≤ v.length + 1:=by unfold addIf; split <;> simp
theorem low_up (x : ByteArray) (h : lowB x = true) : upB x = false:=by
 obtain ⟨c,rfl⟩:=one_of_size x (by
  by_cases hs : x.size = 1
  ·exact hs
  ·rw [lowB_not x hs] at h; cases h)
 rw [lowB_one] at h
 rw [upB_one]
 simp only [smallB,greatB] at *
 simp at h ⊢
 omega
def Lst (w : World) (v : Value) (sz n : Nat) (xs : List Value) : Prop :=
 xs.length = n * sz ∧ n ≤ 40000 ∧ ((v = .slice none 0 0 ∧ n = 0) ∨ ∃ g off cap,v = .slice (some ⟨g,off,none⟩) n cap ∧ n ≤ cap ∧ cap ≤ maxLen ∧ ∀ j u,xs[j]? = some u → w.cell? ⟨g,off + j,none⟩ = some u)
theorem Lst.below {w w' : World} {v : Value} {sz n : Nat} {xs : List Value} (h : Lst w v sz n xs) (hb : Below w.heap.size w w') : Lst w' v sz n xs:=by
 obtain ⟨h1,h2,h3⟩:=h
 refine ⟨h1,h2,?_⟩
 rcases h3 with h3 | ⟨g,off,cap,hv,hn,hm,hc⟩
 ·exact Or.inl h3
 ·exact Or.inr ⟨g,off,cap,hv,hn,hm,fun j u hj=>by rw [hb.cell (World.block_lt_of_cell? w _ (hc j u hj))]; exact hc j u hj⟩
theorem Lst.of_own {w : World} {B : Nat} {e : TypeId} {v : Value} {sz n : Nat} {xs : List Value} (h : w.ownsRow B e sz v n xs) (hn : n ≤ 40000) : Lst w v sz n xs:=by
 have hcs:=fun g hg=>h.cells (g:=g) hg
 refine ⟨h.1,hn,?_⟩
 rcases h.2 with ⟨rfl,h0⟩ | ⟨g,cap,cur,rfl,_,_,hn,hm,_,_⟩
 ·exact Or.inl ⟨rfl,h0⟩
 ·refine Or.inr ⟨g,0,cap,rfl,hn,hm,fun j u hj=>?_⟩
  have:=hcs g rfl j u hj
  rw [show (⟨g,0,none⟩ : Addr).add j = ⟨g,0 + j,none⟩ by unfold Addr.add; split <;> simp_all] at this
  exact this
def ints (l : List Int) : List Value:=l.map (Value.int .i64)
def evA (ns : List ByteArray) (vs : List Int) (n : ByteArray) : Option Int:=if eqW n nilW = true then some 0 else if fndL ns n < ns.length then some (vs.getD (fndL ns n) 0) else none
def bools (l : List Bool) : List Value:=l.map Value.bool
def clP (ad : List Int) (fr : List Bool) (a : Int) : Nat → Bool:=fun k=>fr.getD k false && ad.getD k 0 == a
def hCl (ad : List Int) (fr : List Bool) (a : Int) : Nat:=((List.range ad.length).find? (clP ad fr a)).getD ad.length
def HpA (w : World) (X : Nat) (ad nx : List Int) : Prop :=
 ∃ av xv,w.cell? ⟨X,2,none⟩ = some av ∧ w.cell? ⟨X,3,none⟩ = some xv ∧ Lst w av 1 ad.length (ints ad) ∧ Lst w xv 1 nx.length (ints nx)
section
variable {P : Program} {w : World}
theorem wpList_app_lst {ops : Array Oper} {rest : List Oper} {o : Oper} {a : Act} {Q : Exit → Act → World → Prop}
  (hg : o.guard = none) (s x : Operand) (t : TypeId) (hop : o.op = Op.call { callee:=Callee.builtin Builtin.append,args:=#[s,x],argTypes:=#[t,t] })
  (base : Nat) (e : TypeId) (i : TypeInfo) (z : Value) (size bytes : Nat) (ht : P.underlying t = some (.slice e)) (hi : P.info? e = some i) (hz : i.zero = some z)
  (hsize : i.size = size) (hby : i.bytes = bytes) (hzs : z.cells.size = size) (hsz : 0 < size)
  (v : Value) (n : Nat) (xs : List Value) (hs : a.eval s = v) (hown : w.ownsRow base e size v n xs)
  (xv : Value) (m : Nat) (news : List Value) (hx : a.eval x = xv) (hL : Lst w xv size m news) (h1 : ∀ u ∈ news,u.oneCell' = true)
  (h63 : n + m ≤ 1000000) (hb : bytes ≤ 1000) (hbase : base ≤ w.heap.size)
  (hK : ∀ v' w',w'.ownsRow base e size v' (n + m) (xs ++ news) → w.grownBy w' v.ownBlock → wpList P ops Q rest (a.put o.dst v') w') :
  wpList P ops Q (o :: rest) a w:=by
 have hbytes : (n + m) * bytes ≤ 140737488355328:=Nat.le_trans (Nat.mul_le_mul h63 hb) (by decide)
 obtain ⟨hl,_,(⟨rfl,rfl⟩ | ⟨g,off,cap,rfl,hn,hm,hc⟩)⟩:=hL
 ·have : news = []:=List.eq_nil_of_length_eq_zero (by omega)
  subst this
  refine wpList_append_own_none hg s x t hop base e i size ht hi v n xs hs hown hx ?_
  exact hK v w (by simpa using hown) ⟨rfl,rfl,rfl,Nat.le_refl _,fun _ _ _=>rfl⟩
 ·refine wpList_append_own w hg s x t hop base e i z size bytes ht hi hz hsize hby hzs hsz v n xs hs hown ⟨g,off,none⟩ m cap news hx hl (fun j u hj=>?_) h1 (by unfold maxLen; omega) hbytes hbase (fun v' w' r1 r2 _=>hK v' w' r1 r2)
  rw [show (⟨g,off,none⟩ : Addr).add j = ⟨g,off + j,none⟩ by unfold Addr.add; split <;> simp_all]
  exact hc j u hj
end
theorem Tryz.infoInt : (Tryz.prog.info? 3).map (fun i=>(i.zero,i.size,i.bytes)) = some (some (.int .i64 0),1,8):=by kernel_rfl
def oBad (ns : List ByteArray) (vs : List Int) (a : RAt) : Bool:=match evA ns vs a.a,evA ns vs a.b with | some x,some y=>(x == y) != eqW a.k eqSW | _,_=>false
def oNm (ns : List ByteArray) (vs : List Int) (cur : ByteArray) (a : RAt) : ByteArray:=if (evA ns vs a.b).isSome = false then a.b else if (evA ns vs a.a).isSome = false then a.a else cur
def oN (ns : List ByteArray) (vs : List Int) (l : List RAt) : ByteArray:=l.foldl (oNm ns vs) em
def mst (vs : List Int) : Int:=vs.foldl (fun m v=>if m < v then v else m) 0
def oth (l : List RAt) : Nat → List ByteArray → List Int → Bool
 | 0,_,_=>false
 | f + 1,ns,vs=>if l.any (oBad ns vs) then false else if eqW (oN ns vs l) em then true else
  vs.any (fun v=>oth l f (ns ++ [oN ns vs l]) (vs ++ [v])) || oth l f (ns ++ [oN ns vs l]) (vs ++ [0]) || oth l f (ns ++ [oN ns vs l]) (vs ++ [mst vs + 1])
def wayM (ad nx : List Int) (C : List ByteArray → List Int → List Bool → Bool) (a : RAt) (ns : List ByteArray) (vs : List Int) : Nat → Int → List Bool → Bool
 | 0,_,_=>false
 | m + 1,v,fr =>
  if hCl ad fr v < ad.length then
   let ok:=match evA ns vs a.b with
    | none=>C (ns ++ [a.b]) (vs ++ [nx.getD (hCl ad fr v) 0]) (fr.set (hCl ad fr v) false)
    | some e=>(e == nx.getD (hCl ad fr v) 0) && C ns vs (fr.set (hCl ad fr v) false)
   ok || (!eqW a.k toW && wayM ad nx C a ns vs m (nx.getD (hCl ad fr v) 0) (fr.set (hCl ad fr v) false))
  else false
structure HIn (w : World) (X : Nat) (ad nx : List Int) (pl pu : List RAt) (ns : List ByteArray) (vs : List Int) (fr : List Bool) (rv pv nv vv fv : Value) : Prop where
 hp : HpA w X ad nx
 pl : Lst w rv 3 pl.length (raCells pl)
 pu : Lst w pv 3 pu.length (raCells pu)
 ns : Lst w nv 1 ns.length (ns.map Value.string)
 vs : Lst w vv 1 vs.length (ints vs)
 fr : Lst w fv 1 fr.length (bools fr)
def pki (ns : List ByteArray) (vs : List Int) : List RAt → Option Nat
 | []=>none
 | a :: r=>if (evA ns vs a.a).isSome then some 0 else (pki ns vs r).map (· + 1)
def pkF (ns : List ByteArray) (vs : List Int) (pl : List RAt) (j : Nat) : Nat:=match pki ns vs (pl.drop j) with | some t=>j + t | none=>0
def ra0 : RAt:=⟨em,em,em⟩
def celM (ad nx : List Int) (pu : List RAt) : Nat → List RAt → List ByteArray → List Int → List Bool → Bool
 | 0,_,ns,vs,fr=>!fr.any id && oth pu (2 * pu.length + 1) ns vs
 | f + 1,pl,ns,vs,fr =>
  match evA ns vs (pl.getD (pkF ns vs pl 0) ra0).a with
  | some v=>wayM ad nx (celM ad nx pu f (pl.take (pkF ns vs pl 0) ++ pl.drop (pkF ns vs pl 0 + 1))) (pl.getD (pkF ns vs pl 0) ra0) ns vs (fr.count true + 1) v fr
  | none=>(List.range ad.length).any (fun k=>fr.getD k false && wayM ad nx (celM ad nx pu f (pl.take (pkF ns vs pl 0) ++ pl.drop (pkF ns vs pl 0 + 1))) (pl.getD (pkF ns vs pl 0) ra0) (ns ++ [(pl.getD (pkF ns vs pl 0) ra0).a]) (vs ++ [ad.getD k 0]) (fr.count true + 1) (ad.getD k 0) fr)
def beg (V T : CF) (an : List (Option Nat)) (st : Int) : SS:=⟨an,List.replicate V.ow.length none,V.ow.length,List.replicate T.ow.length false,st⟩
def fit (V T : CF) (an : List (Option Nat)) (st : Int) : Bool × SS:=plF (wk V T (V.ow.length + 1)) V T (beg V T an st) 0
def cutA (l : List Pr) (i size : Nat) : List Pr :=
 if size = 1 then l.set i ⟨3,(l.getD i pr0).l,(l.getD i pr0).r⟩
 else if size = 2 then l.set i ⟨3,(l.getD i pr0).l,24 + 2 * i⟩ ++ [⟨3,24 + 2 * i,(l.getD i pr0).r⟩]
 else l.set i ⟨3,(l.getD i pr0).l,24 + 2 * i⟩ ++ [⟨4,24 + 2 * i,25 + 2 * i⟩,⟨3,25 + 2 * i,(l.getD i pr0).r⟩]
def whB (n : Nat) (l : List Pr) (i : Nat) : Bool:=decide (i < n) && ((l.getD i pr0).k == 4)
def cuF (n : Nat) (l : List Pr) (f : List Pr) (i : Nat) : List Pr:=if whB n l i then cutA f i 3 else f
def cutL (n : Nat) (l : List Pr) : List Pr:=(List.range l.length).foldl (cuF n l) l
def teB (v : List Pr) (s : SS) (i : Nat) : Bool:=match bgn v (24 + 2 * i),bgn v (25 + 2 * i) with
 | some m,some e=>if s.ot.getD m none ≠ s.ot.getD i none ∨ s.ot.getD e none ≠ s.ot.getD i none then true else s.bd.any (fun b=>b == some (24 + 2 * i) || b == some (25 + 2 * i))
 | _,_=>true
def trn (n : Nat) (l v : List Pr) (s : SS) : Option Nat:=(List.range l.length).find? (fun i=>whB n l i && teB v s i)
def vw (F : CF) (l : List Pr) : CF:=⟨F.cl,F.ap,l⟩
def alw (F T : CF) (an : List (Option Nat)) : Nat → Int → List Pr → Bool × Int
 | 0,st,_=>(false,st)
 | m + 1,st,l=>match fit (vw F l) T an st with
  | (true,s)=>(true,s.st)
  | (false,s)=>match fit (vw F (cutL F.ow.length l)) T an s.st with
   | (false,s2)=>(false,s2.st)
   | (true,s2)=>match trn F.ow.length l (cutL F.ow.length l) s2 with
    | none=>(false,s2.st)
    | some i=>match alw F T an m s2.st (cutA l i 1) with
     | (false,t)=>(false,t)
     | (true,t)=>match alw F T an m t (cutA l i 2) with
      | (false,t)=>(false,t)
      | (true,t)=>alw F T an m t (cutA l i 3)
theorem cut_at {l : List Pr} {i size j : Nat} (hi : i < l.length) (hj : j < l.length) : (cutA l i size).getD j pr0 = if i = j then ⟨3,(l.getD i pr0).l,if size = 1 then (l.getD i pr0).r else 24 + 2 * i⟩ else l.getD j pr0:=by
 have hget : ∀ (x : Pr) (r : List Pr),(l.set i x ++ r).getD j pr0 = if i = j then x else l.getD j pr0:=by
  intro x r
  rw [← getD_set l i j x pr0 hi]
  simp only [List.getD_eq_getElem?_getD]
  rw [List.getElem?_append_left (by simpa using hj)]
 unfold cutA
 by_cases h1 : size = 1
 ·rw [if_pos h1,if_pos h1]
  exact getD_set l i j _ pr0 hi
 ·rw [if_neg h1,if_neg h1]
  by_cases h2 : size = 2
  ·rw [if_pos h2,hget]
  ·rw [if_neg h2,hget]
theorem cut_len {l : List Pr} {i size : Nat} : l.length ≤ (cutA l i size).length:=by
 unfold cutA
 split
 ·simp
 ·split <;> simp
theorem trn_some {n : Nat} {l v : List Pr} {s : SS} {i : Nat} (h : trn n l v s = some i) : i < n ∧ (l.getD i pr0).k = 4:=by
 have:=List.find?_some h
 simp only [Bool.and_eq_true,whB,decide_eq_true_eq,beq_iff_eq] at this
 exact this.1
theorem wk_all {y : Lay} {T V : CF} (hT : Rm T) (hA : RmA T) (hTl : T.ow.length ≤ 1000000) (hVl : V.ow.length ≤ 1000000) : ∀ m,WkC y T V m (wk V T m):=by
 intro m
 induction m with
 | zero=>intro w s k at_ count _ _ h; omega
 | succ m ih=>exact walk_step hT hVl ih (place_step hT hA hTl hVl ih)
def Sq (w : World) (q f t : Nat) (an : List (Option Nat)) (st : Int) : Prop :=
 ∃ (mid : List Value) (vv ov uv pv : Value),Ob w 72 55 q (qHead f t an ++ (mid ++ [vv,ov,uv,pv,.int .i64 st])) ∧ mid.length = 24 ∧ an.length = 24
theorem Sw.sq {w : World} {y : Lay} {T V : CF} {s : SS} (h : Sw w y T V s) : Sq w y.q y.f y.t y.an s.st:=⟨_,_,_,_,_,h.ob,by rw [opCells_len]; exact h.lb,h.la⟩
theorem Ob.some {w : World} {T n A : Nat} {xs : List Value} (h : Ob w T n A xs) {j : Nat} (hj : j < n) : (∃ u,w.cell? ⟨A,j,none⟩ = some u) ∧ w.frozen? ⟨A,j,none⟩ = false:=by
 refine ⟨?_,World.ownsRow.frozenAt h j⟩
 have hl : j < xs.length:=by have:=h.1; omega
 exact ⟨xs[j],by rw [World.ownsRow.cellAt h j (by omega)]; simp [hl]⟩
theorem Ob.set {w : World} {T n A : Nat} {xs : List Value} (h : Ob w T n A xs) (j : Nat) (u : Value) : Ob (w.setCell ⟨A,j,none⟩ u) T n A (xs.set j u):=(World.ownsRow.stored h j u).1
theorem Ob.alloc {w : World} {T n A : Nat} {xs : List Value} (h : Ob w T n A xs) (o : Obj) : Ob (w.alloc o) T n A xs:=h.of_eq (Below.heap_alloc _ _ _ (World.ownsRow.lt h _ rfl).2)
def setL (xs : List Value) : Nat → List Value → List Value
 | _,[]=>xs
 | o,v :: r=>setL (xs.set o v) (o + 1) r
theorem Ob.setCells {T n A : Nat} : ∀ (vs : List Value) (o : Nat) {w : World} {xs : List Value},Ob w T n A xs → Ob (w.setCells A o vs) T n A (setL xs o vs):=by
 intro vs
 induction vs with
 | nil=>intro o w xs h; exact h
 | cons v r ih=>intro o w xs h; exact ih (o + 1) (h.set o v)
theorem setL_mid : ∀ (vs a mid c : List Value),mid.length = vs.length → setL (a ++ (mid ++ c)) a.length vs = a ++ (vs ++ c):=by
 intro vs
 induction vs with
 | nil =>
  intro a mid c h
  have : mid = []:=List.eq_nil_of_length_eq_zero h
  subst this; rfl
 | cons v r ih =>
  intro a mid c h
  cases mid with
  | nil=>simp at h
  | cons m mid =>
   have h2:=ih (a ++ [v]) mid c (by simpa using h)
   simp only [setL]
   rw [List.set_append_right _ _ (Nat.le_refl _),Nat.sub_self]
   simp only [List.cons_append,List.set_cons_zero]
   have e1 : a ++ v :: (mid ++ c) = (a ++ [v]) ++ (mid ++ c):=by simp
   have e2 : a.length + 1 = (a ++ [v]).length:=by simp
   rw [e1,e2,h2]
   simp
theorem Stp.setCells {F F' : List Nat} {a : World} {b : Nat} (hb : b ∈ F) : ∀ (vs : List Value) (o : Nat) {w : World},Stp F a F' w → Stp F a F' (w.setCells b o vs):=by
 intro vs
 induction vs with
 | nil=>intro o w h; exact h
 | cons v r ih=>intro o w h; exact ih (o + 1) (h.setCell (Or.inl hb) v)
theorem heap_setCells_ne {b k : Nat} (hk : k ≠ b) : ∀ (vs : List Value) (o : Nat) (w : World),(w.setCells b o vs).heap[k]? = w.heap[k]?:=by
 intro vs
 induction vs with
 | nil=>intro o w; rfl
 | cons v r ih=>intro o w; exact (ih (o + 1) _).trans (Below.heap_setCell _ _ _ _ hk)
theorem Tryz.info24 : (Tryz.prog.info? 69).map (·.size) = some 24:=by kernel_rfl
set_option maxRecDepth 100000 in
set_option maxHeartbeats 8000000 in
theorem begin_any {w : World} {q f t : Nat} {an : List (Option Nat)} {st : Int} {F T : CF} {l : List Pr} {fav fov tav tov lv : Value} (h : Sq w q f t an st) (hF : IsF w f F fav fov) (hT : IsF w t T tav tov) (hl : w.ownsRow 0 103 3 lv l.length (prCells l)) (hll : l.length ≤ 1000000) (hTl : T.ow.length ≤ 1000000)
  (hq : ∀ k,k ∈ bsF f fav fov ++ (bsF t tav tov ++ lv.ownBlock.toList) → k ≠ q) :
  Calls Tryz.prog 63 #[.pointer (some ⟨q,0,none⟩),lv] w fun e w'=>e = .returned (.tuple #[]) ∧ ∃ v ov pv,Sw w' ⟨q,f,t,v,an,tav,tov,fav,lv,ov,pv⟩ T (vw F l) (beg (vw F l) T an st) ∧ Stp [q] w (fpS q ov pv) w':=by
 obtain ⟨mid,vv,ov0,uv,pv0,hob,hmid,han⟩:=h
 have hq0 : w.cell? ⟨q,0,none⟩ = some (.pointer (some ⟨f,0,none⟩)):=by rw [World.ownsRow.cellAt hob 0 (by omega)]; rfl
 have hf5:=hF.c5
 have hf0:=hF.cls (i:=0) (by omega)
 have hf1:=hF.cls (i:=1) (by omega)
 have hf2:=hF.cls (i:=2) (by omega)
 have hf3:=hF.cls (i:=3) (by omega)
 have hf4:=hF.cls (i:=4) (by omega)
 unfold clV at hf0 hf1 hf2 hf3 hf4
 obtain ⟨n0,hn0⟩ : ∃ x,x = F.cl.getD 0 0:=⟨_,rfl⟩
 obtain ⟨n1,hn1⟩ : ∃ x,x = F.cl.getD 1 0:=⟨_,rfl⟩
 obtain ⟨n2,hn2⟩ : ∃ x,x = F.cl.getD 2 0:=⟨_,rfl⟩
 obtain ⟨n3,hn3⟩ : ∃ x,x = F.cl.getD 3 0:=⟨_,rfl⟩
 obtain ⟨n4,hn4⟩ : ∃ x,x = F.cl.getD 4 0:=⟨_,rfl⟩
 rw [← hn0] at hf0
 rw [← hn1] at hf1
 rw [← hn2] at hf2
 rw [← hn3] at hf3
 rw [← hn4] at hf4
 obtain ⟨fao,fcap,hfav⟩:=slice_of_own hF.ap
 rw [hfav] at hf5
 have HN : Hid (n0 = F.cl.getD 0 0 ∧ n1 = F.cl.getD 1 0 ∧ n2 = F.cl.getD 2 0 ∧ n3 = F.cl.getD 3 0 ∧ n4 = F.cl.getD 4 0):=hide ⟨hn0,hn1,hn2,hn3,hn4⟩
 clear hn0 hn1 hn2 hn3 hn4
 obtain ⟨lao,lcap,hlv,hlm',hln,-⟩:=pr_of_own hl
 have hlm : lcap ≤ 9223372036854775807:=by unfold maxLen at hlm'; omega
 have hobA : ∀ o,Ob (w.alloc o) 72 55 q (qHead f t an ++ (mid ++ [vv,ov0,uv,pv0,.int .i64 st])):=fun o=>Ob.of_eq hob (Below.heap_alloc _ _ _ (World.ownsRow.lt hob _ rfl).2)
 have hq50 : ∀ o,(w.alloc o).cell? ⟨q,50,none⟩ = some vv:=fun o=>by
  rw [World.ownsRow.cellAt (hobA o) 50 (by omega)]
  rw [List.getElem?_append_right (by simp [qHead,opCells_len,han]),List.getElem?_append_right (by simp [qHead,opCells_len,han,hmid])]
  simp [qHead,opCells_len,han,hmid]
 have hfz : ∀ o j,(w.alloc o).frozen? ⟨q,j,none⟩ = false:=fun o j=>World.ownsRow.frozenAt (hobA o) j
 have HF:=hide hF
 have HT:=hide hT
 have HL:=hide hl
 have HQ:=hide hq
 have HOb:=hide hob
 have HLV:=hide hlv
 have HFV:=hide hfav
 rw [hlv]
 clear hF hT hl hq hob hobA hlm' hlv hfav
 go_enter Tryz.func63,Tryz.ntmps63
 go_wp2_with fail
 go_region
 obtain ⟨X,hX⟩ : ∃ X,X = qHead f t an ++ (mid ++ [vv,ov0,uv,pv0,Value.int IntKind.i64 st]):=⟨_,rfl⟩
 obtain ⟨w1,hw1⟩ : ∃ w1,w1 = ((w.alloc (Obj.cells #[Value.int IntKind.i64 n0,Value.int IntKind.i64 n1,Value.int IntKind.i64 n2,Value.int IntKind.i64 n3,Value.int IntKind.i64 n4,Value.slice fao F.ap.length fcap,Value.slice lao l.length lcap] 77)).setCell ⟨q,50,none⟩ (Value.pointer (some ⟨w.heap.size,0,none⟩))).drew:=⟨_,rfl⟩
 rw [← hw1]
 have hqs : q < w.heap.size:=(World.ownsRow.lt (uh HOb) _ rfl).2
 have hST1 : Stp [q] w [q] w1:=by rw [hw1]; exact (((Stp.refl [q] w).alloc _).setCell (Or.inl (by simp)) _).drew
 have hOb1 : Ob w1 72 55 q (X.set 50 (.pointer (some ⟨w.heap.size,0,none⟩))):=by
  rw [hw1]
  have h1:=Ob.of_eq (uh HOb) (w':=w.alloc (Obj.cells #[Value.int IntKind.i64 n0,Value.int IntKind.i64 n1,Value.int IntKind.i64 n2,Value.int IntKind.i64 n3,Value.int IntKind.i64 n4,Value.slice fao F.ap.length fcap,Value.slice lao l.length lcap] 77)) (Below.heap_alloc _ _ _ hqs)
  rw [← hX] at h1
  exact Ob.of_eq (World.ownsRow.stored h1 50 _).1 rfl
 have hbk1 : ∀ k,k < w.heap.size → k ≠ q → w1.heap[k]? = w.heap[k]?:=fun k hk hne=>hST1.block k hk (by simpa using hne)
 have hIsV : IsF w1 w.heap.size (vw F l) fav lv:=by
  refine ⟨?_,?_,?_⟩
  ·have h1:=World.ownsRow_lit (base:=0) (e:=77) (size:=7) w #[Value.int IntKind.i64 n0,Value.int IntKind.i64 n1,Value.int IntKind.i64 n2,Value.int IntKind.i64 n3,Value.int IntKind.i64 n4,Value.slice fao F.ap.length fcap,Value.slice lao l.length lcap] 1 (Nat.zero_le _) (by simp [maxLen]) rfl
   have h2 : Ob w1 77 7 w.heap.size [Value.int IntKind.i64 n0,Value.int IntKind.i64 n1,Value.int IntKind.i64 n2,Value.int IntKind.i64 n3,Value.int IntKind.i64 n4,Value.slice fao F.ap.length fcap,Value.slice lao l.length lcap]:=by
    refine Ob.of_eq h1 ?_
    rw [hw1]
    exact Below.heap_setCell _ _ _ _ (by show w.heap.size ≠ q; omega)
   obtain ⟨e0,e1,e2,e3,e4⟩:=uh HN
   rw [← uh HFV,← uh HLV] at h2
   unfold foCells clV
   rw [show (vw F l).cl = F.cl from rfl,← e0,← e1,← e2,← e3,← e4]
   exact h2
  ·exact ownsRow_of_eq (uh HF).ap (fun k hk=>hbk1 k ((uh HF).ap.lt k hk).2 (uh HQ k (by simp [bsF,hk])))
  ·exact ownsRow_of_eq (uh HL) (fun k hk=>hbk1 k ((uh HL).lt k hk).2 (uh HQ k (by simp [hk])))
 have hIsT : IsF w1 t T tav tov:=(uh HT).of_eq (fun k hk=>hbk1 k ((uh HT).lt k hk) (uh HQ k (by simp [hk])))
 have HV1:=hide hIsV
 have HT1:=hide hIsT
 have HST1:=hide hST1
 obtain ⟨X1,hX1⟩ : ∃ X1,X1 = X.set 50 (.pointer (some ⟨w.heap.size,0,none⟩)):=⟨_,rfl⟩
 rw [← hX1] at hOb1
 have HX1:=hide hX1
 have HX:=hide hX
 have HO1:=hide hOb1
 obtain ⟨⟨u52,hu52⟩,hz52⟩:=hOb1.some (j:=52) (by omega)
 have hOb2:=hOb1.set 52 (.int .i64 (l.length : Int))
 have hmk:=run_make_row' (P:=Tryz.prog) 36 3 (.int .i64 0) 8 Tryz.underlying36 Tryz.infoInt rfl .i64 .i64 l.length (by omega) (by omega)
 obtain ⟨⟨u51,hu51⟩,hz51⟩:=(hOb2.alloc (.cells (madeCells #[.int .i64 0] l.length) 3)).some (j:=51) (by omega)
 clear hIsV hIsT hST1 hX1 hX hOb1 hOb2 hbk1 hq0 hf5 hf0 hf1 hf2 hf3 hf4 hq50 hfz
 have HW1:=hide hw1
 clear hw1
 go_wp2_with fail
 obtain ⟨O,hO⟩ : ∃ O,O = w1.heap.size:=⟨_,rfl⟩
 obtain ⟨w3,hw3⟩ : ∃ w3,w3 = ((w1.setCell ⟨q,52,none⟩ (.int .i64 (l.length : Int))).alloc (.cells (madeCells #[Value.int .i64 0] l.length) 3)).setCell ⟨q,51,none⟩ (.slice (some ⟨w1.heap.size,0,none⟩) l.length l.length):=⟨_,rfl⟩
 rw [← hw3,← hO]
 have hqO : q < O:=by rw [hO]; exact Nat.lt_of_lt_of_le hqs (uh HST1).size
 have hST13 : Stp [q] w1 [q] w3:=by rw [hw3]; exact (((Stp.refl [q] w1).setCell (Or.inl (by simp)) _).alloc _).setCell (Or.inl (by simp)) _
 have hST3 : Stp [q] w [q] w3:=(uh HST1).trans hST13
 have hOb3 : Ob w3 72 55 q ((X1.set 52 (.int .i64 (l.length : Int))).set 51 (.slice (some ⟨O,0,none⟩) l.length l.length)):=by
  rw [hw3,hO]; exact (((uh HO1).set 52 _).alloc _).set 51 _
 have hrow3 : w3.ownsRow 0 3 1 (.slice (some ⟨O,0,none⟩) l.length l.length) l.length (List.replicate l.length (.int .i64 0)):=by
  have h1:=World.ownsRow_lit (base:=0) (e:=3) (size:=1) (w1.setCell ⟨q,52,none⟩ (.int .i64 (l.length : Int))) (madeCells #[Value.int .i64 0] l.length) l.length (Nat.zero_le _) (by simp [maxLen]; omega) (by simp [madeCells])
  rw [toList_madeCells_one] at h1
  have e : (w1.setCell ⟨q,52,none⟩ (.int .i64 (l.length : Int))).heap.size = O:=by rw [hO]; simp
  rw [e] at h1
  refine ownsRow_of_eq h1 (fun k hk=>?_)
  cases hk
  rw [hw3]
  exact Below.heap_setCell _ _ _ _ (by show O ≠ q; omega)
 have hsz3 : w3.heap.size = O + 1:=by rw [hw3,hO]; simp
 have hvlt : w.heap.size < O:=by
  have:=(uh HV1).lt w.heap.size (by simp [bsF])
  rw [hO]; exact this
 have hIsV3 : IsF w3 w.heap.size (vw F l) fav lv:=(uh HV1).of_eq (fun k hk=>hST13.block k ((uh HV1).lt k hk) (by
  simp only [List.mem_singleton]
  simp only [bsF,List.mem_cons,List.mem_append,Option.mem_toList] at hk
  rcases hk with rfl | hk | hk
  ·omega
  ·exact uh HQ k (by simp [bsF,hk])
  ·exact uh HQ k (by simp [hk])))
 have hIsT3 : IsF w3 t T tav tov:=(uh HT1).of_eq (fun k hk=>hST13.block k ((uh HT1).lt k hk) (by
  simp only [List.mem_singleton]
  exact uh HQ k (by simp [hk])))
 have HV3:=hide hIsV3
 have HT3:=hide hIsT3
 have HST3:=hide hST3
 have HO3:=hide hOb3
 have HR3:=hide hrow3
 have HO:=hide hO
 clear hIsV3 hIsT3 hST3 hST13 hOb3 hrow3 hO hw3 hu52 hz52 hu51 hz51 hmk HW1 HT1 HV1 HO1 HST1
 go_loopw [4] (fun i wr=>∃ k : Nat,k ≤ l.length ∧ i = .int .i64 k ∧ Hid (wr.ownsRow 0 3 1 (.slice (some ⟨O,0,none⟩) l.length l.length) l.length (List.replicate k (.int .i64 (-1)) ++ List.replicate (l.length - k) (.int .i64 0))) ∧ Hid (Stp [O] w3 [O] wr)) (fun i _=>l.length - (intOf i).toNat)
 case atStart=>exact ⟨0,Nat.zero_le _,rfl,hide (by simpa using uh HR3),hide (Stp.refl _ _)⟩
 case round =>
  obtain ⟨k,hk,rfl,hrow,hst⟩:=hrel
  have hObr : Ob wr 72 55 q ((X1.set 52 (.int .i64 (l.length : Int))).set 51 (.slice (some ⟨O,0,none⟩) l.length l.length)):=(uh HO3).of_eq ((uh hst).block q (by omega) (by simp; omega))
  have hX1l : X1.length = 55:=by
   have h1:=(uh HO3).1
   simp only [List.length_set] at h1
   omega
  have h51 : wr.cell? ⟨q,51,none⟩ = some (.slice (some ⟨O,0,none⟩) l.length l.length):=by
   rw [World.ownsRow.cellAt hObr 51 (by omega),List.getElem?_set_self (by simp; omega)]
  by_cases hlt : k < l.length
  ·have hck : wr.cell? ⟨O,k,none⟩ = some (.int .i64 0):=by
    rw [(uh hrow).cellAt k (by omega),List.getElem?_append_right (by simp),List.length_replicate,Nat.sub_self,List.getElem?_replicate,if_pos (by omega)]
   have hfk:=(uh hrow).frozenAt k
   have hnew:=((uh hrow).stored k (.int .i64 (-1))).1
   have e : (List.replicate k (Value.int .i64 (-1)) ++ List.replicate (l.length - k) (Value.int .i64 0)).set k (Value.int .i64 (-1)) = List.replicate (k + 1) (Value.int .i64 (-1)) ++ List.replicate (l.length - (k + 1)) (Value.int .i64 0):=by
    rw [List.set_append_right k _ (by simp)]
    simp only [List.length_replicate,Nat.sub_self]
    rw [show l.length - k = (l.length - (k + 1)) + 1 by omega,List.replicate_succ,List.set_cons_zero,List.replicate_succ',List.append_assoc]
    rfl
   rw [e] at hnew
   have HNew:=hide hnew
   have HSt:=hide ((uh hst).setCell (p:=⟨O,k,none⟩) (Or.inl (by simp)) (.int .i64 (-1)))
   clear hnew hObr hrow hst
   go_wp2_with fail
   go_roundw
   case rel=>exact ⟨k + 1,by omega,by go_num,HNew,HSt⟩
   case measure=>simp [intOf]; omega
  ·have hd : decide ((k : Int) < (l.length : Int)) = false:=by simp; omega
   have hkl : k = l.length:=by omega
   subst hkl
   have hq1 : wr.cell? ⟨q,1,none⟩ = some (.pointer (some ⟨t,0,none⟩)):=by
    rw [World.ownsRow.cellAt hObr 1 (by omega),List.getElem?_set_ne (by omega),List.getElem?_set_ne (by omega),uh HX1,List.getElem?_set_ne (by omega),uh HX]
    rfl
   have hIsTr : IsF wr t T tav tov:=(uh HT3).of_eq (fun k hk=>(uh hst).block k ((uh HT3).lt k hk) (by
    simp only [List.mem_singleton]
    rintro rfl
    have:=(uh HT).lt _ hk
    omega))
   have hT6:=hIsTr.c6
   obtain ⟨tao,tcap,htov,htm',htn,-⟩:=pr_of_own hIsTr.ow
   have htm : tcap ≤ 9223372036854775807:=by unfold maxLen at htm'; omega
   rw [htov] at hT6
   have hmk:=run_make_row' (P:=Tryz.prog) 70 4 (.bool false) 1 Tryz.underlying70 Tryz.infoBool rfl .i64 .i64 T.ow.length (by omega) (by omega)
   obtain ⟨⟨u53,hu53⟩,hz53⟩:=(hObr.alloc (.cells (madeCells #[.bool false] T.ow.length) 4)).some (j:=53) (by omega)
   have HTov:=hide htov
   have HTr:=hide hIsTr
   have hOb4:=(hObr.alloc (.cells (madeCells #[Value.bool false] T.ow.length) 4)).set 53 (Value.slice (some ⟨wr.heap.size,0,none⟩) T.ow.length T.ow.length)
   have hRange : ((wr.alloc (.cells (madeCells #[Value.bool false] T.ow.length) 4)).setCell ⟨q,53,none⟩ (Value.slice (some ⟨wr.heap.size,0,none⟩) T.ow.length T.ow.length)).rangeAt q 2 (opCells an):=by
    intro j v hj
    have hj24 : j < 24:=by
     have:=(List.getElem?_eq_some_iff.1 hj).1
     rw [opCells_len,han] at this; exact this
    rw [World.ownsRow.cellAt hOb4 (2 + j) (by omega),List.getElem?_set_ne (by omega),List.getElem?_set_ne (by omega),List.getElem?_set_ne (by omega),uh HX1,List.getElem?_set_ne (by omega),uh HX]
    rw [List.getElem?_append_left (by simp [qHead,opCells_len]; omega)]
    unfold qHead
    rw [List.getElem?_append_right (by simp)]
    simpa [show 2 + j - 2 = j by omega] using hj
   have hThere : ((wr.alloc (.cells (madeCells #[Value.bool false] T.ow.length) 4)).setCell ⟨q,53,none⟩ (Value.slice (some ⟨wr.heap.size,0,none⟩) T.ow.length T.ow.length)).there q 26 (opCells an).toArray.size:=by
    intro j hj
    have hj24 : j < 24:=by simpa [opCells_len,han] using hj
    obtain ⟨⟨u,hu⟩,hz⟩:=hOb4.some (j:=26 + j) (by omega)
    exact ⟨by rw [hu]; rfl,hz⟩
   have hOb5:=Ob.setCells (opCells an) 26 hOb4
   have hInf : (Tryz.prog.info? 69).map (·.size) = some (opCells an).length:=by rw [opCells_len,han]; exact Tryz.info24
   have hInf2 : (Tryz.prog.info? 69).map (·.size) = some (opCells an).toArray.size:=by rw [List.size_toArray,opCells_len,han]; exact Tryz.info24
   have hOne : (opCells an).toArray.all (·.oneCell') = true:=all_oneCell_toArray (by
    intro v hv
    obtain ⟨o,_,rfl⟩:=List.mem_map.1 hv
    rfl)
   have HR:=hide hRange
   have HTh:=hide hThere
   have HI:=hide hInf
   have HI2:=hide hInf2
   have HOne:=hide hOne
   have HOb5:=hide hOb5
   obtain ⟨AN,hAN⟩ : ∃ AN,AN = opCells an:=⟨_,rfl⟩
   rw [← hAN] at HR HTh HI HI2 HOne HOb5
   have HAN:=hide hAN
   clear htov hObr hIsTr htm' hOb4 hRange hThere hInf hInf2 hOne hOb5 hAN
   go_wp2_with (first | refine wpList_load_mid rfl 69 (.tmp 66) rfl q 2 rfl AN _ (uh HR) Tryz.underlying69 rfl (uh HI) ?_ | refine wpList_store_mid rfl 69 (.tmp 69) (.tmp 67) rfl q 26 AN.toArray rfl rfl (uh HTh) (uh HI2) (uh HOne) ?_)
   go_end0
   rw [← uh HLV]
   have hql : (qHead f t an).length = 26:=by simp [qHead,opCells_len,han]
   have hL3 : O < wr.heap.size:=by have:=(uh hst).size; omega
   have hobF : Ob (((wr.alloc (Obj.cells (madeCells #[Value.bool false] T.ow.length) 4)).setCell ⟨q,53,none⟩ (Value.slice (some ⟨wr.heap.size,0,none⟩) T.ow.length T.ow.length)).setCells q 26 AN) 72 55 q (qCells f t w.heap.size an (beg (vw F l) T an st) (.slice (some ⟨O,0,none⟩) l.length l.length) (.slice (some ⟨wr.heap.size,0,none⟩) T.ow.length T.ow.length)):=by
    have h5:=uh HOb5
    rw [uh HX1,uh HX] at h5
    have hset : ∀ (tl : List Value) (j : Nat) (u : Value),(qHead f t an ++ (mid ++ tl)).set (50 + j) u = qHead f t an ++ (mid ++ tl.set j u):=by
     intro tl j u
     rw [List.set_append_right _ _ (by omega),hql,List.set_append_right _ _ (by omega),hmid,show 50 + j - 26 - 24 = j by omega]
    have s0:=hset [vv,ov0,uv,pv0,Value.int IntKind.i64 st] 0 (.pointer (some ⟨w.heap.size,0,none⟩))
    have s1:=hset [.pointer (some ⟨w.heap.size,0,none⟩),ov0,uv,pv0,Value.int IntKind.i64 st] 2 (.int .i64 (l.length : Int))
    have s2:=hset [.pointer (some ⟨w.heap.size,0,none⟩),ov0,.int .i64 (l.length : Int),pv0,Value.int IntKind.i64 st] 1 (.slice (some ⟨O,0,none⟩) l.length l.length)
    have s3:=hset [.pointer (some ⟨w.heap.size,0,none⟩),.slice (some ⟨O,0,none⟩) l.length l.length,.int .i64 (l.length : Int),pv0,Value.int IntKind.i64 st] 3 (Value.slice (some ⟨wr.heap.size,0,none⟩) T.ow.length T.ow.length)
    simp only [List.set_cons_zero,List.set_cons_succ,Nat.add_zero,Nat.reduceAdd] at s0 s1 s2 s3
    rw [s0,s1,s2,s3,show (26 : Nat) = (qHead f t an).length from hql.symm,setL_mid AN (qHead f t an) mid _ (by rw [uh HAN,opCells_len]; omega)] at h5
    rw [show 26 = (qHead f t an).length from hql.symm]
    rw [uh HAN] at h5 ⊢
    exact h5
   obtain ⟨w5,hw5⟩ : ∃ w5,w5 = (((wr.alloc (Obj.cells (madeCells #[Value.bool false] T.ow.length) 4)).setCell ⟨q,53,none⟩ (Value.slice (some ⟨wr.heap.size,0,none⟩) T.ow.length T.ow.length)).setCells q 26 AN):=⟨_,rfl⟩
   rw [← hw5] at hobF ⊢
   have hbk : ∀ k,k < wr.heap.size → k ≠ q → w5.heap[k]? = wr.heap[k]?:=by
    intro k hk hne
    rw [hw5,heap_setCells_ne hne,Below.heap_setCell _ _ _ _ hne,Below.heap_alloc _ _ _ hk]
   have hbk3 : ∀ k,k < O → k ≠ q → w5.heap[k]? = w3.heap[k]?:=fun k hk hne=>(hbk k (by omega) hne).trans ((uh hst).block k (by omega) (by simp; omega))
   have hlow : ∀ k,k ∈ bsF t tav tov → k < w.heap.size ∧ k ≠ q:=fun k hk=>⟨(uh HT).lt k hk,uh HQ k (by simp [hk])⟩
   have hlowv : ∀ k,k ∈ bsF w.heap.size fav lv → k ≤ w.heap.size ∧ k ≠ q:=by
    intro k hk
    simp only [bsF,List.mem_cons,List.mem_append,Option.mem_toList] at hk
    rcases hk with rfl | hk | hk
    ·exact ⟨Nat.le_refl _,by omega⟩
    ·exact ⟨Nat.le_of_lt ((uh HF).ap.lt k hk).2,uh HQ k (by simp [bsF,hk])⟩
    ·exact ⟨Nat.le_of_lt ((uh HL).lt k hk).2,uh HQ k (by simp [hk])⟩
   refine ⟨rfl,w.heap.size,.slice (some ⟨O,0,none⟩) l.length l.length,.slice (some ⟨wr.heap.size,0,none⟩) T.ow.length T.ow.length,⟨hobF,han,han,?_,?_,?_,?_,?_,?_,?_⟩,?_⟩
   ·have h1:=uh hrow
    rw [Nat.sub_self] at h1
    simp only [List.replicate_zero,List.append_nil] at h1
    have h2 : (beg (vw F l) T an st).ot = List.replicate l.length none:=rfl
    rw [h2]
    simp only [opCells,List.map_replicate,List.length_replicate]
    exact ownsRow_of_eq h1 (fun k hk=>by cases hk; exact hbk O hL3 (by omega))
   ·have h1:=World.ownsRow_lit (base:=0) (e:=4) (size:=1) wr (madeCells #[Value.bool false] T.ow.length) T.ow.length (Nat.zero_le _) (by simp [maxLen]; omega) (by simp [madeCells])
    rw [toList_madeCells_one] at h1
    have h2 : (beg (vw F l) T an st).pl = List.replicate T.ow.length false:=rfl
    rw [h2]
    simp only [List.map_replicate,List.length_replicate]
    refine ownsRow_of_eq h1 (fun k hk=>?_)
    cases hk
    have hne : wr.heap.size ≠ q:=by omega
    rw [hw5,heap_setCells_ne hne]
    exact Below.heap_setCell _ _ _ _ hne
   ·show [q,O,wr.heap.size].Nodup
    simp
    omega
   ·exact (uh HT3).of_eq (fun k hk=>hbk3 k (by have:=(hlow k hk).1; omega) (hlow k hk).2)
   ·exact (uh HV3).of_eq (fun k hk=>hbk3 k (by have:=(hlowv k hk).1; omega) (hlowv k hk).2)
   ·intro k hk
    have:=hlow k hk
    show k ∉ [q,O,wr.heap.size]
    simp
    omega
   ·intro k hk
    have:=hlowv k hk
    show k ∉ [q,O,wr.heap.size]
    simp
    omega
   ·have h1:=uh HST3
    have h2:=uh hst
    have h3 : Stp [q] wr [q] w5:=by rw [hw5]; exact Stp.setCells (by simp) _ _ (((Stp.refl [q] wr).alloc _).setCell (Or.inl (by simp)) _)
    refine ⟨h3.os.trans (h2.os.trans h1.os),h3.tape.trans (h2.tape.trans h1.tape),h3.output.trans (h2.output.trans h1.output),Nat.le_trans h1.size (Nat.le_trans h2.size h3.size),fun k hk hF=>?_,fun k hk=>?_⟩
    ·have hne : k ≠ q:=by simpa using hF
     exact (hbk3 k (by omega) hne).trans (h1.block k hk hF)
    ·have hk' : k ∈ [q,O,wr.heap.size]:=hk
     simp at hk'
     simp
     omega
theorem beg_wf {V T : CF} {an : List (Option Nat)} {st : Int} (han : an.length = 24) : Wf V T (beg V T an st) ∧ (uP (beg V T an st)).length + 0 = T.ow.length:=by
 have hup : uP (beg V T an st) = List.range T.ow.length:=by
  unfold uP beg
  simp only [List.length_replicate]
  rw [List.filter_eq_self]
  intro k hk
  have:=List.mem_range.1 hk
  simp [List.getD_eq_getElem?_getD,this]
 have hfr : frL (beg V T an st) = List.range V.ow.length:=by
  unfold frL beg
  simp only [List.length_replicate]
  rw [List.filter_eq_self]
  intro k hk
  have:=List.mem_range.1 hk
  simp [List.getD_eq_getElem?_getD,this]
 exact ⟨⟨by simp [beg],by simp [beg],han,by rw [hfr]; simp [beg]⟩,by rw [hup]; simp⟩
structure Se (w : World) (q f t : Nat) (an : List (Option Nat)) (F T : CF) (fav fov tav tov : Value) (st : Int) : Prop where
 sq : Sq w q f t an st
 ff : IsF w f F fav fov
 ft : IsF w t T tav tov
 nf : ∀ k ∈ bsF f fav fov,k ≠ q
 nt : ∀ k ∈ bsF t tav tov,k ≠ q
set_option maxRecDepth 100000 in
set_option maxHeartbeats 4000000 in
theorem fits_any {w : World} {q f t : Nat} {an : List (Option Nat)} {st : Int} {F T : CF} {l : List Pr} {fav fov tav tov lv : Value} (h : Se w q f t an F T fav fov tav tov st) (hl : w.ownsRow 0 103 3 lv l.length (prCells l)) (hlq : ∀ k,lv.ownBlock = some k → k ≠ q) (hll : l.length ≤ 1000000) (hTl : T.ow.length ≤ 1000000) (hR : Rm T) (hA : RmA T) :
  Calls Tryz.prog 34 #[.pointer (some ⟨q,0,none⟩),lv] w fun e w'=>e = .returned (.bool (fit (vw F l) T an st).1) ∧ ∃ v ov pv,Sw w' ⟨q,f,t,v,an,tav,tov,fav,lv,ov,pv⟩ T (vw F l) (fit (vw F l) T an st).2 ∧ Stp [q] w (fpS q ov pv) w' ∧ (∀ k ∈ fpS q ov pv,k = q ∨ w.heap.size ≤ k):=by
 have HB:=hide (begin_any h.sq h.ff h.ft hl hll hTl (fun k hk=>by
  simp only [List.mem_append,Option.mem_toList] at hk
  rcases hk with hk | hk | hk
  ·exact h.nf k hk
  ·exact h.nt k hk
  ·exact hlq k hk))
 have han : an.length = 24:=by obtain ⟨_,_,_,_,_,_,_,h2⟩:=h.sq; exact h2
 have HP:=hide (fun y=>place_step (y:=y) (T:=T) (V:=vw F l) hR hA hTl hll (m:=l.length + 1) (wk_all hR hA hTl hll _))
 obtain ⟨hwf,hup⟩:=beg_wf (V:=vw F l) (T:=T) (an:=an) (st:=st) han
 have HW:=hide hwf
 have HU:=hide hup
 clear h hl hlq hwf hup
 go_enter Tryz.func34,Tryz.ntmps34
 go_wp2_with fail
 refine (uh HB).mono ?_
 rintro e w1 ⟨rfl,v,ov,pv,hS1,hT1⟩
 have HS1:=hide hS1
 have HT1:=hide hT1
 clear hS1 hT1
 go_wp2_with fail
 refine (uh HP ⟨q,f,t,v,an,tav,tov,fav,lv,ov,pv⟩ w1 (beg (vw F l) T an st) 0 (uh HS1) (uh HW) (by show l.length < l.length + 1; omega) (uh HU)).mono ?_
 rintro e w2 ⟨rfl,hS2,hT2⟩
 have HS2:=hide hS2
 have HT2:=hide hT2
 clear hS2 hT2
 go_wp2_with fail
 go_ret
 refine ⟨rfl,v,ov,pv,uh HS2,(uh HT1).trans (uh HT2),fun k hk=>?_⟩
 rcases (uh HT1).foot k hk with h1 | h1
 ·exact Or.inl (by simpa using h1)
 ·exact Or.inr h1
set_option maxRecDepth 100000 in
theorem inner_any (i : Nat) (hi : i ≤ 1000000) (w : World) : Calls Tryz.prog 67 #[.int .i64 i] w fun e w'=>e = .returned (.tuple #[.int .i64 ((24 + 2 * i : Nat) : Int),.int .i64 ((25 + 2 * i : Nat) : Int)]) ∧ w' = w:=by
 go_enter Tryz.func67,Tryz.ntmps67
 go_wp2_with fail
 refine bodyPost_ret (v:=.tuple #[.int .i64 ((24 + 2 * i : Nat) : Int),.int .i64 ((25 + 2 * i : Nat) : Int)]) ?_ rfl ⟨rfl,rfl⟩
 simp [results,Tryz.results67,go_sem]
 omega
set_option maxRecDepth 100000 in
set_option maxHeartbeats 4000000 in
theorem whole_any {w : World} {q f t : Nat} {an : List (Option Nat)} {st : Int} {F : CF} {l : List Pr} {fav fov lv : Value} (h : Sq w q f t an st) (hF : IsF w f F fav fov) (hl : w.ownsRow 0 103 3 lv l.length (prCells l)) {i : Nat} (hi : i < l.length) :
  Calls Tryz.prog 65 #[.pointer (some ⟨q,0,none⟩),lv,.int .i64 i] w fun e w'=>e = .returned (.bool (whB F.ow.length l i)) ∧ w' = w:=by
 obtain ⟨mid,vv,ov0,uv,pv0,hob,hmid,han⟩:=h
 have hq0 : w.cell? ⟨q,0,none⟩ = some (.pointer (some ⟨f,0,none⟩)):=by rw [World.ownsRow.cellAt hob 0 (by omega)]; rfl
 have hf6:=hF.c6
 obtain ⟨fao,fcap,hfov,hfm',hfn,-⟩:=pr_of_own hF.ow
 have hfm : fcap ≤ 9223372036854775807:=by unfold maxLen at hfm'; omega
 rw [hfov] at hf6
 obtain ⟨g,cap,hlv,hlm,hln⟩:=own_formP hl hi
 rw [hlv] at hl ⊢
 obtain ⟨hk,-,-⟩:=own_cells hl hi
 obtain ⟨kd,hkd⟩ : ∃ kd,kd = (l.getD i pr0).k:=⟨_,rfl⟩
 rw [← hkd] at hk
 have HE : Hid (whB F.ow.length l i = (decide (i < F.ow.length) && (kd == 4))):=hide (by unfold whB; rw [hkd])
 clear hob hfov hfm' hlv hl hkd hF
 by_cases hlt : i < F.ow.length
 ·have hd : decide ((i : Int) < (F.ow.length : Int)) = true:=by simp; omega
  have h4 : ((kd : Int) == 4) = (kd == 4):=by rw [Bool.eq_iff_iff,beq_iff_eq,beq_iff_eq]; omega
  go_enter Tryz.func65,Tryz.ntmps65
  go_wp2_with fail
  go_ret
  exact ⟨by rw [uh HE]; simp [hlt],rfl⟩
 ·have hd : decide ((i : Int) < (F.ow.length : Int)) = false:=by simp; omega
  go_enter Tryz.func65,Tryz.ntmps65
  go_wp2_with fail
  go_ret
  exact ⟨by rw [uh HE]; simp [hlt],rfl⟩
theorem prCells_set0 {l : List Pr} {i : Nat} (hi : i < l.length) (k : Nat) : (prCells l).set (i * 3) (.int .i64 (k : Int)) = prCells (l.set i ⟨k,(l.getD i pr0).l,(l.getD i pr0).r⟩):=by
 induction l generalizing i with
 | nil=>simp at hi
 | cons x l ih =>
  have hx : ∀ y : Pr,prCells (y :: l) = [Value.int .i64 y.k,.int .i64 y.l,.int .i64 y.r] ++ prCells l:=fun y=>rfl
  cases i with
  | zero=>rw [hx,List.set_cons_zero,hx]; rfl
  | succ i =>
   have h1:=ih (i:=i) (by simpa using hi)
   rw [hx,List.set_append_right _ _ (by simp; omega),List.set_cons_succ]
   show _ = [Value.int .i64 x.k,.int .i64 x.l,.int .i64 x.r] ++ prCells _
   rw [show (i + 1) * 3 - [Value.int .i64 (x.k : Int),.int .i64 (x.l : Int),.int .i64 (x.r : Int)].length = i * 3 by simp; omega,h1]
   rfl
theorem prCells_set2 {l : List Pr} {i : Nat} (hi : i < l.length) (r : Nat) : (prCells l).set (i * 3 + 2) (.int .i64 (r : Int)) = prCells (l.set i ⟨(l.getD i pr0).k,(l.getD i pr0).l,r⟩):=by
 induction l generalizing i with
 | nil=>simp at hi
 | cons x l ih =>
  have hx : ∀ y : Pr,prCells (y :: l) = [Value.int .i64 y.k,.int .i64 y.l,.int .i64 y.r] ++ prCells l:=fun y=>rfl
  cases i with
  | zero=>rw [hx,List.set_cons_zero,hx]; rfl
  | succ i =>
   have h1:=ih (i:=i) (by simpa using hi)
   rw [hx,List.set_append_right _ _ (by simp; omega),List.set_cons_succ]
   show _ = [Value.int .i64 x.k,.int .i64 x.l,.int .i64 x.r] ++ prCells _
   rw [show (i + 1) * 3 + 2 - [Value.int .i64 (x.k : Int),.int .i64 (x.l : Int),.int .i64 (x.r : Int)].length = i * 3 + 2 by simp; omega,h1]
   rfl
theorem prCells_one (l : List Pr) : ∀ u ∈ prCells l,u.oneCell' = true:=by
 intro u hu
 simp only [prCells,List.mem_flatMap] at hu
 obtain ⟨a,_,ha⟩:=hu
 simp only [prC,List.mem_cons,List.not_mem_nil,or_false] at ha
 rcases ha with rfl | rfl | rfl <;> rfl
theorem Tryz.infoPair : (Tryz.prog.info? 103).map (fun i=>(i.zero,i.size,i.bytes)) = some (some (.agg #[.int .i64 0,.int .i64 0,.int .i64 0]),3,24):=by kernel_rfl
set_option maxRecDepth 100000 in
set_option maxHeartbeats 8000000 in
theorem cut_any {w : World} {l : List Pr} {lv : Value} (hl : w.ownsRow 0 103 3 lv l.length (prCells l)) {i size : Nat} (hi : i < l.length) (hll : l.length ≤ 10000) (hsz : size = 1 ∨ size = 2 ∨ size = 3) :
  Calls Tryz.prog 37 #[lv,.int .i64 i,.int .i64 size] w fun e w'=>∃ v,e = .returned v ∧ w'.ownsRow w.heap.size 103 3 v (cutA l i size).length (prCells (cutA l i size)) ∧ Below w.heap.size w w':=by
 obtain ⟨i0,hi0,hz0,hz1,hz2⟩:=info_parts Tryz.infoPair
 have HL:=hide hl
 have HLst:=hide (Lst.of_own hl (by omega))
 obtain ⟨lg,lcap,hlv,hlm,hln⟩:=own_formP hl hi
 have HLV:=hide hlv
 have HIn:=hide (inner_any i (by omega) w)
 rw [hlv]
 clear hl hlv
 go_enter Tryz.func37,Tryz.ntmps37
 go_wp2_with fail
 refine (uh HIn).mono ?_
 rintro e w1 ⟨rfl,rfl⟩
 obtain ⟨near,hnear⟩ : ∃ near : Nat,near = 24 + 2 * i:=⟨_,rfl⟩
 obtain ⟨far,hfar⟩ : ∃ far : Nat,far = 25 + 2 * i:=⟨_,rfl⟩
 rw [← hnear,← hfar]
 have hrow0:=World.ownsRow_lit (base:=w1.heap.size) (e:=103) (size:=3) w1 #[] 0 (Nat.le_refl _) (by simp [maxLen]) rfl
 have HR0:=hide hrow0
 have HLst1:=hide ((uh HLst).below ((Below.refl w1.heap.size w1).alloc (Nat.le_refl _) (.cells #[] 103)))
 rw [uh HLV] at HLst1
 have HN:=hide hnear
 have HFa:=hide hfar
 have hn1 : near ≤ 30000:=by omega
 have hf1 : far ≤ 30000:=by omega
 clear hrow0 hnear hfar
 go_wp2_with (at_builtin; refine wpList_app_lst rfl (.tmp 16) (.tmp 17) 75 rfl w1.heap.size 103 i0 _ 3 24 Tryz.underlying75 hi0 hz0 hz1 hz2 rfl (by decide) _ 0 [] rfl (uh HR0) _ l.length (prCells l) rfl (uh HLst1) (prCells_one l) (by omega) (by decide) (by simp) ?_)
 intro v1 wA hown1 hgrow1
 have hbA : Below w1.heap.size w1 wA:=((Below.refl w1.heap.size w1).alloc (Nat.le_refl _) _).grown hgrow1 (by simp) (fun k e=>by cases e; exact Nat.le_refl _)
 obtain ⟨g,cap,hv1,hcm,hcn⟩:=own_formP (rowBase hown1 (Nat.zero_le _)) hi
 subst hv1
 obtain ⟨hc0,-,hc2⟩:=own_cells (rowBase hown1 (Nat.zero_le _)) hi
 obtain ⟨kd,hkd⟩ : ∃ kd,kd = (l.getD i pr0).k:=⟨_,rfl⟩
 obtain ⟨rr,hrr⟩ : ∃ rr,rr = (l.getD i pr0).r:=⟨_,rfl⟩
 rw [← hkd] at hc0
 rw [← hrr] at hc2
 have hz:=hown1.frozenAt (i * 3)
 have hrowB:=(hown1.stored (i * 3) (.int .i64 3)).1
 rw [show (Value.int .i64 3) = Value.int .i64 ((3 : Nat) : Int) from rfl,prCells_set0 hi] at hrowB
 have hlB : (l.set i ⟨3,(l.getD i pr0).l,(l.getD i pr0).r⟩).length = l.length:=by simp
 have hiB : i < (l.set i ⟨3,(l.getD i pr0).l,(l.getD i pr0).r⟩).length:=by rw [hlB]; exact hi
 have hrowB' : (wA.setCell ⟨g,i * 3,none⟩ (.int .i64 3)).ownsRow w1.heap.size 103 3 (.slice (some ⟨g,0,none⟩) l.length cap) (l.set i ⟨3,(l.getD i pr0).l,(l.getD i pr0).r⟩).length (prCells (l.set i ⟨3,(l.getD i pr0).l,(l.getD i pr0).r⟩)):=by rw [hlB]; exact hrowB
 have hBg : w1.heap.size ≤ g:=(hown1.lt g rfl).1
 have hbB : Below w1.heap.size w1 (wA.setCell ⟨g,i * 3,none⟩ (.int .i64 3)):=hbA.setCell hBg _
 have HB:=hide hbB
 have HRB:=hide hrowB'
 have HKD:=hide hkd
 have HRR:=hide hrr
 have HBG:=hide hBg
 have HGr:=hide hgrow1
 rcases hsz with rfl | hsz
 ·clear hown1 hbA hkd hrr hrowB hrowB' hbB hgrow1 hlB hiB
  go_wp2_with fail
  refine bodyPost_ret (v:=.slice (some ⟨g,0,none⟩) l.length cap) (by simp [results,Tryz.results37,go_sem]) rfl ⟨_,rfl,?_,uh HB⟩
  unfold cutA
  rw [if_pos rfl]
  have:=uh HRB
  simp only [List.length_set] at this ⊢
  exact this
 ·have hc2B : (wA.setCell ⟨g,i * 3,none⟩ (.int .i64 3)).cell? ⟨g,i * 3 + 2,none⟩ = some (.int .i64 rr):=by
   rw [World.cell?_setCell_other _ _ _ _ (by simp)]; exact hc2
  have hzB : (wA.setCell ⟨g,i * 3,none⟩ (.int .i64 3)).frozen? ⟨g,i * 3 + 2,none⟩ = false:=hrowB.frozenAt (i * 3 + 2)
  have hrowC:=(hrowB.stored (i * 3 + 2) (.int .i64 (near : Int))).1
  rw [prCells_set2 hiB] at hrowC
  have eC : (l.set i ⟨3,(l.getD i pr0).l,(l.getD i pr0).r⟩).set i ⟨((l.set i ⟨3,(l.getD i pr0).l,(l.getD i pr0).r⟩).getD i pr0).k,((l.set i ⟨3,(l.getD i pr0).l,(l.getD i pr0).r⟩).getD i pr0).l,near⟩ = l.set i ⟨3,(l.getD i pr0).l,near⟩:=by
   rw [List.set_set,getD_set _ _ _ _ _ hi,if_pos rfl]
  rw [eC] at hrowC
  replace hrowC : ((wA.setCell ⟨g,i * 3,none⟩ (.int .i64 3)).setCell ⟨g,i * 3 + 2,none⟩ (.int .i64 (near : Int))).ownsRow w1.heap.size 103 3 (.slice (some ⟨g,0,none⟩) l.length cap) l.length (prCells (l.set i ⟨3,(l.getD i pr0).l,near⟩)):=hrowC
  have hbC : Below w1.heap.size w1 ((wA.setCell ⟨g,i * 3,none⟩ (.int .i64 3)).setCell ⟨g,i * 3 + 2,none⟩ (.int .i64 (near : Int))):=hbB.setCell hBg _
  have HRC:=hide hrowC
  have HBC:=hide hbC
  have hs1 : ((size : Int) == 1) = false:=by rw [beq_eq_false_iff_ne]; omega
  clear hown1 hbA hkd hrr hrowB hrowB' hbB hgrow1 hlB hiB eC hrowC hbC
  rcases hsz with rfl | rfl
  ·go_wp2_with (at_builtin; refine wpList_app1 _ rfl (.tmp 38) (.tmp 42) 75 rfl w1.heap.size 103 i0 _ 3 24 Tryz.underlying75 hi0 hz0 hz1 hz2 rfl (by decide) _ l.length (prCells (l.set i ⟨3,(l.getD i pr0).l,near⟩)) rfl ((uh HRC).alloc _) ⟨_,0,none⟩ 1 [.int .i64 3,.int .i64 near,.int .i64 rr] rfl rfl ?c1 ?c2 ?c3 ?c4 ?c5 ?_)
   case c1=>exact new_cellsR _ _ (by simp) _ _
   case c2=>exact prCells_one [⟨3,near,rr⟩]
   case c3=>omega
   case c4=>omega
   case c5=>have:=(uh HBC).size; simp at this ⊢; omega
   intro g2 cap2 wD hownD hgrowD hblkD
   have hbD : Below w1.heap.size w1 wD:=((uh HBC).alloc (uh HBC).size _).grown hgrowD (by have:=(uh HBC).size; simp [World.setCell] at this ⊢; omega) (fun k e=>by cases e; exact uh HBG)
   have HD:=hide hownD
   have HBD:=hide hbD
   clear hownD hgrowD hblkD hbD
   go_wp2_with fail
   refine bodyPost_ret (v:=.slice (some ⟨g2,0,none⟩) (l.length + 1) cap2) (by simp [results,Tryz.results37,go_sem]) rfl ⟨_,rfl,?_,uh HBD⟩
   unfold cutA
   rw [if_neg (by decide),if_pos rfl,← uh HN,← uh HRR,prCells_app,pr_at hi]
   have:=uh HD
   simp only [List.length_append,List.length_set,List.length_singleton]
   exact this
  ·go_wp2_with (at_builtin; refine wpList_app1 _ rfl (.tmp 44) (.tmp 48) 75 rfl w1.heap.size 103 i0 _ 3 24 Tryz.underlying75 hi0 hz0 hz1 hz2 rfl (by decide) _ l.length (prCells (l.set i ⟨3,(l.getD i pr0).l,near⟩)) rfl ((uh HRC).alloc _) ⟨_,0,none⟩ 1 [.int .i64 4,.int .i64 near,.int .i64 far] rfl rfl ?c1 ?c2 ?c3 ?c4 ?c5 ?_)
   case c1=>exact new_cellsR _ _ (by simp) _ _
   case c2=>exact prCells_one [⟨4,near,far⟩]
   case c3=>omega
   case c4=>omega
   case c5=>have:=(uh HBC).size; simp at this ⊢; omega
   intro g2 cap2 wD hownD hgrowD hblkD
   have hbD : Below w1.heap.size w1 wD:=((uh HBC).alloc (uh HBC).size _).grown hgrowD (by have:=(uh HBC).size; simp [World.setCell] at this ⊢; omega) (fun k e=>by cases e; exact uh HBG)
   have HD:=hide hownD
   have HBD:=hide hbD
   clear hownD hgrowD hblkD hbD
   go_wp2_with (at_builtin; refine wpList_app1 _ rfl (.tmp 50) (.tmp 54) 75 rfl w1.heap.size 103 i0 _ 3 24 Tryz.underlying75 hi0 hz0 hz1 hz2 rfl (by decide) _ (l.length + 1) _ rfl ((uh HD).alloc _) ⟨_,0,none⟩ 1 [.int .i64 3,.int .i64 far,.int .i64 rr] rfl rfl ?d1 ?d2 ?d3 ?d4 ?d5 ?_)
   case d1=>exact new_cellsR _ _ (by simp) _ _
   case d2=>exact prCells_one [⟨3,far,rr⟩]
   case d3=>omega
   case d4=>omega
   case d5=>have:=(uh HBD).size; simp at this ⊢; omega
   intro g3 cap3 wE hownE hgrowE hblkE
   have hbE : Below w1.heap.size w1 wE:=((uh HBD).alloc (uh HBD).size _).grown hgrowE (by have:=(uh HBD).size; simp; omega) (fun k e=>((uh HD).lt k e).1)
   have HE:=hide hownE
   have HBE:=hide hbE
   clear hownE hgrowE hblkE hbE
   go_wp2_with fail
   refine bodyPost_ret (v:=.slice (some ⟨g3,0,none⟩) (l.length + 1 + 1) cap3) (by simp [results,Tryz.results37,go_sem]) rfl ⟨_,rfl,?_,uh HBE⟩
   unfold cutA
   rw [if_neg (by decide),if_neg (by decide),← uh HN,← uh HFa,← uh HRR,prCells_app,pr_at hi]
   have:=uh HE
   simp only [List.length_append,List.length_set,List.length_cons,List.length_nil]
   exact this
end Go.Proofs.YtciihepbeacppabGreat
