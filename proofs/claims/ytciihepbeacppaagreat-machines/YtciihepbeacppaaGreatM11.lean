import Derived.Test.YtciihepbeacppaaGreatM10
import Derived.Test.YtciihepbeacppaaGreatM00
import Derived.Test.YtciihepbeacppaaGreatWX
import Derived.Test.YtciihepbeacppaaGreatM07
import Derived.Test.YtciihepbeacppaaGreatM09
import Derived.Laws.OwnMore
import Derived.Deep.MidRow
import Derived.Deep.OwnRows
namespace Go.Proofs.YtciihepbeacppaaGreat
open Go.RowKit
def seg (ad nx : List Int) : List Nat → Int → Int → Prop
 | [],_,_=>False
 | [k],v,e=>ad.getD k 0 = v ∧ nx.getD k 0 = e
 | k :: k2 :: r,v,e=>ad.getD k 0 = v ∧ seg ad nx (k2 :: r) (nx.getD k 0) e
theorem seg_hd {ad nx : List Int} {k : Nat} {r : List Nat} {v e : Int} (h : seg ad nx (k :: r) v e) : ad.getD k 0 = v:=by
 cases r with
 | nil=>exact h.1
 | cons k2 r=>exact h.1
def tk : List Bool → List Nat → Option (List Bool)
 | fr,[]=>some fr
 | fr,k :: r=>if fr.getD k false = true then tk (fr.set k false) r else none
theorem tk_len : ∀ {p : List Nat} {fr fr' : List Bool},tk fr p = some fr' → fr'.length = fr.length:=by
 intro p
 induction p with
 | nil=>intro fr fr' h; cases h; rfl
 | cons k r ih =>
  intro fr fr' h
  simp only [tk] at h
  split at h
  ·rw [ih h]; simp
  ·cases h
theorem tk_app (p q : List Nat) (fr : List Bool) : tk fr (p ++ q) = (tk fr p).bind (fun f=>tk f q):=by
 induction p generalizing fr with
 | nil=>rfl
 | cons k r ih =>
  simp only [List.cons_append,tk]
  split
  ·exact ih _
  ·rfl
theorem tk_swap (fr : List Bool) (j k : Nat) (r : List Nat) : tk fr (j :: k :: r) = tk fr (k :: j :: r):=by
 have hg : ∀ (a b : Nat),(fr.set a false).getD b false = (if a = b then false else fr.getD b false):=by
  intro a b
  simp only [List.getD_eq_getElem?_getD,List.getElem?_set]
  by_cases h : a = b
  ·subst h
   rw [if_pos rfl,if_pos rfl]
   split <;> rfl
  ·rw [if_neg h,if_neg h]
 simp only [tk,hg]
 by_cases h : j = k
 ·subst h; rfl
 ·have h2 : ¬ k = j:=fun e=>h e.symm
  simp only [if_neg h,if_neg h2,List.set_comm _ _ h]
  by_cases a1 : fr.getD j false = true
  ·by_cases a2 : fr.getD k false = true
   ·simp only [if_pos a1,if_pos a2]
   ·simp only [if_pos a1,if_neg a2]
  ·by_cases a2 : fr.getD k false = true
   ·simp only [if_neg a1,if_pos a2]
   ·simp only [if_neg a1,if_neg a2]
theorem tk_perm {p q : List Nat} (h : p.Perm q) : ∀ fr,tk fr p = tk fr q:=by
 induction h with
 | nil=>intro fr; rfl
 | cons k _ ih=>intro fr; simp only [tk]; split; exact ih _; rfl
 | swap j k r=>intro fr; exact tk_swap fr k j r
 | trans _ _ h1 h2=>intro fr; rw [h1,h2]
theorem free_lt {fr : List Bool} {k : Nat} (h : fr.getD k false = true) : k < fr.length:=by
 rcases Nat.lt_or_ge k fr.length with h1 | h1
 ·exact h1
 ·simp [List.getD_eq_getElem?_getD,List.getElem?_eq_none h1] at h
theorem hCl_uni {ad : List Int} {fr : List Bool} (hd : ad.Nodup) (hl : fr.length = ad.length) {k : Nat} (hf : fr.getD k false = true) : hCl ad fr (ad.getD k 0) = k:=by
 have hk:=free_lt hf
 refine hCl_hit (by omega) (fun j hj=>?_) (by unfold clP; rw [hf]; simp)
 unfold clP
 have hne : (ad.getD j 0 == ad.getD k 0) = false:=by
  rw [beq_eq_false_iff_ne]
  intro e
  have hj2 : j < ad.length:=by omega
  have hk2 : k < ad.length:=by omega
  simp only [List.getD_eq_getElem?_getD,List.getElem?_eq_getElem hj2,List.getElem?_eq_getElem hk2,Option.getD_some] at e
  have:=(List.pairwise_iff_getElem.1 hd) j k hj2 hk2 hj
  exact this e
 rw [hne,Bool.and_false]
def wEnd (C : List ByteArray → List Int → List Bool → Bool) (ns : List ByteArray) (vs : List Int) (b : ByteArray) (e : Int) (fr : List Bool) : Bool:=match evA ns vs b with | none=>C (ns ++ [b]) (vs ++ [e]) fr | some x=>(x == e) && C ns vs fr
theorem wayM_succ {ad nx : List Int} {C : List ByteArray → List Int → List Bool → Bool} {a : RAt} {ns : List ByteArray} {vs : List Int} {m : Nat} {v : Int} {fr : List Bool} : wayM ad nx C a ns vs (m + 1) v fr = (if hCl ad fr v < ad.length then wEnd C ns vs a.b (nx.getD (hCl ad fr v) 0) (fr.set (hCl ad fr v) false) || (!eqW a.k toW && wayM ad nx C a ns vs m (nx.getD (hCl ad fr v) 0) (fr.set (hCl ad fr v) false)) else false):=by
 rw [wayM]; rfl
theorem way_iff {ad nx : List Int} (hd : ad.Nodup) {C : List ByteArray → List Int → List Bool → Bool} {a : RAt} {ns : List ByteArray} {vs : List Int} : ∀ (m : Nat) (v : Int) (fr : List Bool),fr.length = ad.length → fr.count true < m →
  (wayM ad nx C a ns vs m v fr = true ↔ ∃ p e fr',seg ad nx p v e ∧ tk fr p = some fr' ∧ (eqW a.k toW = true → p.length = 1) ∧ wEnd C ns vs a.b e fr' = true):=by
 intro m
 induction m with
 | zero=>intro v fr _ h; omega
 | succ m ih =>
  intro v fr hl hm
  rw [wayM_succ]
  constructor
  ·intro h
   by_cases hk : hCl ad fr v < ad.length
   ·rw [if_pos hk] at h
    obtain ⟨hf,hv⟩:=hCl_free hk
    simp only [Bool.or_eq_true,Bool.and_eq_true,Bool.not_eq_true'] at h
    rcases h with h | ⟨h1,h2⟩
    ·exact ⟨[hCl ad fr v],_,_,⟨hv,rfl⟩,by simp only [tk]; rw [if_pos hf],fun _=>rfl,h⟩
    ·have hc:=count_set (free_lt hf) hf
     obtain ⟨p,e,fr',hs,ht,_,hw⟩:=(ih _ _ (by simpa using hl) (by omega)).1 h2
     cases p with
     | nil=>exact hs.elim
     | cons k2 r=>exact ⟨hCl ad fr v :: k2 :: r,e,fr',⟨hv,hs⟩,(by rw [tk,if_pos hf]; exact ht),(fun h=>by rw [h1] at h; cases h),hw⟩
   ·rw [if_neg hk] at h; cases h
  ·rintro ⟨p,e,fr',hs,ht,ho,hw⟩
   cases p with
   | nil=>exact hs.elim
   | cons k r =>
    have hv:=seg_hd hs
    rw [tk] at ht
    by_cases hf : fr.getD k false = true
    ·rw [if_pos hf] at ht
     have hu:=hCl_uni hd hl hf
     rw [hv] at hu
     have hk:=free_lt hf
     rw [hu,if_pos (by omega)]
     cases r with
     | nil =>
      have hs' : nx.getD k 0 = e:=hs.2
      cases ht
      rw [hs',hw]; rfl
     | cons k2 r2 =>
      have hs' : seg ad nx (k2 :: r2) (nx.getD k 0) e:=hs.2
      have hna : eqW a.k toW = false:=by
       cases hx : eqW a.k toW with
       | false=>rfl
       | true=>have:=ho hx; simp at this
      have hc:=count_set hk hf
      rw [hna,(ih _ _ (by simpa using hl) (by omega)).2 ⟨k2 :: r2,e,fr',hs',ht,(fun h=>by rw [hna] at h; cases h),hw⟩]
      simp
    ·rw [if_neg hf] at ht; cases ht
def Sp (ad nx : List Int) (s : ByteArray → Int) : List RAt → List Bool → Prop
 | [],fr=>fr.any id = false
 | a :: r,fr=>∃ p fr',seg ad nx p (s a.a) (s a.b) ∧ tk fr p = some fr' ∧ (eqW a.k toW = true → p.length = 1) ∧ Sp ad nx s r fr'
theorem Sp_swap {ad nx : List Int} {s : ByteArray → Int} {a b : RAt} {r : List RAt} {fr : List Bool} (h : Sp ad nx s (a :: b :: r) fr) : Sp ad nx s (b :: a :: r) fr:=by
 obtain ⟨p,f1,h1,h2,h3,q,f2,h4,h5,h6,h7⟩:=h
 have e1 : tk fr (p ++ q) = some f2:=by rw [tk_app,h2]; exact h5
 rw [tk_perm List.perm_append_comm,tk_app] at e1
 obtain ⟨f3,e2,e3⟩:=Option.bind_eq_some_iff.1 e1
 exact ⟨q,f3,h4,e2,h6,p,f2,h1,e3,h3,h7⟩
theorem Sp_cons {ad nx : List Int} {s : ByteArray → Int} {a : RAt} {r r' : List RAt} (h : ∀ fr,Sp ad nx s r fr → Sp ad nx s r' fr) {fr : List Bool} (h2 : Sp ad nx s (a :: r) fr) : Sp ad nx s (a :: r') fr:=by
 obtain ⟨p,f1,h3,h4,h5,h6⟩:=h2
 exact ⟨p,f1,h3,h4,h5,h _ h6⟩
theorem Sp_front {ad nx : List Int} {s : ByteArray → Int} {a : RAt} {q : List RAt} : ∀ {p : List RAt} {fr : List Bool},Sp ad nx s (p ++ a :: q) fr ↔ Sp ad nx s (a :: (p ++ q)) fr:=by
 intro p
 induction p with
 | nil=>intro fr; exact Iff.rfl
 | cons x p ih =>
  intro fr
  constructor
  ·intro h
   exact Sp_swap (Sp_cons (fun f hf=>ih.1 hf) h)
  ·intro h
   exact Sp_cons (fun f hf=>ih.2 hf) (Sp_swap h)
def Sem (ad nx : List Int) (pu pl : List RAt) (ns : List ByteArray) (vs : List Int) (fr : List Bool) : Prop:=∃ s,Agr s ns vs ∧ Pur s pu ∧ Sp ad nx s pl fr
theorem wEnd_iff {ad nx : List Int} {pu r : List RAt} {C : List ByteArray → List Int → List Bool → Bool} {ns : List ByteArray} {vs : List Int} (hl : ns.length = vs.length) {fr : List Bool} (hf : fr.length = ad.length)
  (ih : ∀ (ns : List ByteArray) (vs : List Int) (fr : List Bool),ns.length = vs.length → fr.length = ad.length → (C ns vs fr = true ↔ Sem ad nx pu r ns vs fr)) {b : ByteArray} {e : Int} :
  wEnd C ns vs b e fr = true ↔ ∃ s,Agr s ns vs ∧ s b = e ∧ Pur s pu ∧ Sp ad nx s r fr:=by
 unfold wEnd
 cases hb : evA ns vs b with
 | none =>
  dsimp only
  rw [ih _ _ _ (by simp [hl]) hf]
  constructor
  ·rintro ⟨s,h1,h2,h3⟩
   refine ⟨s,agr_of_app hl h1,?_,h2,h3⟩
   apply h1
   rw [evA_app hl,hb]
   simp [eqW]
  ·rintro ⟨s,h1,h2,h3,h4⟩
   exact ⟨s,agr_app hl h1 h2,h3,h4⟩
 | some x =>
  dsimp only
  rw [Bool.and_eq_true,ih _ _ _ hl hf,beq_iff_eq]
  constructor
  ·rintro ⟨h0,s,h1,h2,h3⟩
   exact ⟨s,h1,by rw [← h0]; exact h1 b x hb,h2,h3⟩
  ·rintro ⟨s,h1,h2,h3,h4⟩
   exact ⟨by rw [← h2]; exact (h1 b x hb).symm,s,h1,h3,h4⟩
theorem cel_iff {ad nx : List Int} (hd : ad.Nodup) {pu : List RAt} (hn : NmOK pu) : ∀ (n : Nat) (pl : List RAt),pl.length = n → ∀ (ns : List ByteArray) (vs : List Int) (fr : List Bool),ns.length = vs.length → fr.length = ad.length →
  (celM ad nx pu n pl ns vs fr = true ↔ Sem ad nx pu pl ns vs fr):=by
 intro n
 induction n with
 | zero =>
  intro pl hp ns vs fr hl hf
  obtain rfl : pl = []:=List.eq_nil_of_length_eq_zero hp
  rw [celM,Bool.and_eq_true,oth_iff hn _ _ _ hl (unv_two ns vs pu)]
  constructor
  ·rintro ⟨h1,s,h2,h3⟩
   exact ⟨s,h2,h3,by simpa [Sp] using h1⟩
  ·rintro ⟨s,h2,h3,h1⟩
   exact ⟨by simpa [Sp] using h1,s,h2,h3⟩
 | succ n ih =>
  intro pl hp ns vs fr hl hf
  obtain ⟨i,hi⟩ : ∃ i,i = pkF ns vs pl 0:=⟨_,rfl⟩
  have hil : i < pl.length:=by rw [hi]; exact pkF_lt (by omega) 0
  have hgd : pl.getD i ra0 = pl[i]:=by simp [hil]
  obtain ⟨r,hr⟩ : ∃ r,r = pl.take i ++ pl.drop (i + 1):=⟨_,rfl⟩
  have hrl : r.length = n:=by rw [hr]; simp; omega
  have hpl : pl = pl.take i ++ pl[i] :: pl.drop (i + 1):=by rw [← List.drop_eq_getElem_cons hil,List.take_append_drop]
  have hfront : ∀ s fr,Sp ad nx s pl fr ↔ Sp ad nx s (pl[i] :: r) fr:=by
   intro s fr
   rw [hr]
   have:=Sp_front (ad:=ad) (nx:=nx) (s:=s) (a:=pl[i]) (q:=pl.drop (i + 1)) (p:=pl.take i) (fr:=fr)
   rwa [← hpl] at this
  have ihr:=ih r hrl
  rw [celM,← hi,hgd,← hr]
  cases hev : evA ns vs pl[i].a with
  | some v =>
   dsimp only
   rw [way_iff hd _ _ _ hf (Nat.lt_succ_self _)]
   constructor
   ·rintro ⟨p,e,fr',h1,h2,h3,h4⟩
    obtain ⟨s,g1,g2,g3,g4⟩:=(wEnd_iff hl (by rw [tk_len h2]; exact hf) ihr).1 h4
    exact ⟨s,g1,g3,(hfront s fr).2 ⟨p,fr',by rw [g1 _ _ hev,g2]; exact h1,h2,h3,g4⟩⟩
   ·rintro ⟨s,g1,g3,g4⟩
    obtain ⟨p,fr',h1,h2,h3,g5⟩:=(hfront s fr).1 g4
    rw [g1 _ _ hev] at h1
    exact ⟨p,_,fr',h1,h2,h3,(wEnd_iff hl (by rw [tk_len h2]; exact hf) ihr).2 ⟨s,g1,rfl,g3,g5⟩⟩
  | none =>
   dsimp only
   rw [List.any_eq_true]
   have hl2 : ∀ x : Int,(ns ++ [pl[i].a]).length = (vs ++ [x]).length:=fun x=>by simp [hl]
   constructor
   ·rintro ⟨k,hk,h0⟩
    rw [Bool.and_eq_true,way_iff hd _ _ _ hf (Nat.lt_succ_self _)] at h0
    obtain ⟨hfk,p,e,fr',h1,h2,h3,h4⟩:=h0
    obtain ⟨s,g1,g2,g3,g4⟩:=(wEnd_iff (hl2 _) (by rw [tk_len h2]; exact hf) ihr).1 h4
    have ga : s pl[i].a = ad.getD k 0:=by
     apply g1
     rw [evA_app hl,hev]
     simp [eqW]
    exact ⟨s,agr_of_app hl g1,g3,(hfront s fr).2 ⟨p,fr',by rw [ga,g2]; exact h1,h2,h3,g4⟩⟩
   ·rintro ⟨s,g1,g3,g4⟩
    obtain ⟨p,fr',h1,h2,h3,g5⟩:=(hfront s fr).1 g4
    cases p with
    | nil=>exact h1.elim
    | cons k p =>
     have hk : ad.getD k 0 = s pl[i].a:=seg_hd h1
     have hfk : fr.getD k false = true:=by
      rw [tk] at h2
      by_cases hx : fr.getD k false = true
      ·exact hx
      ·rw [if_neg hx] at h2; cases h2
     refine ⟨k,by have:=free_lt hfk; simp; omega,?_⟩
     rw [Bool.and_eq_true,way_iff hd _ _ _ hf (Nat.lt_succ_self _)]
     refine ⟨hfk,k :: p,_,fr',by rw [hk]; exact h1,h2,h3,(wEnd_iff (hl2 _) (by rw [tk_len h2]; exact hf) ihr).2 ⟨s,agr_app hl g1 hk.symm,rfl,g3,g5⟩⟩
theorem seg_ne {ad nx : List Int} {p : List Nat} {v e : Int} (h : seg ad nx p v e) : p ≠ []:=by
 rintro rfl; exact h
def SpC (ad nx : List Int) (val : Nat → Int) : List Pr → List Bool → Prop
 | [],fr=>fr.any id = false
 | p :: r,fr=>∃ q fr',seg ad nx q (val p.l) (val p.r) ∧ tk fr q = some fr' ∧ (p.k ≠ 4 → q.length = 1) ∧ SpC ad nx val r fr'
structure Mod (ad nx : List Int) (val : Nat → Int) (V : CF) : Prop where
 nl : val (V.cl.getD 0 0) = 0
 ap : ∀ p ∈ V.ap,val p.l ≠ val p.r
 sp : SpC ad nx val V.ow (List.replicate ad.length true)
theorem tk_free {fr fr' : List Bool} {p : List Nat} (h : tk fr p = some fr') : ∀ k ∈ p,fr.getD k false = true:=by
 induction p generalizing fr with
 | nil=>intro k hk; cases hk
 | cons j r ih =>
  simp only [tk] at h
  by_cases hf : fr.getD j false = true
  ·rw [if_pos hf] at h
   intro k hk
   rcases List.mem_cons.1 hk with rfl | hk
   ·exact hf
   ·have:=ih h k hk
    by_cases e : j = k
    ·rw [← e]; exact hf
    ·simpa [List.getD_eq_getElem?_getD,List.getElem?_set,e] using this
  ·rw [if_neg hf] at h; cases h
def tm (a : Atm) : Pr:=⟨a.k,tNo a.lk a.li,tNo a.rk a.ri⟩
def TmOK (al : List Atm) : Prop:=∀ a ∈ al,(tm a).l < 13 ∧ (tm a).r < 13
structure AtH (ad nx : List Int) (s : Nat → Int) (al : List Atm) : Prop where
 nl : s 0 = 0
 eq : ∀ a ∈ al,a.k = 1 → s (tm a).l = s (tm a).r
 ne : ∀ a ∈ al,a.k = 2 → s (tm a).l ≠ s (tm a).r
 sp : SpC ad nx s ((al.filter (fun a=>a.k == 3 || a.k == 4)).map tm) (List.replicate ad.length true)
theorem SpC_map {ad nx : List Int} {v v' : Nat → Int} {f g : Atm → Pr} : ∀ {L : List Atm} {fr : List Bool},(∀ a ∈ L,(f a).k = (g a).k ∧ v (f a).l = v' (g a).l ∧ v (f a).r = v' (g a).r) → SpC ad nx v (L.map f) fr → SpC ad nx v' (L.map g) fr:=by
 intro L
 induction L with
 | nil=>intro fr _ h; exact h
 | cons a L ih =>
  rintro fr h ⟨q,fr',h1,h2,h3,h4⟩
  obtain ⟨e1,e2,e3⟩:=h a (by simp)
  exact ⟨q,fr',by rw [← e2,← e3]; exact h1,h2,fun hk=>h3 (by rw [e1]; exact hk),ih (fun b hb=>h b (by simp [hb])) h4⟩
theorem getD_map {f : Nat → Nat} {c : List Nat} {i : Nat} (h : i < c.length) : (c.map f).getD i 0 = f (c.getD i 0):=by simp [h]
theorem mrg_inv : ∀ (al : List Atm) (c : List Nat),TmOK al → c.length = 13 → (∀ i,i < 13 → c.getD i 0 < 13) → (al.foldl mrg1 c).length = 13 ∧ ∀ i,i < 13 → (al.foldl mrg1 c).getD i 0 < 13:=by
 intro al
 induction al with
 | nil=>intro c _ h1 h2; exact ⟨h1,h2⟩
 | cons a al ih =>
  intro c ht h1 h2
  rw [List.foldl_cons]
  have hta:=ht a (by simp)
  have ht' : TmOK al:=fun b hb=>ht b (by simp [hb])
  unfold mrg1
  split
  ·refine ih _ ht' (by simpa using h1) (fun i hi=>?_)
   rw [getD_map (by omega)]
   split
   ·exact h2 _ hta.1
   ·exact h2 i hi
  ·exact ih _ ht' h1 h2
theorem mrg_val {s : Nat → Int} : ∀ (al : List Atm) (c : List Nat),TmOK al → c.length = 13 → (∀ i,i < 13 → s (c.getD i 0) = s i) → (∀ a ∈ al,a.k = 1 → s (tm a).l = s (tm a).r) → ∀ i,i < 13 → s ((al.foldl mrg1 c).getD i 0) = s i:=by
 intro al
 induction al with
 | nil=>intro c _ _ h _; exact h
 | cons a al ih =>
  intro c ht h1 h2 h3
  rw [List.foldl_cons]
  have hta:=ht a (by simp)
  have ht' : TmOK al:=fun b hb=>ht b (by simp [hb])
  have h3' : ∀ b ∈ al,b.k = 1 → s (tm b).l = s (tm b).r:=fun b hb=>h3 b (by simp [hb])
  unfold mrg1
  split
  ·rename_i hk
   refine ih _ ht' (by simpa using h1) (fun i hi=>?_) h3'
   rw [getD_map (by omega)]
   split
   ·rename_i e
    have g1:=h2 _ hta.1
    have g2:=h2 _ hta.2
    have g3:=h3 a (by simp) hk
    have g4:=h2 i hi
    rw [e] at g4
    exact (g1.trans g3).trans (g2.symm.trans g4)
   ·exact h2 i hi
  ·exact ih _ ht' h1 h2 h3'
theorem mrg_keep {i j : Nat} (hi : i < 13) (hj : j < 13) : ∀ (al : List Atm) (c : List Nat),c.length = 13 → c.getD i 0 = c.getD j 0 → (al.foldl mrg1 c).getD i 0 = (al.foldl mrg1 c).getD j 0:=by
 intro al
 induction al with
 | nil=>intro c _ h; exact h
 | cons a al ih =>
  intro c h1 h2
  rw [List.foldl_cons]
  unfold mrg1
  split
  ·exact ih _ (by simpa using h1) (by rw [getD_map (by omega),getD_map (by omega),h2])
  ·exact ih _ h1 h2
theorem mrg1_len (c : List Nat) (a : Atm) : (mrg1 c a).length = c.length:=by unfold mrg1; split <;> simp
theorem mrg_eq : ∀ (al : List Atm) (c : List Nat),TmOK al → c.length = 13 → ∀ a ∈ al,a.k = 1 → (al.foldl mrg1 c).getD (tm a).l 0 = (al.foldl mrg1 c).getD (tm a).r 0:=by
 intro al
 induction al with
 | nil=>intro c _ _ a ha; cases ha
 | cons b al ih =>
  intro c ht h1 a ha hk
  rw [List.foldl_cons]
  have ht' : TmOK al:=fun b hb=>ht b (by simp [hb])
  rcases List.mem_cons.1 ha with rfl | ha
  ·have hta:=ht a (by simp)
   refine mrg_keep hta.1 hta.2 al _ (by rw [mrg1_len]; exact h1) ?_
   unfold mrg1
   rw [if_pos hk,getD_map (by omega),getD_map (by omega)]
   rw [show tNo a.rk a.ri = (tm a).r from rfl,show tNo a.lk a.li = (tm a).l from rfl,if_pos rfl]
   split <;> rfl
  ·exact ih _ ht' (by rw [mrg1_len]; exact h1) a ha hk
theorem range13 (i : Nat) (h : i < 13) : (List.range 13).getD i 0 = i:=by simp [h]
theorem mrg_len {al : List Atm} (ht : TmOK al) : (mrg al).length = 13:=(mrg_inv al _ ht (by simp) (fun i hi=>by rw [range13 i hi]; exact hi)).1
theorem mrg_lt {al : List Atm} (ht : TmOK al) {i : Nat} (hi : i < 13) : (mrg al).getD i 0 < 13:=(mrg_inv al _ ht (by simp) (fun i hi=>by rw [range13 i hi]; exact hi)).2 i hi
theorem mrg_of {s : Nat → Int} {al : List Atm} (ht : TmOK al) (h : ∀ a ∈ al,a.k = 1 → s (tm a).l = s (tm a).r) {i : Nat} (hi : i < 13) : s ((mrg al).getD i 0) = s i:=mrg_val al _ ht (by simp) (fun i hi=>by rw [range13 i hi]) h i hi
theorem cl_at {al : List Atm} {i : Nat} (hi : i < 5) : (cfOf al).cl.getD i 0 = (mrg al).getD i 0:=by
 simp only [cfOf,List.getD_eq_getElem?_getD]
 rw [List.getElem?_take_of_lt hi]
theorem AtH.mod {ad nx : List Int} {s : Nat → Int} {al : List Atm} (ht : TmOK al) (h : AtH ad nx s al) : Mod ad nx s (cfOf al):=by
 have hm:=fun {i : Nat} (hi : i < 13)=>mrg_of ht h.eq hi
 refine ⟨by rw [cl_at (by omega),hm (by omega)]; exact h.nl,fun p hp=>?_,?_⟩
 ·obtain ⟨a,ha,rfl⟩:=List.mem_map.1 hp
  obtain ⟨ha,hk⟩:=List.mem_filter.1 ha
  have hta:=ht a ha
  have:=h.ne a ha (by simpa using hk)
  show s ((mrg al).getD (tm a).l 0) ≠ s ((mrg al).getD (tm a).r 0)
  rw [hm hta.1,hm hta.2]; exact this
 ·refine SpC_map (fun a ha=>?_) h.sp
  have hta:=ht a (List.mem_filter.1 ha).1
  exact ⟨rfl,(hm hta.1).symm,(hm hta.2).symm⟩
theorem ow_lt {al : List Atm} (ht : TmOK al) : ∀ p ∈ (cfOf al).ow,p.l < 13 ∧ p.r < 13:=by
 intro p hp
 obtain ⟨a,ha,rfl⟩:=List.mem_map.1 hp
 have hta:=ht a (List.mem_filter.1 ha).1
 exact ⟨mrg_lt ht hta.1,mrg_lt ht hta.2⟩
def enH (F : List (Option Int) → List Bool → Bool) (r : Nat) (val : List (Option Int)) (fr : List Bool) (n : Int) : Bool :=
 match val.getD r none with
 | some b=>if b = n then F (val.set r (some n)) fr else false
 | none=>F (val.set r (some n)) fr
def wkH (E : List Bool → Int → Bool) (fd : Int → Option Nat) (nx : List Int) (lst : Bool) : Nat → List Bool → Int → Bool
 | 0,_,_=>false
 | m + 1,fr,a=>match fd a with
  | none=>false
  | some i=>if fr.getD i false = true then E (fr.set i false) (nx.getD i 0) || (lst && wkH E fd nx lst m (fr.set i false) (nx.getD i 0)) else false
def FdOK (ad : List Int) (fd : Int → Option Nat) : Prop:=∀ a i,fd a = some i ↔ i < ad.length ∧ ad.getD i 0 = a
theorem wkH_sound {E : List Bool → Int → Bool} {fd : Int → Option Nat} {ad nx : List Int} {lst : Bool} (hfd : FdOK ad fd) : ∀ (m : Nat) (fr : List Bool) (a : Int),wkH E fd nx lst m fr a = true →
  ∃ q fr' e,seg ad nx q a e ∧ tk fr q = some fr' ∧ (lst = false → q.length = 1) ∧ E fr' e = true:=by
 intro m
 induction m with
 | zero=>intro fr a h; cases h
 | succ m ih =>
  intro fr a h
  unfold wkH at h
  cases hf : fd a with
  | none=>rw [hf] at h; cases h
  | some i =>
   rw [hf] at h
   simp only at h
   have hi:=(hfd a i).1 hf
   by_cases hfr : fr.getD i false = true
   ·rw [if_pos hfr] at h
    rw [Bool.or_eq_true] at h
    rcases h with h1 | h1
    ·exact ⟨[i],fr.set i false,nx.getD i 0,⟨hi.2,rfl⟩,by unfold tk; rw [if_pos hfr]; rfl,fun _=>rfl,h1⟩
    ·rw [Bool.and_eq_true] at h1
     obtain ⟨hl,h2⟩:=h1
     obtain ⟨q,fr',e,g1,g2,g3,g4⟩:=ih _ _ h2
     refine ⟨i :: q,fr',e,?_,by unfold tk; rw [if_pos hfr]; exact g2,fun h0=>(by rw [h0] at hl; cases hl),g4⟩
     cases q with
     | nil=>exact absurd rfl (seg_ne g1)
     | cons k r=>exact ⟨hi.2,g1⟩
   ·rw [if_neg hfr] at h; cases h
theorem wkH_complete {E : List Bool → Int → Bool} {fd : Int → Option Nat} {ad nx : List Int} {lst : Bool} (hfd : FdOK ad fd) : ∀ (q : List Nat) (m : Nat) (fr fr' : List Bool) (a e : Int),fr.length = ad.length → seg ad nx q a e → tk fr q = some fr' → (lst = false → q.length = 1) → E fr' e = true → q.length ≤ m →
  wkH E fd nx lst m fr a = true:=by
 intro q
 induction q with
 | nil=>intro m fr fr' a e _ h; exact absurd rfl (seg_ne h)
 | cons i q ih =>
  intro m fr fr' a e hl hs ht h1 hE hm
  cases m with
  | zero=>simp at hm
  | succ m =>
   have hfr : fr.getD i false = true:=by
    unfold tk at ht
    by_cases h : fr.getD i false = true
    ·exact h
    ·rw [if_neg h] at ht; cases ht
   have hil : i < ad.length:=by
    rw [← hl]
    rcases Nat.lt_or_ge i fr.length with h | h
    ·exact h
    ·simp [List.getD,List.getElem?_eq_none h] at hfr
   have hfd':=(hfd a i).2 ⟨hil,seg_hd hs⟩
   unfold tk at ht
   rw [if_pos hfr] at ht
   unfold wkH
   rw [hfd']
   simp only
   rw [if_pos hfr]
   cases q with
   | nil =>
    cases ht
    have : nx.getD i 0 = e:=hs.2
    rw [this,hE]
    rfl
   | cons k r =>
    have hlst : lst = true:=by
     cases lst with
     | true=>rfl
     | false=>have:=h1 rfl; simp at this
    have:=ih m (fr.set i false) fr' (nx.getD i 0) e (by simpa using hl) hs.2 ht (fun h=>by rw [hlst] at h; cases h) hE (by simpa using hm)
    rw [this,hlst]
    simp
def dfH (ap : List Pr) (val : List (Option Int)) : Bool:=ap.all (fun p=>p.l != p.r && (match val.getD p.l none with | none=>true | some a=>val.getD p.r none != some a))
def flH (ap : List Pr) (fd : Int → Option Nat) (ad nx : List Int) : List Pr → List (Option Int) → List Bool → Bool
 | [],val,fr=>!fr.any id && dfH ap val
 | p :: r,val,fr=>match val.getD p.l none with
  | some a=>wkH (enH (flH ap fd ad nx r) p.r val) fd nx (p.k == 4) (ad.length + 1) fr a
  | none=>ad.any (fun a=>wkH (enH (flH ap fd ad nx r) p.r (val.set p.l (some a))) fd nx (p.k == 4) (ad.length + 1) fr a)
def Ag (val : List (Option Int)) (v : Nat → Int) : Prop:=∀ c b,val.getD c none = some b → v c = b
theorem setO_getD {val : List (Option Int)} {c j : Nat} {x : Option Int} : (val.set c x).getD j none = if c = j ∧ c < val.length then x else val.getD j none:=by
 simp only [List.getD,List.getElem?_set]
 by_cases h : c = j
 ·subst h
  by_cases h2 : c < val.length
  ·simp [h2]
  ·simp [h2]
 ·simp [h]
theorem Ag.up {val : List (Option Int)} {v : Nat → Int} (h : Ag val v) (c : Nat) : Ag (val.set c (some (v c))) v:=by
 intro j b hj
 rw [setO_getD] at hj
 split at hj
 ·rename_i h1
  cases hj
  rw [h1.1]
 ·exact h j b hj
theorem Ag.down {val : List (Option Int)} {v : Nat → Int} {c : Nat} {e : Int} (hc : c < val.length) (h : Ag (val.set c (some e)) v) (hk : ∀ b,val.getD c none = some b → b = e) : Ag val v ∧ v c = e:=by
 have h1 : v c = e:=h c e (by rw [setO_getD,if_pos ⟨rfl,hc⟩])
 refine ⟨fun j b hj=>?_,h1⟩
 by_cases hj' : c = j
 ·subst hj'
  rw [h1,hk b hj]
 ·exact h j b (by rw [setO_getD,if_neg (fun x=>hj' x.1)]; exact hj)
theorem enH_true {F : List (Option Int) → List Bool → Bool} {r : Nat} {val : List (Option Int)} {fr : List Bool} {n : Int} : enH F r val fr n = true ↔ F (val.set r (some n)) fr = true ∧ ∀ b,val.getD r none = some b → b = n:=by
 unfold enH
 cases hv : val.getD r none with
 | none=>simp
 | some b =>
  simp only
  by_cases hb : b = n
  ·rw [if_pos hb]; simp [hb]
  ·rw [if_neg hb]; simp [hb]
theorem tk_count : ∀ {q : List Nat} {fr fr' : List Bool},tk fr q = some fr' → q.length + fr'.count true = fr.count true:=by
  intro q
  induction q with
  | nil=>intro fr fr' h; cases h; simp
  | cons k q ih =>
   intro fr fr' h
   unfold tk at h
   by_cases hk : fr.getD k false = true
   ·rw [if_pos hk] at h
    have h1:=ih h
    have hl : k < fr.length:=by
     rcases Nat.lt_or_ge k fr.length with h | h
     ·exact h
     ·simp [List.getD,List.getElem?_eq_none h] at hk
    have hk2 : fr[k] = true:=by simpa [List.getD,hl] using hk
    have h2:=List.count_set (a:=false) (b:=true) (l:=fr) (i:=k) hl
    have h3 : 0 < fr.count true:=List.count_pos_iff.2 (by rw [← hk2]; exact List.getElem_mem hl)
    simp only [hk2,beq_self_eq_true,if_true] at h2
    simp at h2
    rw [List.length_cons]
    omega
   ·rw [if_neg hk] at h; cases h
theorem tk_cnt {q : List Nat} {fr fr' : List Bool} (hq : tk fr q = some fr') : q.length ≤ fr.length:=by
 have h1:=tk_count hq
 have h2:=List.count_le_length (a:=true) (l:=fr)
 omega
theorem flH_complete {ap : List Pr} {fd : Int → Option Nat} {ad nx : List Int} (hfd : FdOK ad fd) {v : Nat → Int} (hap : ∀ p ∈ ap,v p.l ≠ v p.r) : ∀ (ow : List Pr) (val : List (Option Int)) (fr : List Bool),fr.length = ad.length → Ag val v → SpC ad nx v ow fr → flH ap fd ad nx ow val fr = true:=by
 intro ow
 induction ow with
 | nil =>
  intro val fr _ hA hS
  have hS' : fr.any id = false:=hS
  unfold flH dfH
  rw [hS']
  simp only [Bool.not_false,Bool.true_and,List.all_eq_true]
  intro p hp
  have h1:=hap p hp
  rw [Bool.and_eq_true]
  refine ⟨by simpa using fun e : p.l = p.r=>h1 (by rw [e]),?_⟩
  cases hl : val.getD p.l none with
  | none=>rfl
  | some a =>
   simp only [bne_iff_ne,ne_eq]
   intro hr
   exact h1 ((hA _ _ hl).trans (hA _ _ hr).symm)
 | cons p r ih =>
  intro val fr hl hA hS
  obtain ⟨q,fr',h1,h2,h3,h4⟩:=hS
  have hlst : (p.k == 4) = false → q.length = 1:=fun h=>h3 (by simpa using h)
  have hq:=tk_cnt h2
  have hE : ∀ val',Ag val' v → enH (flH ap fd ad nx r) p.r val' fr' (v p.r) = true:=fun val' hA'=>enH_true.2 ⟨ih _ _ (by rw [tk_len h2]; exact hl) (hA'.up _) h4,fun b hb=>(hA' _ _ hb).symm⟩
  unfold flH
  cases hv : val.getD p.l none with
  | some a =>
   have ha:=hA _ _ hv
   simp only
   rw [ha] at h1
   exact wkH_complete hfd q _ fr fr' a (v p.r) hl h1 h2 hlst (hE val hA) (by omega)
  | none =>
   simp only
   rw [List.any_eq_true]
   refine ⟨v p.l,?_,wkH_complete hfd q _ fr fr' (v p.l) (v p.r) hl h1 h2 hlst (hE _ (hA.up _)) (by omega)⟩
   cases q with
   | nil=>exact absurd rfl (seg_ne h1)
   | cons i q =>
    have hi:=tk_free h2 i (by simp)
    have hil : i < ad.length:=by
     rw [← hl]
     rcases Nat.lt_or_ge i fr.length with h | h
     ·exact h
     ·simp [List.getD,List.getElem?_eq_none h] at hi
    have:=seg_hd h1
    rw [← this]
    simp [List.getD,hil]
theorem top_of (val : List (Option Int)) : ∃ M : Int,∀ c b,val.getD c none = some b → b ≤ M:=by
 induction val with
 | nil=>exact ⟨0,fun c b h=>by simp at h⟩
 | cons x val ih =>
  obtain ⟨M,hM⟩:=ih
  refine ⟨max M (x.getD 0),fun c b h=>?_⟩
  cases c with
  | zero =>
   have h' : x = some b:=by simpa using h
   subst h'
   simp only [Option.getD_some]
   omega
  | succ c =>
   have:=hM c b (by simpa using h)
   omega
theorem flH_sound {ap : List Pr} {fd : Int → Option Nat} {ad nx : List Int} (hfd : FdOK ad fd) : ∀ (ow : List Pr) (val : List (Option Int)) (fr : List Bool),(∀ p ∈ ow,p.l < val.length ∧ p.r < val.length) → flH ap fd ad nx ow val fr = true →
  ∃ v,Ag val v ∧ SpC ad nx v ow fr ∧ ∀ p ∈ ap,v p.l ≠ v p.r:=by
 intro ow
 induction ow with
 | nil =>
  intro val fr _ h
  unfold flH at h
  rw [Bool.and_eq_true] at h
  obtain ⟨h1,h2⟩:=h
  obtain ⟨M,hM⟩:=top_of val
  refine ⟨fun c=>match val.getD c none with | some b=>b | none=>M + 1 + c,fun c b hb=>by simp only [hb],(by show fr.any id = false; exact (Bool.not_eq_true _).mp (fun e=>by rw [e] at h1; cases h1)),fun p hp=>?_⟩
  unfold dfH at h2
  have h3:=List.all_eq_true.1 h2 p hp
  rw [Bool.and_eq_true] at h3
  have hne : p.l ≠ p.r:=by simpa using h3.1
  have h4:=h3.2
  cases hl : val.getD p.l none with
  | none =>
   cases hr : val.getD p.r none with
   | none=>simp only [hl,hr]; omega
   | some b=>have:=hM _ _ hr; simp only [hl,hr]; omega
  | some a =>
   rw [hl] at h4
   cases hr : val.getD p.r none with
   | none=>have:=hM _ _ hl; simp only [hl,hr]; omega
   | some b =>
    rw [hr] at h4
    simp only [hl,hr]
    intro e
    rw [e] at h4
    simp at h4
 | cons p r ih =>
  intro val fr hb h
  have hp:=hb p (by simp)
  have key : ∀ (val' : List (Option Int)) (a : Int),val'.length = val.length → val'.getD p.l none = some a → wkH (enH (flH ap fd ad nx r) p.r val') fd nx (p.k == 4) (ad.length + 1) fr a = true → ∃ v,Ag val' v ∧ SpC ad nx v (p :: r) fr ∧ ∀ p ∈ ap,v p.l ≠ v p.r:=by
   intro val' a hl ha hw
   obtain ⟨q,fr',e,g1,g2,g3,g4⟩:=wkH_sound hfd _ _ _ hw
   obtain ⟨k1,k2⟩:=enH_true.1 g4
   obtain ⟨v,w1,w2,w3⟩:=ih (val'.set p.r (some e)) fr' (fun x hx=>by rw [List.length_set,hl]; exact hb x (by simp [hx])) k1
   obtain ⟨u1,u2⟩:=Ag.down (by rw [hl]; exact hp.2) w1 k2
   exact ⟨v,u1,⟨q,fr',by rw [u1 _ _ ha,u2]; exact g1,g2,fun hk=>g3 (by simpa using hk),w2⟩,w3⟩
  unfold flH at h
  cases hv : val.getD p.l none with
  | some a =>
   rw [hv] at h
   exact key val a rfl hv h
  | none =>
   rw [hv] at h
   obtain ⟨a,-,ha⟩:=List.any_eq_true.1 h
   obtain ⟨v,w1,w2,w3⟩:=key (val.set p.l (some a)) a (by simp) (by rw [setO_getD,if_pos ⟨rfl,hp.1⟩]) ha
   exact ⟨v,(Ag.down hp.1 w1 (fun b hb2=>by rw [hv] at hb2; cases hb2)).1,w2,w3⟩
def stH : List (Nat × Int) → List (Option Int) → Option (List (Option Int))
 | [],val=>some val
 | (c,x) :: r,val=>match val.getD c none with
  | some b=>if b = x then stH r (val.set c (some x)) else none
  | none=>stH r (val.set c (some x))
theorem stH_len : ∀ {L : List (Nat × Int)} {val val' : List (Option Int)},stH L val = some val' → val'.length = val.length:=by
 intro L
 induction L with
 | nil=>intro val val' h; cases h; rfl
 | cons p L ih =>
  obtain ⟨c,x⟩:=p
  intro val val' h
  unfold stH at h
  split at h
  ·split at h
   ·have:=ih h; simpa using this
   ·cases h
  ·have:=ih h; simpa using this
theorem Ag.set_iff {val : List (Option Int)} {v : Nat → Int} {c : Nat} {x : Int} (hc : c < val.length) (hk : ∀ b,val.getD c none = some b → b = x) : Ag (val.set c (some x)) v ↔ Ag val v ∧ v c = x:=by
 constructor
 ·intro h; exact Ag.down hc h hk
 ·rintro ⟨h,rfl⟩; exact h.up c
theorem stH_some {v : Nat → Int} : ∀ {L : List (Nat × Int)} {val val' : List (Option Int)},(∀ p ∈ L,p.1 < val.length) → stH L val = some val' → (Ag val' v ↔ Ag val v ∧ ∀ p ∈ L,v p.1 = p.2):=by
 intro L
 induction L with
 | nil=>intro val val' _ h; cases h; simp
 | cons p L ih =>
  obtain ⟨c,x⟩:=p
  intro val val' hb h
  have hc : c < val.length:=hb (c,x) (by simp)
  have hb' : ∀ p ∈ L,p.1 < (val.set c (some x)).length:=fun p hp=>by rw [List.length_set]; exact hb p (by simp [hp])
  unfold stH at h
  have fin : ∀ (_ : ∀ b,val.getD c none = some b → b = x),stH L (val.set c (some x)) = some val' → (Ag val' v ↔ Ag val v ∧ ∀ p ∈ (c,x) :: L,v p.1 = p.2):=by
   intro hk h2
   rw [ih hb' h2,Ag.set_iff hc hk,List.forall_mem_cons,and_assoc]
  cases hv : val.getD c none with
  | none=>rw [hv] at h; exact fin (fun b hb2=>by rw [hv] at hb2; cases hb2) h
  | some b =>
   rw [hv] at h
   simp only at h
   split at h
   ·rename_i e
    exact fin (fun b' hb2=>by rw [hv] at hb2; cases hb2; exact e) h
   ·cases h
theorem stH_none {v : Nat → Int} : ∀ {L : List (Nat × Int)} {val : List (Option Int)},(∀ p ∈ L,p.1 < val.length) → stH L val = none → Ag val v → ¬ ∀ p ∈ L,v p.1 = p.2:=by
 intro L
 induction L with
 | nil=>intro val _ h; cases h
 | cons p L ih =>
  obtain ⟨c,x⟩:=p
  intro val hb h hA hall
  have hc : c < val.length:=hb (c,x) (by simp)
  have hb' : ∀ p ∈ L,p.1 < (val.set c (some x)).length:=fun p hp=>by rw [List.length_set]; exact hb p (by simp [hp])
  have hx : v c = x:=hall (c,x) (by simp)
  have hA' : Ag (val.set c (some x)) v:=by rw [← hx]; exact hA.up c
  have hL : ∀ p ∈ L,v p.1 = p.2:=fun p hp=>hall p (by simp [hp])
  unfold stH at h
  cases hv : val.getD c none with
  | none=>rw [hv] at h; exact ih hb' h hA' hL
  | some b =>
   rw [hv] at h
   simp only at h
   rw [if_pos ((hA c b hv).symm.trans hx)] at h
   exact ih hb' h hA' hL
def lnH (F : CF) (st : List Int) : List (Nat × Int):=(F.cl.getD 0 0,0) :: (List.range st.length).map (fun i=>(F.cl.getD (1 + i) 0,st.getD i 0))
def hoH (al : List Atm) (st : List Int) (fd : Int → Option Nat) (ad nx : List Int) : Bool :=
 match stH (lnH (cfOf al) st) (List.replicate 24 none) with
 | none=>false
 | some val=>if ad.length < (cfOf al).ow.length then false else flH (cfOf al).ap fd ad nx (cfOf al).ow val (List.replicate ad.length true)
theorem spc_cnt {ad nx : List Int} {v : Nat → Int} : ∀ {ow : List Pr} {fr : List Bool},SpC ad nx v ow fr → ow.length ≤ fr.count true:=by
 intro ow
 induction ow with
 | nil=>intro fr _; exact Nat.zero_le _
 | cons p r ih =>
  rintro fr ⟨q,fr',h1,h2,-,h4⟩
  have h5:=ih h4
  have h6:=tk_count h2
  have h7 : 0 < q.length:=List.length_pos_iff.2 (seg_ne h1)
  rw [List.length_cons]
  omega
theorem hoH_iff {ad nx : List Int} {fd : Int → Option Nat} (hfd : FdOK ad fd) {al : List Atm} (ht : TmOK al) {st : List Int} (hst : st.length ≤ 4) :
  hoH al st fd ad nx = true ↔ ∃ s,AtH ad nx s al ∧ ∀ i,i < st.length → s (1 + i) = st.getD i 0:=by
 have hL : ∀ p ∈ lnH (cfOf al) st,p.1 < (List.replicate 24 (none : Option Int)).length:=by
  intro p hp
  rw [List.length_replicate]
  rcases List.mem_cons.1 hp with rfl | hp
  ·show (cfOf al).cl.getD 0 0 < 24
   rw [cl_at (by omega)]
   have:=mrg_lt ht (i:=0) (by omega)
   omega
  ·obtain ⟨i,hi,rfl⟩:=List.mem_map.1 hp
   rw [List.mem_range] at hi
   show (cfOf al).cl.getD (1 + i) 0 < 24
   rw [cl_at (by omega)]
   have:=mrg_lt ht (i:=1 + i) (by omega)
   omega
 have hA0 : ∀ v,Ag (List.replicate 24 none) v:=by
  intro v c b h
  simp only [List.getD,List.getElem?_replicate] at h
  split at h <;> simp at h
 constructor
 ·intro h
  unfold hoH at h
  cases hs : stH (lnH (cfOf al) st) (List.replicate 24 none) with
  | none=>rw [hs] at h; cases h
  | some val =>
   rw [hs] at h
   simp only at h
   split at h
   ·cases h
   ·have hvl : val.length = 24:=by rw [stH_len hs,List.length_replicate]
    obtain ⟨v,w1,w2,w3⟩:=flH_sound hfd _ _ _ (fun p hp=>by have:=ow_lt ht p hp; omega) h
    have w4:=((stH_some hL hs).1 w1).2
    have hk : ∀ i,i < 5 → v ((mrg al).getD i 0) = v ((cfOf al).cl.getD i 0):=fun i hi=>by rw [cl_at hi]
    refine ⟨fun t=>v ((mrg al).getD t 0),⟨?_,fun a ha hk1=>?_,fun a ha hk2=>?_,?_⟩,fun i hi=>?_⟩
    ·show v ((mrg al).getD 0 0) = 0
     rw [hk 0 (by omega)]
     exact w4 _ (List.mem_cons_self ..)
    ·show v _ = v _
     rw [show (mrg al).getD (tm a).l 0 = (mrg al).getD (tm a).r 0 from mrg_eq al _ ht (by simp) a ha hk1]
    ·exact w3 (prOf (mrg al) a) (List.mem_map.2 ⟨a,List.mem_filter.2 ⟨ha,by simp [hk2]⟩,rfl⟩)
    ·exact SpC_map (f:=prOf (mrg al)) (g:=tm) (fun a _=>⟨rfl,rfl,rfl⟩) w2
    ·show v ((mrg al).getD (1 + i) 0) = st.getD i 0
     rw [hk (1 + i) (by omega)]
     exact w4 ((cfOf al).cl.getD (1 + i) 0,st.getD i 0) (List.mem_cons_of_mem _ (List.mem_map.2 ⟨i,List.mem_range.2 hi,rfl⟩))
 ·rintro ⟨s,hA,hS⟩
  have hM:=hA.mod ht
  have hall : ∀ p ∈ lnH (cfOf al) st,s p.1 = p.2:=by
   intro p hp
   rcases List.mem_cons.1 hp with rfl | hp
   ·exact hM.nl
   ·obtain ⟨i,hi,rfl⟩:=List.mem_map.1 hp
    rw [List.mem_range] at hi
    show s ((cfOf al).cl.getD (1 + i) 0) = st.getD i 0
    rw [cl_at (by omega),mrg_of ht hA.eq (by omega)]
    exact hS i hi
  unfold hoH
  cases hs : stH (lnH (cfOf al) st) (List.replicate 24 none) with
  | none=>exact absurd hall (stH_none hL hs (hA0 s))
  | some val =>
   simp only
   have h1:=spc_cnt hM.sp
   rw [List.count_replicate_self] at h1
   rw [if_neg (by omega)]
   exact flH_complete hfd hM.ap _ _ _ (by simp) ((stH_some hL hs).2 ⟨hA0 s,hall⟩) hM.sp
def prC (p : Pr) : List Value:=[.int .i64 p.k,.int .i64 p.l,.int .i64 p.r]
def prCells (l : List Pr) : List Value:=l.flatMap prC
theorem prCells_app (a b : List Pr) : prCells (a ++ b) = prCells a ++ prCells b:=by simp [prCells]
theorem pr_get {l : List Pr} {k : Nat} (h : k < l.length) : (prCells l)[k * 3]? = some (.int .i64 l[k].k) ∧ (prCells l)[k * 3 + 1]? = some (.int .i64 l[k].l) ∧ (prCells l)[k * 3 + 2]? = some (.int .i64 l[k].r):=by
 induction l generalizing k with
 | nil=>simp at h
 | cons x l ih =>
  have hx : prCells (x :: l) = [Value.int .i64 x.k,.int .i64 x.l,.int .i64 x.r] ++ prCells l:=rfl
  cases k with
  | zero=>rw [hx]; simp
  | succ k =>
   have:=ih (k:=k) (by simpa using h)
   rw [hx,show (k + 1) * 3 = k * 3 + 3 by omega]
   simp only [List.getElem_cons_succ]
   refine ⟨?_,?_,?_⟩
   ·rw [List.getElem?_append_right (by simp)]; simpa using this.1
   ·rw [List.getElem?_append_right (by simp)]; simpa [show k * 3 + 3 + 1 - 3 = k * 3 + 1 by omega] using this.2.1
   ·rw [List.getElem?_append_right (by simp)]; simpa [show k * 3 + 3 + 2 - 3 = k * 3 + 2 by omega] using this.2.2
theorem pr_of_own {w : World} {B : Nat} {v : Value} {l : List Pr} (h : w.ownsRow B 182 3 v l.length (prCells l)) :
  ∃ ao cap,v = .slice ao l.length cap ∧ cap ≤ maxLen ∧ l.length ≤ cap ∧ (l ≠ [] → ∃ g,ao = some ⟨g,0,none⟩ ∧ ∀ j,(h : j < l.length) → w.cell? ⟨g,j * 3,none⟩ = some (.int .i64 l[j].k) ∧ w.cell? ⟨g,j * 3 + 1,none⟩ = some (.int .i64 l[j].l) ∧ w.cell? ⟨g,j * 3 + 2,none⟩ = some (.int .i64 l[j].r)):=by
 have hw:=h
 rcases h.2 with ⟨rfl,h0⟩ | ⟨g,cap,cur,rfl,_,_,hn,hm,_,_⟩
 ·have : l = []:=List.eq_nil_of_length_eq_zero h0
  subst this
  exact ⟨_,_,rfl,by simp,by simp,fun h=>absurd rfl h⟩
 ·refine ⟨_,_,rfl,hm,hn,fun _=>⟨g,rfl,fun j hj=>?_⟩⟩
  have hg:=pr_get hj
  exact ⟨(hw.cellAt _ (by omega)).trans hg.1,(hw.cellAt _ (by omega)).trans hg.2.1,(hw.cellAt _ (by omega)).trans hg.2.2⟩
def clV (f : CF) (i : Nat) : Value:=.int .i64 ((f.cl.getD i 0 : Nat) : Int)
def foCells (f : CF) (av ov : Value) : List Value:=[clV f 0,clV f 1,clV f 2,clV f 3,clV f 4,av,ov]
def Ob (w : World) (T n A : Nat) (xs : List Value) : Prop:=w.ownsRow 0 T n (.slice (some ⟨A,0,none⟩) 1 1) 1 xs
structure IsF (w : World) (A : Nat) (f : CF) (av ov : Value) : Prop where
 ob : Ob w 179 7 A (foCells f av ov)
 ap : w.ownsRow 0 182 3 av f.ap.length (prCells f.ap)
 ow : w.ownsRow 0 182 3 ov f.ow.length (prCells f.ow)
def bsF (A : Nat) (av ov : Value) : List Nat:=A :: (av.ownBlock.toList ++ ov.ownBlock.toList)
theorem Ob.of_eq {w w' : World} {T n A : Nat} {xs : List Value} (h : Ob w T n A xs) (he : w'.heap[A]? = w.heap[A]?) : Ob w' T n A xs :=
 ownsRow_of_eq h (fun k hk=>by cases hk; exact he)
theorem IsF.of_eq {w w' : World} {A : Nat} {f : CF} {av ov : Value} (h : IsF w A f av ov) (he : ∀ k ∈ bsF A av ov,w'.heap[k]? = w.heap[k]?) : IsF w' A f av ov :=
 ⟨h.ob.of_eq (he A (by simp [bsF])),ownsRow_of_eq h.ap (fun k hk=>he k (by simp [bsF,hk])),ownsRow_of_eq h.ow (fun k hk=>he k (by simp [bsF,hk]))⟩
theorem IsF.lt {w : World} {A : Nat} {f : CF} {av ov : Value} (h : IsF w A f av ov) : ∀ k ∈ bsF A av ov,k < w.heap.size:=by
 intro k hk
 simp only [bsF,List.mem_cons,List.mem_append,Option.mem_toList] at hk
 rcases hk with rfl | hk | hk
 ·exact (World.ownsRow.lt h.ob _ rfl).2
 ·exact (h.ap.lt k hk).2
 ·exact (h.ow.lt k hk).2
theorem IsF.cls {w : World} {A : Nat} {f : CF} {av ov : Value} (h : IsF w A f av ov) {i : Nat} (hi : i < 5) : w.cell? ⟨A,i,none⟩ = some (clV f i):=by
 have:=World.ownsRow.cellAt h.ob i (by omega)
 rw [this]
 have hk : i = 0 ∨ i = 1 ∨ i = 2 ∨ i = 3 ∨ i = 4:=by omega
 rcases hk with rfl | rfl | rfl | rfl | rfl <;> rfl
theorem IsF.c5 {w : World} {A : Nat} {f : CF} {av ov : Value} (h : IsF w A f av ov) : w.cell? ⟨A,5,none⟩ = some av:=World.ownsRow.cellAt h.ob 5 (by omega)
theorem IsF.c6 {w : World} {A : Nat} {f : CF} {av ov : Value} (h : IsF w A f av ov) : w.cell? ⟨A,6,none⟩ = some ov:=World.ownsRow.cellAt h.ob 6 (by omega)
theorem nat_beq {a b : Nat} : ((a : Int) == (b : Int)) = decide (a = b):=by
 rw [Bool.eq_iff_iff,beq_iff_eq,decide_eq_true_eq]; omega
def RmA (T : CF) : Prop:=∀ p ∈ T.ap,p.l < 24 ∧ p.r < 24
theorem Ob.some {w : World} {T n A : Nat} {xs : List Value} (h : Ob w T n A xs) {j : Nat} (hj : j < n) : (∃ u,w.cell? ⟨A,j,none⟩ = some u) ∧ w.frozen? ⟨A,j,none⟩ = false:=by
 refine ⟨?_,World.ownsRow.frozenAt h j⟩
 have hl : j < xs.length:=by have:=h.1; omega
 exact ⟨xs[j],by rw [World.ownsRow.cellAt h j (by omega)]; simp [hl]⟩
theorem Ob.set {w : World} {T n A : Nat} {xs : List Value} (h : Ob w T n A xs) (j : Nat) (u : Value) : Ob (w.setCell ⟨A,j,none⟩ u) T n A (xs.set j u):=(World.ownsRow.stored h j u).1
theorem Ob.alloc {w : World} {T n A : Nat} {xs : List Value} (h : Ob w T n A xs) (o : Obj) : Ob (w.alloc o) T n A xs:=h.of_eq (Below.heap_alloc _ _ _ (World.ownsRow.lt h _ rfl).2)
def setL (xs : List Value) : Nat → List Value → List Value
 | _,[]=>xs
 | o,v :: r=>setL (xs.set o v) (o + 1) r
theorem Ob.setCells {T n A : Nat} : ∀ (vs : List Value) (o : Nat) {w : World} {xs : List Value},Ob w T n A xs → Ob (w.setCells A o vs) T n A (setL xs o vs):=by
 intro vs
 induction vs with
 | nil=>intro o w xs h; exact h
 | cons v r ih=>intro o w xs h; exact ih (o + 1) (h.set o v)
theorem setL_mid : ∀ (vs a mid c : List Value),mid.length = vs.length → setL (a ++ (mid ++ c)) a.length vs = a ++ (vs ++ c):=by
 intro vs
 induction vs with
 | nil =>
  intro a mid c h
  have : mid = []:=List.eq_nil_of_length_eq_zero h
  subst this; rfl
 | cons v r ih =>
  intro a mid c h
  cases mid with
  | nil=>simp at h
  | cons m mid =>
   have h2:=ih (a ++ [v]) mid c (by simpa using h)
   simp only [setL]
   rw [List.set_append_right _ _ (Nat.le_refl _),Nat.sub_self]
   simp only [List.cons_append,List.set_cons_zero]
   have e1 : a ++ v :: (mid ++ c) = (a ++ [v]) ++ (mid ++ c):=by simp
   have e2 : a.length + 1 = (a ++ [v]).length:=by simp
   rw [e1,e2,h2]
   simp
theorem prCells_one (l : List Pr) : ∀ u ∈ prCells l,u.oneCell' = true:=by
 intro u hu
 simp only [prCells,List.mem_flatMap] at hu
 obtain ⟨a,_,ha⟩:=hu
 simp only [prC,List.mem_cons,List.not_mem_nil,or_false] at ha
 rcases ha with rfl | rfl | rfl <;> rfl
theorem Tryz.infoPair : (Tryz.prog.info? 182).map (fun i=>(i.zero,i.size,i.bytes)) = some (some (.agg #[.int .i64 0,.int .i64 0,.int .i64 0]),3,24):=by kernel_rfl
theorem rowB {w w' : World} {B : Nat} {e : TypeId} {sz n : Nat} {v : Value} {xs : List Value} (h : w.ownsRow B e sz v n xs) (hb : Below w.heap.size w w') : w'.ownsRow B e sz v n xs:=ownsRow_of_eq h (fun k hk=>hb.block k (h.lt k hk).2)
end Go.Proofs.YtciihepbeacppaaGreat
