import Derived.Test.YtciihepbeacppaaGreatM12
import Derived.Test.YtciihepbeacppaaGreatM07
namespace Go.Proofs.YtciihepbeacppaaGreat
open Go.RowKit
set_option linter.unusedVariables false
theorem meN_back {ms:List Nat} {c d:Nat} (h:d∈meN ms c):d∈ms∨d = c:=by
 unfold meN at h
 split at h
 ·exact Or.inl h
 ·rw [List.mem_append,List.mem_singleton] at h;exact h
theorem meF_back:∀ (l:List Nat) {ms:List Nat} {d:Nat},d∈l.foldl meN ms→d∈ms∨d∈l
 | [],ms,d,h=>Or.inl h
 | c :: l,ms,d,h=>by
  rcases meF_back l h with h | h
  ·rcases meN_back h with h | rfl
   ·exact Or.inl h
   ·exact Or.inr (by simp)
  ·exact Or.inr (by simp [h])
theorem lv_ow {f:CF} {p:Pr} (hp:p∈f.ow):p.l∈lvL f∧p.r∈lvL f:=⟨List.mem_append_right _ (List.mem_flatMap.2 ⟨p,hp,by simp⟩),List.mem_append_right _ (List.mem_flatMap.2 ⟨p,hp,by simp⟩)⟩
theorem spS_back {f:CF} {k:Nat} {ms:List Nat} {d:Nat} (h:d∈spS f k ms):d∈ms∨d∈lvL f:=by
 unfold spS at h
 split at h
 ·rename_i i hi
  rcases meN_back h with h | rfl
  ·exact Or.inl h
  ·exact Or.inr (lv_ow (bgn_mem hi)).2
 ·exact Or.inl h
theorem spN_back {f:CF}:∀ (n k:Nat) {ms:List Nat} {d:Nat},d∈spN f n k ms→d∈ms∨d∈lvL f
 | 0,_,_,_,h=>Or.inl h
 | n + 1,k,ms,d,h=>by
  unfold spN at h
  split at h
  ·rcases spN_back n (k + 1) h with h | h
   ·exact spS_back h
   ·exact Or.inr h
  ·exact Or.inl h
theorem roF_back {f:CF}:∀ (l:List Pr) {ms:List Nat} {d:Nat},(∀ p∈l,p∈f.ow)→d∈l.foldl (roS f) ms→d∈ms∨d∈lvL f
 | [],_,_,_,h=>Or.inl h
 | p :: r,ms,d,hl,h=>by
  rcases roF_back r (fun q hq=>hl q (by simp [hq])) h with h | h
  ·rcases spN_back _ _ h with h | h
   ·rcases meN_back h with h | rfl
    ·exact Or.inl h
    ·exact Or.inr (lv_ow (hl p (by simp))).1
   ·exact Or.inr h
  ·exact Or.inr h
theorem roL_back {f:CF} {d:Nat} (h:d∈roL f):d∈lvL f:=by
 rcases roF_back f.ow (fun p hp=>hp) h with h | h
 ·rcases spN_back _ _ h with h | h
  ·rcases meF_back _ h with h | h
   ·simp at h
   ·exact List.mem_append_left _ h
  ·exact h
 ·exact h
theorem mxP_lt:∀ (l:List Pr) {m K:Nat},m < K→(∀ p∈l,p.l < K∧p.r < K)→mxP m l < K
 | [],_,_,h,_=>h
 | p :: r,m,K,h,hl=>by
  have:=hl p (by simp)
  exact mxP_lt r (m:=max (max m p.l) p.r) (by omega) (fun q hq=>hl q (by simp [hq]))
theorem nam_le {f:CF} {K:Nat} (hK:0 < K) (h1:∀ c∈clL f,c < K) (h2:∀ p∈f.ow,p.l < K∧p.r < K) (h3:∀ p∈f.ap,p.l < K∧p.r < K):namF f≤K:=by
 unfold namF
 have h0:mxC f < K:=by
  have a0:=h1 _ (clL_get (f:=f) (i:=0) (by omega))
  have a1:=h1 _ (clL_get (f:=f) (i:=1) (by omega))
  have a2:=h1 _ (clL_get (f:=f) (i:=2) (by omega))
  have a3:=h1 _ (clL_get (f:=f) (i:=3) (by omega))
  have a4:=h1 _ (clL_get (f:=f) (i:=4) (by omega))
  unfold mxC
  omega
 have:=mxP_lt f.ap (mxP_lt f.ow h0 h2) h3
 omega
theorem nam_live {f:CF}:∀ c∈lvL f,c < namF f:=by
 have hc:mxC f < namF f:=by
  have h1:=(mxP_ge f.ow (mxC f)).1
  have h2:=(mxP_ge f.ap (mxP (mxC f) f.ow)).1
  unfold namF
  omega
 intro c h
 unfold lvL at h
 rw [List.mem_append,List.mem_flatMap] at h
 rcases h with h | ⟨p,hp,h⟩
 ·unfold clL at h
  unfold mxC at hc
  simp only [List.mem_cons,List.not_mem_nil,or_false] at h
  omega
 ·have h1:=(mxP_ge f.ow (mxC f)).2 p hp
  have h2:=(mxP_ge f.ap (mxP (mxC f) f.ow)).1
  unfold namF
  simp only [List.mem_cons,List.not_mem_nil,or_false] at h
  rcases h with rfl | rfl <;> omega
theorem ro_pos {f:CF} (h:FoOk f):0 < (roL f).length:=by
 have:=(roL_ok0 h.ow h.cl).2.2.1 _ (clL_get (f:=f) (i:=0) (by omega))
 exact List.length_pos_of_mem this
theorem nam_rn {f:CF} (h:FoOk f) (hl:∀ p∈f.ap,p.l∈lvL f∧p.r∈lvL f):(∀ c∈clL (rnF f),c < (roL f).length)∧(∀ p∈(rnF f).ow,p.l < (roL f).length∧p.r < (roL f).length)∧∀ p∈(rnF f).ap,p.l < (roL f).length∧p.r < (roL f).length:=by
 have hL:=roL_live h.ow h.cl h.lf
 refine ⟨fun c hc=>?_,fun p hp=>?_,fun p hp=>?_⟩
 ·unfold rnF at hc
  rw [clL_map] at hc
  obtain ⟨d,hd,rfl⟩:=List.mem_map.1 hc
  exact List.idxOf_lt_length_iff.2 (hL d (List.mem_append_left _ hd))
 ·obtain ⟨q,hq,rfl⟩:=List.mem_map.1 hp
  exact ⟨List.idxOf_lt_length_iff.2 (hL _ (lv_ow hq).1),List.idxOf_lt_length_iff.2 (hL _ (lv_ow hq).2)⟩
 ·obtain ⟨q,hq,rfl⟩:=List.mem_map.1 hp
  exact ⟨List.idxOf_lt_length_iff.2 (hL _ (hl q hq).1),List.idxOf_lt_length_iff.2 (hL _ (hl q hq).2)⟩
theorem nam_td {f:CF} (h:FoOk f):namF (tdF f)≤(roL f).length:=by
 obtain ⟨h1,h2,h3⟩:=nam_rn h.fg (fun _ hp=>fg_live hp)
 rw [roL_fg] at h1 h2 h3
 refine nam_le (ro_pos h) h1 (fun p hp=>h2 p (srL_mem.1 hp)) (fun p hp=>?_)
 obtain ⟨q,hq,rfl⟩:=List.mem_map.1 (srL_mem.1 hp)
 have:=h3 q hq
 unfold swP
 split
 ·exact ⟨this.2,this.1⟩
 ·exact this
theorem nam_sub {f:CF} (h:FoOk f) {S:List Nat} (hS:∀ c∈lvL f,c∈S):namF (tdF f)≤S.length :=
 Nat.le_trans (nam_td h) (List.Nodup.length_le_of_subset (roL_ok0 h.ow h.cl).1.1 (fun c hc=>hS c (roL_back hc)))
def K3 (f:CF):Prop:=∀ p∈f.ow,p.k = 3
theorem K3.td {f:CF} (h:K3 f):K3 (tdF f):=by
 intro p hp
 obtain ⟨q,hq,rfl⟩:=List.mem_map.1 (srL_mem.1 hp)
 exact h q hq
theorem lv_cl {f:CF} {i:Nat} (hi:i < 5):f.cl.getD i 0∈lvL f:=List.mem_append_left _ (clL_get hi)
theorem lv_iff {f:CF} (h5:f.cl.length = 5) {c:Nat}:c∈lvL f↔c∈f.cl∨∃ p∈f.ow,c = p.l∨c = p.r:=by
 unfold lvL
 rw [List.mem_append,clL_iff h5,List.mem_flatMap]
 constructor
 ·rintro (h | ⟨p,hp,h⟩)
  ·exact Or.inl h
  ·exact Or.inr ⟨p,hp,by simpa using h⟩
 ·rintro (h | ⟨p,hp,h⟩)
  ·exact Or.inl h
  ·exact Or.inr ⟨p,hp,by simpa using h⟩
theorem lv_setC {f:CF} (h5:f.cl.length = 5) {i d c:Nat} (h:c∈lvL (setC f i d)):c∈lvL f∨c = d:=by
 rw [lv_iff (by simpa [setC] using h5)] at h
 rw [lv_iff h5]
 rcases h with h | h
 ·rcases List.mem_or_eq_of_mem_set h with h | h
  ·exact Or.inl (Or.inl h)
  ·exact Or.inr h
 ·exact Or.inl (Or.inr h)
theorem lv_setO {f:CF} (h5:f.cl.length = 5) {i c:Nat} {p:Pr} (h:c∈lvL (setO f i p)):c∈lvL f∨c = p.l∨c = p.r:=by
 rw [lv_iff (f:=setO f i p) h5] at h
 rw [lv_iff h5]
 rcases h with h | ⟨q,hq,h⟩
 ·exact Or.inl (Or.inl h)
 ·rcases List.mem_or_eq_of_mem_set hq with hq | rfl
  ·exact Or.inl (Or.inr ⟨q,hq,h⟩)
  ·exact Or.inr h
theorem lv_lay {f:CF} (h5:f.cl.length = 5) {c:Nat} {p:Pr} (h:c∈lvL (layF f p)):c∈lvL f∨c = p.l∨c = p.r:=by
 rw [lv_iff (f:=layF f p) h5] at h
 rw [lv_iff h5]
 rcases h with h | ⟨q,hq,h⟩
 ·exact Or.inl (Or.inl h)
 ·rcases List.mem_append.1 hq with hq | hq
  ·exact Or.inl (Or.inr ⟨q,hq,h⟩)
  ·rw [List.mem_singleton] at hq;subst hq;exact Or.inr h
theorem lv_tak {f:CF} (h5:f.cl.length = 5) {i c:Nat} (h:c∈lvL (takF f i)):c∈lvL f:=by
 rw [lv_iff (f:=takF f i) h5] at h
 rw [lv_iff h5]
 rcases h with h | ⟨q,hq,h⟩
 ·exact Or.inl h
 ·exact Or.inr ⟨q,(tkO_sub _ i).subset hq,h⟩
theorem rnN_back {a b c:Nat}:(rnN a b c = c∨rnN a b c = a)∧(rnN a b c = b→a = b):=by
 unfold rnN
 split
 ·exact ⟨Or.inr rfl,fun e=>e⟩
 ·rename_i h
  exact ⟨Or.inl rfl,fun e=>absurd e h⟩
theorem lv_jo {f:CF} (h5:f.cl.length = 5) {a b c:Nat} (h:c∈lvL (joF f a b)):(c∈lvL f∨c = a)∧(c = b→a = b):=by
 have h5':(joF f a b).cl.length = 5:=by show (f.cl.map _).length = 5;simpa using h5
 rw [lv_iff h5'] at h
 rw [lv_iff h5]
 have key:∀ d,(d∈f.cl∨∃ p∈f.ow,d = p.l∨d = p.r)→c = rnN a b d→((c∈f.cl∨∃ p∈f.ow,c = p.l∨c = p.r)∨c = a)∧(c = b→a = b):=by
  intro d hd e
  have:=@rnN_back a b d
  rw [← e] at this
  refine ⟨?_,this.2⟩
  rcases this.1 with h | h
  ·exact Or.inl (by rw [h];exact hd)
  ·exact Or.inr h
 rcases h with h | ⟨q,hq,h⟩
 ·obtain ⟨d,hd,e⟩:=List.mem_map.1 h
  exact key d (Or.inl hd) e.symm
 ·obtain ⟨p,hp,rfl⟩:=List.mem_map.1 hq
  rcases h with h | h
  ·exact key p.l (Or.inr ⟨p,hp,Or.inl rfl⟩) h
  ·exact key p.r (Or.inr ⟨p,hp,Or.inr rfl⟩) h
theorem lv_parL:∀ (l:List Pr) {g:CF} {c d:Nat},d∈lvL (l.foldl (fun h p=>parF h c p.l) g)→d∈lvL g
 | [],_,_,_,h=>h
 | p :: r,g,c,d,h=>lv_parL r (g:=parF g c p.l) h
theorem ow_parL:∀ (l:List Pr) {g:CF} {c:Nat},(l.foldl (fun h p=>parF h c p.l) g).ow = g.ow
 | [],_,_=>rfl
 | p :: r,g,c=>ow_parL r (g:=parF g c p.l)
def isT (n:Nd):Bool:=decide (n.op = 7∨n.op = 8∨n.op = 9)
def isN (n:Nd):Bool:=decide (n.op = 4)
def ctA (P:Nd→Bool) (nds:List Nd) (n:Nat):Nat:=(nds.drop n).countP P
theorem ctA_step {P:Nd→Bool} {nds:List Nd} {n:Nat} (hn:n < nds.length):ctA P nds n = ctA P nds (n + 1) + (if P (nds.getD n nd0) = true then 1 else 0):=by
 unfold ctA
 rw [List.drop_eq_getElem_cons hn,List.countP_cons,List.getD_eq_getElem?_getD,List.getElem?_eq_getElem hn]
 rfl
theorem ctA_le {P:Nd→Bool} {nds:List Nd} {n m:Nat} (h:n≤m):ctA P nds m≤ctA P nds n:=by
 unfold ctA
 refine List.Sublist.countP_le ?_
 rw [show m = n + (m - n) by omega,← List.drop_drop]
 exact List.drop_sublist _ _
theorem ctA_lt {P:Nd→Bool} {nds:List Nd} {n m:Nat} (hn:n < nds.length) (h:n < m) (hp:P (nds.getD n nd0) = true):ctA P nds m + 1≤ctA P nds n:=by
 have h1:=ctA_step (P:=P) hn
 rw [if_pos hp] at h1
 have h2:=ctA_le (P:=P) (nds:=nds) (n:=n + 1) (m:=m) h
 omega
def wtF (nds:List Nd) (n:Nat) (f:CF):Nat:=9 ^ (namF f + ctA isN nds n) * 2 ^ (ctA isT nds n)
structure SmF (nds:List Nd) (n:Nat) (f:CF):Prop where
 td:Td f
 k3:K3 f
 nm:namF f + ctA isN nds n≤9
theorem K3.jo {f:CF} (h:K3 f) (a b:Nat):K3 (joF f a b):=by
 intro p hp
 obtain ⟨q,hq,rfl⟩:=List.mem_map.1 hp
 exact h q hq
theorem K3.owA {f:CF} (h:K3 f) {i:Nat} (hi:i < f.ow.length):(owA f i).k = 3:=h _ (owA_mem hi)
theorem fiF_k3 {f:CF} (h:K3 f) (c:Nat):(fiF f c).1 = []∨(fiF f c).1 = [f]:=by
 unfold fiF
 split
 ·exact Or.inl rfl
 ·rename_i i hi
  unfold fiI
  rw [if_pos (h.owA (bgn_lt hi).1)]
  exact Or.inr rfl
theorem meF_k3 {f:CF} (h:K3 f) {c i:Nat} (hi:i < f.ow.length):meF f c i = if difB f c (owA f i).l = true then [] else [meF1 f c i]:=by
 unfold meF
 rw [if_neg (show ¬ ((owA f i).k = 4) by rw [h.owA hi];decide),List.append_nil]
def JoI (f:CF) (v:Nat) (x:CF):Prop:=∃ i,i < f.ow.length∧x = joF f (owA f i).l (f.cl.getD (1 + v) 0)
theorem opG_k3 {f:CF} (h:K3 f) {v i:Nat} (hi:i < f.ow.length) {r:List CF × Bool} (hr:∀ x∈r.1,JoI f v x):(∀ x∈(opG f v i r).1,JoI f v x)∧(opG f v i r).1.length≤r.1.length + 1:=by
 unfold opG
 rw [meF_k3 h hi]
 split
 ·exact ⟨hr,by simp⟩
 ·simp only [List.foldl_cons,List.foldl_nil]
  have h2:=fiF_k3 (h.jo (owA f i).l (f.cl.getD (1 + v) 0)) ((meF1 f (f.cl.getD (1 + v) 0) i).cl.getD (1 + v) 0)
  unfold fiA
  show (∀ x∈r.1 ++ (fiF (meF1 f _ i) _).1,_)∧(r.1 ++ (fiF (meF1 f _ i) _).1).length≤_
  have h3:(fiF (meF1 f (f.cl.getD (1 + v) 0) i) ((meF1 f (f.cl.getD (1 + v) 0) i).cl.getD (1 + v) 0)).1 = []∨(fiF (meF1 f (f.cl.getD (1 + v) 0) i) ((meF1 f (f.cl.getD (1 + v) 0) i).cl.getD (1 + v) 0)).1 = [meF1 f (f.cl.getD (1 + v) 0) i]:=h2
  rcases h3 with e | e
  ·rw [e,List.append_nil]
   exact ⟨hr,by omega⟩
  ·rw [e]
   refine ⟨fun x hx=>?_,by simp⟩
   rcases List.mem_append.1 hx with hx | hx
   ·exact hr x hx
   ·rw [List.mem_singleton] at hx
    exact ⟨i,hi,hx⟩
theorem opL_k3 {f:CF} (h:K3 f) {v:Nat}:∀ (l:List Nat) {r:List CF × Bool},(∀ i∈l,i < f.ow.length)→(∀ x∈r.1,JoI f v x)→(∀ x∈(l.foldl (fun r i=>opG f v i r) r).1,JoI f v x)∧(l.foldl (fun r i=>opG f v i r) r).1.length≤r.1.length + l.length
 | [],r,_,hr=>⟨hr,by simp⟩
 | i :: l,r,hl,hr=>by
  obtain ⟨h1,h2⟩:=opG_k3 h (v:=v) (hl i (by simp)) hr
  obtain ⟨g1,g2⟩:=opL_k3 h (v:=v) l (r:=opG f v i r) (fun j hj=>hl j (by simp [hj])) h1
  refine ⟨g1,?_⟩
  rw [List.foldl_cons,List.length_cons]
  omega
theorem opF_k3 {f:CF} (h:K3 f) (v:Nat):((opF f v).1 = []∨(opF f v).1 = [f])∨(bgn f.ow (f.cl.getD (1 + v) 0) = none∧(opF f v).1.length≤f.ow.length∧∀ x∈(opF f v).1,JoI f v x):=by
 unfold opF
 split
 ·exact Or.inl (Or.inl rfl)
 ·split
  ·exact Or.inl (fiF_k3 h _)
  ·rename_i hb
   right
   obtain ⟨h1,h2⟩:=opL_k3 h (v:=v) (List.range f.ow.length) (r:=([],false)) (fun i hi=>List.mem_range.1 hi) (fun x hx=>by simp at hx)
   exact ⟨by simpa using hb,by simpa using h2,h1⟩
structure Opn (v:Nat) (G:CF→CF):Prop where
 ok:∀ {x N},OpOk N v x→FoOk (G x)
 lv:∀ {x N},OpOk N v x→∀ c∈lvL (G x),c∈lvL x
 k3:∀ {x},K3 x→K3 (G x)
theorem owA_lv {f:CF} {i:Nat} (hi:i < f.ow.length):(owA f i).l∈lvL f∧(owA f i).r∈lvL f:=lv_ow (owA_mem hi)
theorem bgI_lt {N v:Nat} {x:CF} (h:OpOk N v x):bgI x (x.cl.getD (1 + v) 0) < x.ow.length:=by
 obtain ⟨i,hi⟩:=Option.isSome_iff_exists.1 h.bg
 unfold bgI
 rw [hi]
 exact (bgn_lt hi).1
theorem clT_lv {f:CF} {k i:Nat} (hi:i < 4):clT f k i∈lvL f:=by unfold clT;split;exact lv_cl (by omega);exact lv_cl (by omega)
theorem opn_fo {n:Nd}:Opn n.ai (fun g=>folG g n):=⟨fun h=>(folG_ok h).1,fun h c hc=>by
 rcases lv_setC h.ok.c5 hc with hc | rfl
 ·exact hc
 ·exact (owA_lv (bgI_lt h)).2,fun h=>h⟩
theorem opn_li {n:Nd} (ha:n.ai < 4):Opn n.v (fun g=>liG g n):=⟨fun h=>(liG_ok h).1,fun h c hc=>by
 rcases lv_setO h.ok.c5 hc with hc | rfl | rfl
 ·exact hc
 ·exact (owA_lv (bgI_lt h)).1
 ·exact clT_lv ha,fun {x} h p hp=>by
 rcases List.mem_or_eq_of_mem_set hp with hp | rfl
 ·exact h p hp
 ·show (owA x _).k = 3
  by_cases hi:bgI x (x.cl.getD (1 + n.v) 0) < x.ow.length
  ·exact h.owA hi
  ·have hp':(⟨(owA x (bgI x (x.cl.getD (1 + n.v) 0))).k,(owA x (bgI x (x.cl.getD (1 + n.v) 0))).l,clT x n.ak n.ai⟩:Pr)∈x.ow.set (bgI x (x.cl.getD (1 + n.v) 0)) ⟨(owA x (bgI x (x.cl.getD (1 + n.v) 0))).k,(owA x (bgI x (x.cl.getD (1 + n.v) 0))).l,clT x n.ak n.ai⟩:=hp
   rw [List.set_eq_of_length_le (by omega)] at hp'
   have h9:=h _ hp'
   exact h9⟩
theorem opn_fr (v:Nat):Opn v (fun g=>frG g v):=⟨fun h=>(frG_ok h).1,fun {x N} h c hc=>by
 have h1:=lv_parL _ hc
 exact lv_tak h.ok.c5 (show c∈lvL (takF x _) from h1),fun {x} h p hp=>by
 have h1:p∈(takF x (bgI x (x.cl.getD (1 + v) 0))).ow:=by
  have e:=ow_parL (takF x (bgI x (x.cl.getD (1 + v) 0))).ow (g:=parF (takF x (bgI x (x.cl.getD (1 + v) 0))) (x.cl.getD (1 + v) 0) ((takF x (bgI x (x.cl.getD (1 + v) 0))).cl.getD 0 0)) (c:=x.cl.getD (1 + v) 0)
  have hp':p∈(List.foldl (fun h p=>parF h (x.cl.getD (1 + v) 0) p.l) (parF (takF x (bgI x (x.cl.getD (1 + v) 0))) (x.cl.getD (1 + v) 0) ((takF x (bgI x (x.cl.getD (1 + v) 0))).cl.getD 0 0)) (takF x (bgI x (x.cl.getD (1 + v) 0))).ow).ow:=hp
  rw [e] at hp'
  exact hp'
 exact h p ((tkO_sub _ _).subset h1)⟩
theorem nam_keep {f g:CF} (h:FoOk g) (hs:∀ c∈lvL g,c∈lvL f):namF (tdF g)≤namF f:=by
 have:=nam_sub h (S:=List.range (namF f)) (fun c hc=>List.mem_range.2 (nam_live c (hs c hc)))
 simpa using this
theorem nam_join {f g:CF} {a b:Nat} (h:FoOk g) (h5:f.cl.length = 5) (ha:a∈lvL f) (hb:b∈lvL f) (hab:a≠b) (hs:∀ c∈lvL g,c∈lvL (joF f a b)):namF (tdF g) + 1≤namF f:=by
 have h1:=nam_sub h (S:=(List.range (namF f)).erase b) (fun c hc=>by
  obtain ⟨h1,h2⟩:=lv_jo h5 (hs c hc)
  rw [List.Nodup.mem_erase_iff List.nodup_range,List.mem_range]
  refine ⟨fun e=>hab (h2 e),?_⟩
  rcases h1 with h1 | rfl
  ·exact nam_live c h1
  ·exact nam_live c ha)
 rw [List.length_erase_of_mem (List.mem_range.2 (nam_live b hb)),List.length_range] at h1
 have:=nam_live b hb
 omega
theorem sumB_le {α:Type} {g:α→Nat} {X:Nat}:∀ (l:List α),(∀ a∈l,g a≤X)→sumB g l≤l.length * X
 | [],_=>by simp [sumB]
 | a :: l,h=>by
  have h1:=h a (by simp)
  have h2:=sumB_le l (fun b hb=>h b (by simp [hb]))
  simp only [sumB,List.length_cons,Nat.succ_mul]
  omega
theorem pow_le9 {a b:Nat} (h:a≤b):9 ^ a≤9 ^ b:=Nat.pow_le_pow_right (by omega) h
theorem pow_le2 {a b:Nat} (h:a≤b):2 ^ a≤2 ^ b:=Nat.pow_le_pow_right (by omega) h
theorem wt_le {nds:List Nd} {n m:Nat} {f g:CF} (h:n≤m) (hn:namF g≤namF f):wtF nds m g≤wtF nds n f :=
 Nat.mul_le_mul (pow_le9 (Nat.add_le_add hn (ctA_le h))) (pow_le2 (ctA_le h))
theorem wt_nine {nds:List Nd} {n m:Nat} {f g:CF} (h:n≤m) (hn:namF g + 1≤namF f):9 * wtF nds m g≤wtF nds n f:=by
 unfold wtF
 have h1:9 * 9 ^ (namF g + ctA isN nds m)≤9 ^ (namF f + ctA isN nds n):=by
  rw [Nat.mul_comm,← Nat.pow_succ]
  exact pow_le9 (by have:=ctA_le (P:=isN) (nds:=nds) h;omega)
 rw [← Nat.mul_assoc]
 exact Nat.mul_le_mul h1 (pow_le2 (ctA_le h))
theorem ow_nam {f:CF} (h:FoOk f):f.ow.length≤namF f:=by
 have:=List.Nodup.length_le_of_subset h.lf (l₂:=List.range (namF f)) (fun c hc=>by
  obtain ⟨p,hp,rfl⟩:=List.mem_map.1 hc
  exact List.mem_range.2 (nam_live _ (lv_ow hp).1))
 simpa using this
theorem SmF.of {nds:List Nd} {n m:Nat} {f g:CF} (h:SmF nds n f) (hm:n≤m) (hg:FoOk g) (hk:K3 g) (hn:namF (tdF g)≤namF f):SmF nds m (tdF g):=⟨hg.tidy,hk.td,by have:=h.nm;have:=ctA_le (P:=isN) (nds:=nds) hm;omega⟩
theorem open_w {nds:List Nd} {n m v:Nat} {f:CF} {G:CF→CF} (hv:v < 4) (hm:n≤m) (h:SmF nds n f) (hG:Opn v G):(∀ g∈(ofOpen (opF f v) G).nx,SmF nds m g)∧sumB (wtF nds m) (ofOpen (opF f v) G).nx≤wtF nds n f:=by
 have hop:=opF_ok hv h.td.ok h.td.ln
 show (∀ g∈(opF f v).1.map (fun x=>tdF (G x)),_)∧sumB _ ((opF f v).1.map (fun x=>tdF (G x)))≤_
 rcases opF_k3 h.k3 v with (e | e) | ⟨hb,hlen,hJ⟩
 ·rw [e];exact ⟨fun g hg=>by simp at hg,by simp [sumB]⟩
 ·have hx:=hop f (by rw [e];simp)
  have hn:=nam_keep (hG.ok hx) (hG.lv hx)
  rw [e]
  refine ⟨fun g hg=>?_,?_⟩
  ·simp only [List.map_cons,List.map_nil,List.mem_singleton] at hg
   subst hg
   exact h.of hm (hG.ok hx) (hG.k3 h.k3) hn
  ·simp only [List.map_cons,List.map_nil,sumB,Nat.add_zero]
   exact wt_le hm hn
 ·have key:∀ x∈(opF f v).1,namF (tdF (G x)) + 1≤namF f∧K3 (G x)∧FoOk (G x):=by
   intro x hx
   have ho:=hop x hx
   obtain ⟨i,hi,rfl⟩:=hJ x hx
   refine ⟨nam_join (hG.ok ho) h.td.ok.c5 (owA_lv hi).1 (lv_cl (by omega)) (fun e=>bgn_no hb _ (owA_mem hi) e) (hG.lv ho),hG.k3 (h.k3.jo _ _),hG.ok ho⟩
  refine ⟨fun g hg=>?_,?_⟩
  ·obtain ⟨x,hx,rfl⟩:=List.mem_map.1 hg
   obtain ⟨k1,k2,k3⟩:=key x hx
   exact h.of hm k3 k2 (by omega)
  ·have h9:f.ow.length≤9:=by have:=ow_nam h.td.ok;have:=h.nm;omega
   obtain ⟨X,hX⟩:∃ X,X = wtF nds n f / 9:=⟨_,rfl⟩
   have h1:=sumB_le (g:=wtF nds m) (X:=X) ((opF f v).1.map (fun x=>tdF (G x))) (fun g hg=>by
    obtain ⟨x,hx,rfl⟩:=List.mem_map.1 hg
    have:=wt_nine (nds:=nds) hm (key x hx).1
    omega)
   rw [List.length_map] at h1
   have h2:(opF f v).1.length * X≤9 * X:=Nat.mul_le_mul_right _ (by omega)
   omega
theorem sumB_app {α:Type} (g:α→Nat):∀ (a b:List α),sumB g (a ++ b) = sumB g a + sumB g b
 | [],b=>by simp [sumB]
 | x :: a,b=>by simp only [List.cons_append,sumB,sumB_app g a b];omega
theorem sumB_sub {α:Type} (g:α→Nat) {a b:List α} (h:a.Sublist b):sumB g a≤sumB g b:=by
 induction h with
 | slnil=>exact Nat.le_refl _
 | cons x _ ih=>simp only [sumB];omega
 | cons_cons x _ ih=>simp only [sumB];omega
structure OutW (nds:List Nd) (n:Nat) (f:CF) (o:Out):Prop where
 nx:∀ g∈o.nx,SmF nds (nds.getD n nd0).nx g
 ot:∀ g∈o.ot,SmF nds (nds.getD n nd0).ot g
 w:sumB (wtF nds (nds.getD n nd0).nx) o.nx + sumB (wtF nds (nds.getD n nd0).ot) o.ot≤wtF nds n f
structure Fwd (nds:List Nd):Prop where
 v:∀ n,(nds.getD n nd0).v < 4∧(nds.getD n nd0).ai < 4
 nx:∀ n,n < nds.length→(nds.getD n nd0).op≠0→n < (nds.getD n nd0).nx
 ot:∀ n,n < nds.length→isT (nds.getD n nd0) = true→n < (nds.getD n nd0).ot
theorem wt_two {nds:List Nd} {n m k:Nat} {f g h:CF} (hn:n < nds.length) (ht:isT (nds.getD n nd0) = true) (hm:n < m) (hk:n < k) (hg:namF g≤namF f) (hh:namF h≤namF f):wtF nds m g + wtF nds k h≤wtF nds n f:=by
 have one:∀ {m:Nat} {g:CF},n < m→namF g≤namF f→2 * wtF nds m g≤wtF nds n f:=fun {m g} hm hg=>by
  unfold wtF
  have h1:=pow_le9 (show namF g + ctA isN nds m≤namF f + ctA isN nds n by have:=ctA_le (P:=isN) (nds:=nds) (Nat.le_of_lt hm);omega)
  have h2:2 * 2 ^ (ctA isT nds m)≤2 ^ (ctA isT nds n):=by
   rw [Nat.mul_comm,← Nat.pow_succ]
   exact pow_le2 (ctA_lt hn hm ht)
  calc 2 * (9 ^ (namF g + ctA isN nds m) * 2 ^ (ctA isT nds m)) = 9 ^ (namF g + ctA isN nds m) * (2 * 2 ^ (ctA isT nds m)):=by rw [Nat.mul_left_comm]
   _≤_:=Nat.mul_le_mul h1 h2
 have h1:=one hm hg
 have h2:=one hk hh
 omega
theorem efO_w {nds:List Nd} (hF:Fwd nds) {n:Nat} (hn:n < nds.length) {f:CF} (h:SmF nds n f):OutW nds n f (efO (nds.getD n nd0) f):=by
 obtain ⟨hv,ha⟩:=hF.v n
 have hnx:=hF.nx n hn
 have hot:=hF.ot n hn
 obtain ⟨nd,hnd⟩:∃ nd,nd = nds.getD n nd0:=⟨_,rfl⟩
 have h5:=h.td.ok.c5
 have keep:∀ {m:Nat} {g:CF},n≤m→FoOk g→K3 g→(∀ c∈lvL g,c∈lvL f)→SmF nds m (tdF g)∧wtF nds m (tdF g)≤wtF nds n f:=fun hm hg hk hl =>
  ⟨h.of hm hg hk (nam_keep hg hl),wt_le hm (nam_keep hg hl)⟩
 have one:∀ {g:CF},(nds.getD n nd0).op≠0→FoOk g→K3 g→(∀ c∈lvL g,c∈lvL f)→OutW nds n f ⟨[tdF g],[],false,false,false⟩:=fun ho hg hk hl=>by
  obtain ⟨k1,k2⟩:=keep (Nat.le_of_lt (hnx ho)) hg hk hl
  exact ⟨fun x hx=>by simp only [List.mem_singleton] at hx;subst hx;exact k1,fun x hx=>by simp at hx,by simp only [sumB,Nat.add_zero];exact k2⟩
 have opn:∀ {v:Nat} {G:CF→CF},(nds.getD n nd0).op≠0→v < 4→Opn v G→OutW nds n f (ofOpen (opF f v) G):=fun ho hv hG=>by
  obtain ⟨k1,k2⟩:=open_w hv (Nat.le_of_lt (hnx ho)) h hG
  exact ⟨k1,fun x hx=>by simp [ofOpen] at hx,by show _ + sumB _ ([]:List CF)≤_;simp only [sumB,Nat.add_zero];exact k2⟩
 -- the two sides of a test
 have hjo:∀ {a b:Nat},a∈lvL f→difB f a b = false→FoOk (joF f a b)∧K3 (joF f a b)∧∀ c∈lvL (joF f a b),c∈lvL f:=fun {a b} ha' hd=>⟨h.td.ok.jo (by have:=nam_live _ ha';have:=h.nm;omega) (dif_apart hd),h.k3.jo _ _,fun c hc=>by
  rcases (lv_jo h5 hc).1 with hc | rfl
  ·exact hc
  ·exact ha'⟩
 have test:∀ {x y:List CF} {m k:Nat},isT (nds.getD n nd0) = true→n < m→n < k→(x = []∨∃ g,x = [tdF g]∧FoOk g∧K3 g∧∀ c∈lvL g,c∈lvL f)→(y = []∨∃ g,y = [tdF g]∧FoOk g∧K3 g∧∀ c∈lvL g,c∈lvL f)→(∀ g∈x,SmF nds m g)∧(∀ g∈y,SmF nds k g)∧sumB (wtF nds m) x + sumB (wtF nds k) y≤wtF nds n f:=by
  intro x y m k ht hm hk hx hy
  rcases hx with rfl | ⟨g,rfl,g1,g2,g3⟩
  ·rcases hy with rfl | ⟨g',rfl,g1',g2',g3'⟩
   ·exact ⟨fun z hz=>by simp at hz,fun z hz=>by simp at hz,by simp [sumB]⟩
   ·obtain ⟨k1,k2⟩:=keep (Nat.le_of_lt hk) g1' g2' g3'
    exact ⟨fun z hz=>by simp at hz,fun z hz=>by rw [List.mem_singleton] at hz;subst hz;exact k1,by simp only [sumB,Nat.add_zero,Nat.zero_add];exact k2⟩
  ·rcases hy with rfl | ⟨g',rfl,g1',g2',g3'⟩
   ·obtain ⟨k1,k2⟩:=keep (Nat.le_of_lt hm) g1 g2 g3
    exact ⟨fun z hz=>by rw [List.mem_singleton] at hz;subst hz;exact k1,fun z hz=>by simp at hz,by simp only [sumB,Nat.add_zero];exact k2⟩
   ·obtain ⟨k1,-⟩:=keep (Nat.le_of_lt hm) g1 g2 g3
    obtain ⟨k1',-⟩:=keep (Nat.le_of_lt hk) g1' g2' g3'
    exact ⟨fun z hz=>by rw [List.mem_singleton] at hz;subst hz;exact k1,fun z hz=>by rw [List.mem_singleton] at hz;subst hz;exact k1',by simp only [sumB,Nat.add_zero];exact wt_two hn ht hm hk (nam_keep g1 g3) (nam_keep g1' g3')⟩
 have self:∃ g,[tdF f] = [tdF g]∧FoOk g∧K3 g∧∀ c∈lvL g,c∈lvL f:=⟨f,rfl,h.td.ok,h.k3,fun c hc=>hc⟩
 have cm1:(cmO f nd).1 = []∨∃ g,(cmO f nd).1 = [tdF g]∧FoOk g∧K3 g∧∀ c∈lvL g,c∈lvL f:=by
  simp only [cmO]
  split
  ·exact Or.inl rfl
  ·rename_i hd
   exact Or.inr ⟨_,rfl,hjo (lv_cl (by rw [hnd];omega)) (by simpa using hd)⟩
 have cm2:(cmO f nd).2 = []∨∃ g,(cmO f nd).2 = [tdF g]∧FoOk g∧K3 g∧∀ c∈lvL g,c∈lvL f:=by
  simp only [cmO]
  split
  ·exact Or.inl rfl
  ·exact Or.inr ⟨_,rfl,h.td.ok.pa (h.td.ok.get _) (h.td.ok.cT _ _),h.k3,fun c hc=>hc⟩
 rw [← hnd] at hv ha hnx hot one opn test ⊢
 have hnx':nd.op≠0→n < nd.nx:=hnx
 unfold efO
 split
 ·exact ⟨fun x hx=>by simp [out0] at hx,fun x hx=>by simp [out0] at hx,by simp [out0,sumB]⟩
 ·rename_i h0
  split
  ·exact one h0 (h.td.ok.sC _ (h.td.ok.cT _ _)) h.k3 (fun c hc=>by
    rcases lv_setC h5 hc with hc | rfl
    ·exact hc
    ·exact clT_lv ha)
  ·split
   ·exact opn h0 ha opn_fo
   ·split
    ·exact opn h0 hv (opn_li ha)
    ·split
     ·rename_i h4
      split
      ·exact ⟨fun x hx=>by simp at hx,fun x hx=>by simp at hx,by simp [sumB]⟩
      ·rename_i hN
       have hfk:=crG_ok (v:=nd.v) h.td.ok (by omega)
       have hlt:=hnx' h0
       have hct:=ctA_lt (P:=isN) hn hlt (by rw [← hnd];simpa [isN] using h4)
       have hnm:namF (tdF (crG f nd.v))≤namF f + 1:=by
        have:=nam_sub hfk (S:=List.range (namF f + 1)) (fun c hc=>by
         rw [List.mem_range]
         rcases lv_setC (f:=layF f ⟨3,namF f,f.cl.getD 0 0⟩) h5 hc with hc | rfl
         ·rcases lv_lay h5 hc with hc | rfl | rfl
          ·have:=nam_live c hc;omega
          ·exact Nat.lt_succ_self _
          ·have:=nam_live _ (lv_cl (f:=f) (i:=0) (by omega))
           show f.cl.getD 0 0 < namF f + 1
           omega
         ·exact Nat.lt_succ_self _)
        simpa using this
       have hk:K3 (crG f nd.v):=by
        intro p hp
        rcases List.mem_append.1 hp with hp | hp
        ·exact h.k3 p hp
        ·rw [List.mem_singleton] at hp;subst hp;rfl
       have hnm9:=h.nm
       refine ⟨fun x hx=>?_,fun x hx=>by simp at hx,?_⟩
       ·simp only [List.mem_singleton] at hx
        subst hx
        exact ⟨hfk.tidy,hk.td,by rw [← hnd];omega⟩
       ·simp only [sumB,Nat.add_zero]
        rw [← hnd]
        exact Nat.mul_le_mul (pow_le9 (by omega)) (pow_le2 (ctA_le (Nat.le_of_lt hlt)))
     ·split
      ·exact opn h0 hv (opn_fr nd.v)
      ·split
       ·rename_i h7
        have ht:isT nd = true:=by simp [isT,h7]
        obtain ⟨k1,k2,k3⟩:=test ht (hnx' h0) (hot ht) (Or.inr self) (Or.inr self)
        exact ⟨by rw [← hnd];exact k1,by rw [← hnd];exact k2,by rw [← hnd];exact k3⟩
       ·split
        ·rename_i h8
         have ht:isT nd = true:=by simp [isT,h8]
         obtain ⟨k1,k2,k3⟩:=test ht (hnx' h0) (hot ht) cm1 cm2
         exact ⟨by rw [← hnd];exact k1,by rw [← hnd];exact k2,by rw [← hnd];exact k3⟩
        ·split
         ·rename_i h9
          have ht:isT nd = true:=by simp [isT,h9]
          obtain ⟨k1,k2,k3⟩:=test ht (hnx' h0) (hot ht) cm2 cm1
          exact ⟨by rw [← hnd];exact k1,by rw [← hnd];exact k2,by rw [← hnd];exact k3⟩
         ·exact one h0 h.td.ok h.k3 (fun c hc=>hc)
def sumI (g:Nat→List Ent→Nat):Nat→List (List Ent)→Nat
 | _,[]=>0
 | k,a :: l=>g k a + sumI g (k + 1) l
theorem sumI_set (g:Nat→List Ent→Nat):∀ (l:List (List Ent)) (k n:Nat) (x:List Ent),n < l.length→sumI g k (l.set n x) + g (k + n) (l.getD n []) = sumI g k l + g (k + n) x
 | [],k,n,x,h=>by simp at h
 | a :: l,k,0,x,_=>by simp [sumI];omega
 | a :: l,k,n + 1,x,h=>by
  have:=sumI_set g l (k + 1) n x (by simpa using h)
  rw [show k + 1 + n = k + (n + 1) by omega] at this
  simp only [List.set_cons_succ,sumI,List.getD_cons_succ]
  omega
theorem sumI_get (g:Nat→List Ent→Nat):∀ (l:List (List Ent)) (k n:Nat),n < l.length→g (k + n) (l.getD n [])≤sumI g k l
 | [],k,n,h=>by simp at h
 | a :: l,k,0,_=>by simp [sumI]
 | a :: l,k,n + 1,h=>by
  have:=sumI_get g l (k + 1) n (by simpa using h)
  rw [show k + 1 + n = k + (n + 1) by omega] at this
  simp only [sumI,List.getD_cons_succ]
  omega
def totW (nds:List Nd) (s:Sr):Nat:=sumI (fun n l=>sumB (wtF nds n) (frE l)) 0 s.kn
structure Sml (c:Cd) (cu rest:Nat) (s:Sr):Prop where
 kl:s.kn.length = c.nds.length
 fo:∀ n,∀ e∈knA s n,SmF c.nds n e.f
 un:∀ n,cu≤n→∀ e∈knA s n,e.d = false
 dn:∀ n,n < cu→∀ e∈knA s n,e.d = true
 tw:totW c.nds s + rest≤big
 ok:s.ok = true
theorem wt_pos (nds:List Nd) (n:Nat) (f:CF):1≤wtF nds n f:=Nat.mul_pos (Nat.pow_pos (by omega)) (Nat.pow_pos (by omega))
theorem len_sum {nds:List Nd} {n:Nat}:∀ (l:List CF),l.length≤sumB (wtF nds n) l
 | []=>by simp
 | f :: l=>by
  have:=wt_pos nds n f
  have:=len_sum (nds:=nds) (n:=n) l
  simp only [sumB,List.length_cons]
  omega
theorem frE_all {l:List Ent} (h:∀ e∈l,e.d = false):frE l = l.map (·.f):=by
 unfold frE
 rw [List.filter_eq_self.2 (fun e he=>by rw [h e he];rfl)]
theorem knA_out {s:Sr} {n:Nat} (h:s.kn.length≤n):knA s n = []:=by unfold knA;rw [List.getD_eq_getElem?_getD,List.getElem?_eq_none h];rfl
theorem knA_set {s:Sr} {n m:Nat} {x:List Ent} {s':Sr} (e:s'.kn = s.kn.set n x):knA s' m = if m = n∧n < s.kn.length then x else knA s m:=by
 unfold knA
 rw [e,List.getD_eq_getElem?_getD,List.getElem?_set]
 by_cases h:n = m
 ·subst h
  by_cases hl:n < s.kn.length
  ·simp [hl]
  ·rw [if_pos rfl,if_neg hl,if_neg (by simp [hl]),List.getD_eq_getElem?_getD,List.getElem?_eq_none (by omega)]
 ·rw [if_neg h,if_neg (by rintro ⟨rfl,-⟩;exact h rfl),List.getD_eq_getElem?_getD]
theorem Sml.len {c:Cd} {cu rest n:Nat} {s:Sr} (h:Sml c cu rest s) (hn:cu≤n):(knA s n).length≤big:=by
 by_cases hl:n < s.kn.length
 ·have h1:=sumI_get (fun n l=>sumB (wtF c.nds n) (frE l)) s.kn 0 n hl
  have h2:(knA s n).length≤sumB (wtF c.nds n) (frE (knA s n)):=by
   have h3:=len_sum (nds:=c.nds) (n:=n) (frE (knA s n))
   rw [frE_all (h.un n hn),List.length_map] at h3
   rw [frE_all (h.un n hn)]
   exact h3
  have h3:=h.tw
  unfold totW at h3
  rw [Nat.zero_add] at h1
  have h4:(knA s n).length≤sumI (fun n l=>sumB (wtF c.nds n) (frE l)) 0 s.kn:=Nat.le_trans h2 h1
  omega
 ·rw [knA_out (by omega)];simp
structure SiC (c:Cd):Prop where
 lp:c.lp = false
 bd:c.bd = false
 hd:∀ n,c.hd.getD n false = false
 fw:Fwd c.nds
theorem layS_sml {c:Cd} (hc:SiC c) {cu rest n:Nat} (hn:cu≤n) {f:CF} (hf:SmF c.nds n f) {s:Sr} (h:Sml c cu (rest + wtF c.nds n f) s):Sml c cu rest (layS c n f s):=by
 have hN:layN c n f = f:=by unfold layN;rw [if_neg (by rw [hc.hd n];decide)]
 have hlen:=h.len hn
 unfold layS
 rw [hN]
 split
 ·exact ⟨h.kl,h.fo,h.un,h.dn,by have:=h.tw;show totW c.nds s + rest≤big;omega,by show (s.ok && decide ((knA s n).length≤big)) = true;rw [h.ok];simpa using hlen⟩
 ·obtain ⟨x,hx⟩:∃ x,x = (knA s n).filter (fun e=>!wiB e.f f) ++ [⟨f,false⟩]:=⟨_,rfl⟩
  obtain ⟨s',hs'⟩:∃ s',s' = spS' c (layR n f (lkS' c s (2 * (knA s n).length))):=⟨_,rfl⟩
  have hkn:s'.kn = s.kn.set n x:=by rw [hs',hx];rfl
  have hok:s'.ok = true:=by rw [hs'];show (s.ok && decide ((knA s n).length≤big)) = true;rw [h.ok];simpa using hlen
  rw [← hs']
  refine ⟨by rw [hkn,List.length_set];exact h.kl,fun m e he=>?_,fun m hm e he=>?_,fun m hm e he=>?_,?_,hok⟩
  ·rw [knA_set hkn] at he
   split at he
   ·rename_i hm
    rw [hm.1]
    rw [hx] at he
    rcases List.mem_append.1 he with he | he
    ·exact h.fo n e (List.mem_filter.1 he).1
    ·rw [List.mem_singleton] at he;subst he;exact hf
   ·exact h.fo m e he
  ·rw [knA_set hkn] at he
   split at he
   ·rw [hx] at he
    rcases List.mem_append.1 he with he | he
    ·exact h.un n hn e (List.mem_filter.1 he).1
    ·rw [List.mem_singleton] at he;subst he;rfl
   ·exact h.un m hm e he
  ·rw [knA_set hkn,if_neg (by rintro ⟨rfl,-⟩;omega)] at he
   exact h.dn m hm e he
  ·have htw:=h.tw
   unfold totW at htw ⊢
   rw [hkn]
   by_cases hl:n < s.kn.length
   ·have h1:=sumI_set (fun n l=>sumB (wtF c.nds n) (frE l)) s.kn 0 n x hl
    rw [Nat.zero_add] at h1
    have h2:sumB (wtF c.nds n) (frE x)≤sumB (wtF c.nds n) (frE (knA s n)) + wtF c.nds n f:=by
     have e1:frE x = frE ((knA s n).filter (fun e=>!wiB e.f f)) ++ [f]:=by
      rw [hx]
      unfold frE
      rw [List.filter_append,List.map_append]
      rfl
     rw [e1,sumB_app]
     have h3:sumB (wtF c.nds n) (frE ((knA s n).filter (fun e=>!wiB e.f f)))≤sumB (wtF c.nds n) (frE (knA s n)):=sumB_sub _ ((List.filter_sublist.filter _).map _)
     simp only [sumB]
     omega
    have h3:sumB (wtF c.nds n) (frE (s.kn.getD n [])) = sumB (wtF c.nds n) (frE (knA s n)):=rfl
    omega
   ·rw [List.set_eq_of_length_le (by omega)]
    omega
theorem layF_sml {c:Cd} (hc:SiC c) {cu n fuel a:Nat} (hn:cu≤n):∀ (l:List CF) {rest:Nat} {s:Sr},(∀ f∈l,SmF c.nds n f)→Sml c cu (rest + sumB (wtF c.nds n) l) s→Sml c cu rest (l.foldl (fun s g=>arS c fuel a n g s) s)
 | [],rest,s,_,h=>h
 | f :: l,rest,s,hl,h=>by
  have e:arS c fuel a n f s = layS c n f s:=by unfold arS;rw [if_pos (Or.inl hc.lp)]
  rw [List.foldl_cons,e]
  refine layF_sml hc hn l (fun g hg=>hl g (by simp [hg])) (layS_sml hc hn (hl f (by simp)) ?_)
  have e2:rest + sumB (wtF c.nds n) (f :: l) = rest + sumB (wtF c.nds n) l + wtF c.nds n f:=by simp only [sumB];omega
  rw [← e2]
  exact h
theorem Sml.wrI {c:Cd} {cu rest n k:Nat} {b:Bool} {s:Sr} (h:Sml c cu rest s):Sml c cu rest (wrI b n k s):=by
 unfold Go.Proofs.YtciihepbeacppaaGreat.wrI
 split
 ·exact ⟨h.kl,h.fo,h.un,h.dn,h.tw,h.ok⟩
 ·exact h
theorem Sml.fuS {c:Cd} {cu rest:Nat} {b:Bool} {s:Sr} (h:Sml c cu rest s):Sml c cu rest (fuS b s):=⟨h.kl,h.fo,h.un,h.dn,h.tw,h.ok⟩
theorem stS_sml {c:Cd} (hc:SiC c) {n rest fuel:Nat} (hn:n < c.nds.length) {f:CF} (hf:SmF c.nds n f) {s:Sr} (h:Sml c (n + 1) (rest + wtF c.nds n f) s):Sml c (n + 1) rest (stS c fuel n f s):=by
 have hw:=efO_w hc.fw hn hf
 have hnx:=hc.fw.nx n hn
 have hot:=hc.fw.ot n hn
 obtain ⟨o,ho⟩:∃ o,o = efO (c.nds.getD n nd0) f:=⟨_,rfl⟩
 have hnil:o.nx≠[]→n < (c.nds.getD n nd0).nx:=fun hne=>hnx (fun e=>hne (by rw [ho];unfold efO;rw [if_pos e];rfl))
 have htil:o.ot≠[]→n < (c.nds.getD n nd0).ot:=fun hne=>hot (by
  apply Classical.byContradiction
  intro hT
  apply hne
  have hT':¬ ((c.nds.getD n nd0).op = 7∨(c.nds.getD n nd0).op = 8∨(c.nds.getD n nd0).op = 9):=by simpa [isT] using hT
  rw [ho]
  unfold efO
  split
  ·rfl
  ·split
   ·rfl
   ·split
    ·rfl
    ·split
     ·rfl
     ·split
      ·split <;> rfl
      ·split
       ·rfl
       ·split
        ·exact absurd (Or.inl (by assumption)) hT'
        ·split
         ·exact absurd (Or.inr (Or.inl (by assumption))) hT'
         ·split
          ·exact absurd (Or.inr (Or.inr (by assumption))) hT'
          ·rfl)
 rw [← ho] at hw
 unfold stS
 simp only [← ho]
 have lay1:∀ {l:List CF} {m rest:Nat} {s:Sr},(l≠[]→n < m)→(∀ g∈l,SmF c.nds m g)→Sml c (n + 1) (rest + sumB (wtF c.nds m) l) s→Sml c (n + 1) rest (l.foldl (fun s g=>arS c fuel n m g s) s):=by
  intro l m rest s hm hl hs
  by_cases e:l = []
  ·subst e;exact hs
  ·exact layF_sml hc (hm e) l hl hs
 refine lay1 htil hw.ot (lay1 hnil hw.nx ?_)
 have h1:Sml c (n + 1) (rest + sumB (wtF c.nds (c.nds.getD n nd0).ot) o.ot + sumB (wtF c.nds (c.nds.getD n nd0).nx) o.nx) s:=⟨h.kl,h.fo,h.un,h.dn,by have:=h.tw;have:=hw.w;omega,h.ok⟩
 exact h1.wrI.wrI.wrI.fuS
theorem viN_sml {c:Cd} (hc:SiC c) {n fuel:Nat} (hn:n < c.nds.length):∀ (l:List CF) {s:Sr},(∀ f∈l,SmF c.nds n f)→Sml c (n + 1) (sumB (wtF c.nds n) l) s→Sml c (n + 1) 0 (viN c fuel n l s)
 | [],s,_,h=>h
 | f :: l,s,hl,h=>by
  unfold viN
  split
  ·exact ⟨h.kl,h.fo,h.un,h.dn,by have:=h.tw;omega,h.ok⟩
  ·refine viN_sml hc hn l (fun g hg=>hl g (by simp [hg])) (stS_sml hc hn (hl f (by simp)) ?_)
   have e:sumB (wtF c.nds n) (f :: l) = sumB (wtF c.nds n) l + wtF c.nds n f:=by simp only [sumB];omega
   rw [← e]
   exact h
theorem viS_sml {c:Cd} (hc:SiC c) {cu n fuel:Nat} {s:Sr} (hcu:cu≤n) (hn:n < c.nds.length) (hb:∀ m,cu≤m→m < n→knA s m = []) (h:Sml c cu 0 s):Sml c (n + 1) 0 (viS c fuel n s):=by
 have hl:n < s.kn.length:=by rw [h.kl];exact hn
 have hF:∀ f∈frE (knA s n),SmF c.nds n f:=by
  intro f hf
  obtain ⟨e,he,rfl⟩:=List.mem_map.1 hf
  exact h.fo n e (List.mem_filter.1 he).1
 refine viN_sml hc hn _ hF ?_
 obtain ⟨x,hx⟩:∃ x,x = (knA s n).map (fun e=>(⟨e.f,true⟩:Ent)):=⟨_,rfl⟩
 have hkn:({ s with kn:=s.kn.set n ((knA s n).map (fun e=>⟨e.f,true⟩)) }:Sr).kn = s.kn.set n x:=by rw [hx]
 refine ⟨by rw [hkn,List.length_set];exact h.kl,fun m e he=>?_,fun m hm e he=>?_,fun m hm e he=>?_,?_,h.ok⟩
 ·rw [knA_set hkn] at he
  split at he
  ·rename_i hm
   rw [hx] at he
   obtain ⟨y,hy,rfl⟩:=List.mem_map.1 he
   rw [hm.1]
   exact h.fo n y hy
  ·exact h.fo m e he
 ·rw [knA_set hkn,if_neg (by rintro ⟨rfl,-⟩;omega)] at he
  exact h.un m (by omega) e he
 ·rw [knA_set hkn] at he
  split at he
  ·rw [hx] at he
   obtain ⟨y,-,rfl⟩:=List.mem_map.1 he
   rfl
  ·rename_i hm'
   by_cases hmc:m < cu
   ·exact h.dn m hmc e he
   ·rw [hb m (by omega) (by
     have:m≠n:=fun e=>hm' ⟨e,hl⟩
     omega)] at he
    simp at he
 ·have htw:=h.tw
  unfold totW at htw ⊢
  rw [hkn]
  have h1:=sumI_set (fun n l=>sumB (wtF c.nds n) (frE l)) s.kn 0 n x hl
  rw [Nat.zero_add] at h1
  have h2:frE x = []:=by
   rw [hx]
   unfold frE
   rw [List.map_eq_nil_iff,List.filter_eq_nil_iff]
   intro e he
   obtain ⟨y,-,rfl⟩:=List.mem_map.1 he
   simp
  have h3:sumB (wtF c.nds n) (frE (s.kn.getD n [])) = sumB (wtF c.nds n) (frE (knA s n)):=rfl
  rw [h2] at h1
  simp only [sumB] at h1
  omega
theorem ruN_sml {c:Cd} (hc:SiC c) {fuel:Nat}:∀ (k:Nat) {cu:Nat} {s:Sr},Sml c cu 0 s→c.nds.length < k + cu→cu≤c.nds.length→(ruN c fuel k s).ok = true
 | 0,_,_,_,h,h'=>by omega
 | k + 1,cu,s,h,hk,_=>by
  unfold ruN
  split
  ·exact h.ok
  ·rename_i n hp
   split
   ·exact h.ok
   ·obtain ⟨hn,hany,hbef⟩:=List.findIdx?_eq_some_iff_getElem.1 hp
    have at_:∀ j,(hj:j < s.kn.length)→knA s j = s.kn[j]:=fun j hj=>by unfold knA;rw [List.getD_eq_getElem?_getD,List.getElem?_eq_getElem hj];rfl
    have hcu:cu≤n:=by
     apply Classical.byContradiction
     intro hlt
     obtain ⟨e,he,hde⟩:=List.any_eq_true.1 hany
     rw [← at_ n hn] at he
     rw [h.dn n (by omega) e he] at hde
     simp at hde
    have hn':n < c.nds.length:=by rw [← h.kl];exact hn
    have hS:=viS_sml hc (fuel:=fuel) hcu hn' (fun m hm hmn=>by
     rw [List.eq_nil_iff_forall_not_mem]
     intro e he
     have h1:=h.un m hm e he
     have h2:=hbef m hmn
     rw [at_ m (by omega)] at he
     apply h2
     rw [List.any_eq_true]
     exact ⟨e,he,by rw [h1];rfl⟩) h
    exact ruN_sml hc k hS (by omega) (by omega)
def Mo (s t:PS):Prop:=t.nodes = s.nodes∧s.vars.length≤t.vars.length∧s.hid.length≤t.hid.length
theorem Mo.refl (s:PS):Mo s s:=⟨rfl,Nat.le_refl _,Nat.le_refl _⟩
theorem Mo.trans {s t u:PS} (h:Mo s t) (h':Mo t u):Mo s u:=⟨h'.1.trans h.1,Nat.le_trans h.2.1 h'.2.1,Nat.le_trans h.2.2 h'.2.2⟩
def Lw (L i:Nat):Prop:=i = 0∨i < L
theorem Lw.up {L L' i:Nat} (h:Lw L i) (hL:L≤L'):Lw L' i:=h.imp id (fun h=>by omega)
section
variable {ws:List ByteArray} {s:PS}
theorem adv_mo:Mo s s.adv:=⟨rfl,Nat.le_refl _,Nat.le_refl _⟩
theorem exS_mo (k:ByteArray):Mo s (exS ws k s):=by unfold exS;split <;> exact ⟨rfl,Nat.le_refl _,Nat.le_refl _⟩
theorem put_len (l:List UInt8) (c:UInt8):l.length≤(put l c).length∧plc l c < (put l c).length:=by
 unfold put
 have:=plc_le l c
 split
 ·simp;omega
 ·exact ⟨Nat.le_refl _,by omega⟩
theorem vaS_mo:Mo s (vaS ws s):=by
 unfold vaS
 split
 ·exact ⟨rfl,(put_len _ _).1,Nat.le_refl _⟩
 ·exact ⟨rfl,Nat.le_refl _,Nat.le_refl _⟩
theorem vaI_lw:Lw (vaS ws s).vars.length (vaI ws s):=by
 unfold vaI vaS
 split
 ·exact Or.inr (put_len _ _).2
 ·exact Or.inl rfl
theorem valS_mo:Mo s (valS ws s):=by
 unfold valS
 split
 ·exact adv_mo
 ·exact vaS_mo
theorem valI_lw:Lw (valS ws s).vars.length (valI ws s):=by
 unfold valI valS
 split
 ·exact Or.inl rfl
 ·exact vaI_lw
theorem teS_mo:Mo s (teS ws s):=by
 unfold teS
 split
 ·exact ⟨rfl,Nat.le_refl _,(put_len _ _).1⟩
 ·exact valS_mo
theorem coT_mo:Mo s (coT ws s):=by
 unfold coT
 split
 ·exact adv_mo
 ·exact exS_mo _
theorem coS_mo:Mo s (coS ws s):=by
 unfold coS
 split
 ·exact adv_mo
 ·exact (vaS_mo.trans coT_mo).trans valS_mo
theorem tsP_mo:Mo s (tsP ws s):=((exS_mo _).trans coS_mo).trans (exS_mo _)
theorem asS_mo:Mo s (asS ws s):=by
 unfold asS
 split
 ·exact adv_mo
 ·split
  ·exact (valS_mo.trans adv_mo).trans (exS_mo _)
  ·exact valS_mo
theorem siL_mo:Mo s (siL ws s):=(adv_mo.trans (exS_mo _)).trans (exS_mo _)
theorem siS_mo:Mo s (siS ws s):=by
 unfold siS
 split
 ·exact adv_mo
 ·split
  ·exact adv_mo.trans vaS_mo
  ·split
   ·exact (vaS_mo.trans siL_mo).trans valS_mo
   ·exact (vaS_mo.trans (exS_mo _)).trans asS_mo
theorem coN_lw:Lw (coS ws s).vars.length (coN ws s).v∧Lw (coS ws s).vars.length (coN ws s).ai∧(1≤(coN ws s).op∧(coN ws s).op≤9):=by
 unfold coN coS
 split
 ·exact ⟨Or.inl rfl,Or.inl rfl,by decide⟩
 ·refine ⟨vaI_lw.up (coT_mo.trans valS_mo).2.1,valI_lw,?_⟩
  show 1≤coO ws (vaS ws s)∧coO ws (vaS ws s)≤9
  unfold coO
  split <;> decide
theorem asN_lw {v:Nat} (hv:Lw s.vars.length v):Lw (asS ws s).vars.length (asN ws v s).v∧Lw (asS ws s).vars.length (asN ws v s).ai∧(1≤(asN ws v s).op∧(asN ws v s).op≤6)∧(asN ws v s).ot = 0:=by
 unfold asN asS
 split
 ·exact ⟨hv,Or.inl rfl,by show 1≤(4:Nat)∧(4:Nat)≤6;decide,rfl⟩
 ·split
  ·exact ⟨hv.up ((valS_mo.trans adv_mo).trans (exS_mo _)).2.1,valI_lw.up (adv_mo.trans (exS_mo _)).2.1,by show 1≤(2:Nat)∧(2:Nat)≤6;decide,rfl⟩
  ·exact ⟨hv.up valS_mo.2.1,valI_lw,by show 1≤(1:Nat)∧(1:Nat)≤6;decide,rfl⟩
theorem siN_lw:Lw (siS ws s).vars.length (siN ws s).v∧Lw (siS ws s).vars.length (siN ws s).ai∧(1≤(siN ws s).op∧(siN ws s).op≤6)∧(siN ws s).ot = 0:=by
 unfold siN siS
 split
 ·exact ⟨Or.inl rfl,Or.inl rfl,by decide,rfl⟩
 ·split
  ·exact ⟨vaI_lw,Or.inl rfl,by show 1≤(5:Nat)∧(5:Nat)≤6;decide,rfl⟩
  ·split
   ·exact ⟨vaI_lw.up (siL_mo.trans valS_mo).2.1,valI_lw,by show 1≤(3:Nat)∧(3:Nat)≤6;decide,rfl⟩
   ·exact asN_lw (vaI_lw.up (exS_mo _).2.1)
def GoN (L b E:Nat) (M:List Nd):Prop:=∀ k nd,M[k]? = some nd→Lw L nd.v∧Lw L nd.ai∧(1≤nd.op∧nd.op≤10)∧(nd.nx≤E∧nd.ot≤E)∧(isT nd = true→b + k < nd.ot)∧(nd.op≠10→nd.nx = b + k + 1)∧(nd.op = 10→nd.nx≠b + k)
theorem GoN.nil (L b E:Nat):GoN L b E []:=fun k nd h=>by simp at h
theorem GoN.up {L L' b E E':Nat} {M:List Nd} (h:GoN L b E M) (hL:L≤L') (hE:E≤E'):GoN L' b E' M:=fun k nd hk=>⟨(h k nd hk).1.up hL,(h k nd hk).2.1.up hL,(h k nd hk).2.2.1,by have:=(h k nd hk).2.2.2.1;omega,(h k nd hk).2.2.2.2⟩
theorem GoN.app {L b E:Nat} {M N:List Nd} (h:GoN L b E M) (h':GoN L (b + M.length) E N):GoN L b E (M ++ N):=by
 intro k nd hk
 by_cases hl:k < M.length
 ·rw [List.getElem?_append_left hl] at hk;exact h k nd hk
 ·rw [List.getElem?_append_right (by omega)] at hk
  have:=h' _ nd hk
  rw [show b + M.length + (k - M.length) = b + k by omega] at this
  exact this
theorem GoN.one {L b E:Nat} {nd:Nd} (h:Lw L nd.v∧Lw L nd.ai∧(1≤nd.op∧nd.op≤10)∧(nd.nx≤E∧nd.ot≤E)∧(isT nd = true→b < nd.ot)∧(nd.op≠10→nd.nx = b + 1)∧(nd.op = 10→nd.nx≠b)):GoN L b E [nd]:=by
 intro k nd' hk
 cases k with
 | zero =>
  have:nd = nd':=by simpa using hk
  subst this
  exact h
 | succ k=>simp at hk
def Ex (s t:PS):Prop:=∃ M,t.nodes = s.nodes ++ M∧s.vars.length≤t.vars.length∧s.hid.length≤t.hid.length∧GoN t.vars.length s.nodes.length t.nodes.length M
theorem Mo.ex {t:PS} (h:Mo s t):Ex s t:=⟨[],by rw [h.1,List.append_nil],h.2.1,h.2.2,GoN.nil _ _ _⟩
theorem Ex.trans {t u:PS} (h:Ex s t) (h':Ex t u):Ex s u:=by
 obtain ⟨M,h1,h2,h2',h3⟩:=h
 obtain ⟨N,g1,g2,g2',g3⟩:=h'
 refine ⟨M ++ N,by rw [g1,h1,List.append_assoc],Nat.le_trans h2 g2,Nat.le_trans h2' g2',(h3.up g2 (by rw [g1,List.length_append];omega)).app ?_⟩
 rw [h1,List.length_append] at g3
 exact g3
theorem scS_ex:Ex s (scS ws s):=by
 have hm:Mo s (exS ws kSemi (siS ws s)):=siS_mo.trans (exS_mo _)
 obtain ⟨h1,h2,h3,h4⟩:=@siN_lw ws s
 have hv:=(@exS_mo ws (siS ws s) kSemi).2.1
 have hn:(scS ws s).nodes = s.nodes ++ [{ siN ws s with nx:=s.nodes.length + 1 }]:=by
  show (exS ws kSemi (siS ws s)).nodes ++ [{ siN ws s with nx:=(exS ws kSemi (siS ws s)).nodes.length + 1 }] = _
  rw [hm.1]
 refine ⟨[{ siN ws s with nx:=s.nodes.length + 1 }],hn,hm.2.1,hm.2.2,?_⟩
 rw [hn,List.length_append]
 refine GoN.one ⟨h1.up hv,h2.up hv,by show 1≤(siN ws s).op∧(siN ws s).op≤10;omega,⟨Nat.le_refl _,by show (siN ws s).ot≤_;rw [h4];exact Nat.zero_le _⟩,fun h=>?_,fun _=>rfl,fun h=>?_⟩
 ·exfalso
  have h':(siN ws s).op = 7∨(siN ws s).op = 8∨(siN ws s).op = 9:=by simpa [isT] using h
  omega
 ·exfalso
  have h':(siN ws s).op = 10:=h
  omega
theorem modify_atI {α:Type} (f:α→α) (t:α) (R:List α):∀ (A:List α) {k:Nat},k = A.length→(A ++ t :: R).modify k f = A ++ f t :: R
 | [],k,h=>by subst h;rfl
 | a :: A,k,h=>by subst h;simp [List.modify_succ_cons,modify_atI f t R A rfl]
theorem setOt_atI (A R:List Nd) (t:Nd) (k n:Nat) (h:k = A.length):setOt k n (A ++ t :: R) = A ++ { t with ot:=n } :: R:=modify_atI _ t R A h
theorem setNx_atI (A R:List Nd) (t:Nd) (k n:Nat) (h:k = A.length):setNx k n (A ++ t :: R) = A ++ { t with nx:=n } :: R:=modify_atI _ t R A h
theorem ts_blk {blk:PS→PS} (hb:∀ t,Ex t (blk t)) (k:ByteArray):∃ (tn:Nd) (M:List Nd),(blk (tsS ws (exS ws k s))).nodes = s.nodes ++ tn :: M∧s.vars.length≤(blk (tsS ws (exS ws k s))).vars.length∧s.hid.length≤(blk (tsS ws (exS ws k s))).hid.length∧GoN (blk (tsS ws (exS ws k s))).vars.length (s.nodes.length + 1) (s.nodes.length + 1 + M.length) M∧Lw (blk (tsS ws (exS ws k s))).vars.length tn.v∧Lw (blk (tsS ws (exS ws k s))).vars.length tn.ai∧(1≤tn.op∧tn.op≤9)∧tn.nx = s.nodes.length + 1:=by
 obtain ⟨M,h1,h2,h2',h3⟩:=hb (tsS ws (exS ws k s))
 have hm:Mo s (tsP ws (exS ws k s)):=(exS_mo _).trans tsP_mo
 have ht:(tsS ws (exS ws k s)).nodes = s.nodes ++ [{ coN ws (exS ws kOpen (exS ws k s)) with nx:=s.nodes.length + 1 }]:=by
  show (tsP ws (exS ws k s)).nodes ++ [{ coN ws (exS ws kOpen (exS ws k s)) with nx:=(tsP ws (exS ws k s)).nodes.length + 1 }] = _
  rw [hm.1]
 obtain ⟨g1,g2,g3⟩:=@coN_lw ws (exS ws kOpen (exS ws k s))
 have hv:(coS ws (exS ws kOpen (exS ws k s))).vars.length≤(blk (tsS ws (exS ws k s))).vars.length:=Nat.le_trans (@exS_mo ws (coS ws (exS ws kOpen (exS ws k s))) kClose).2.1 h2
 refine ⟨{ coN ws (exS ws kOpen (exS ws k s)) with nx:=s.nodes.length + 1 },M,by rw [h1,ht,List.append_assoc];rfl,Nat.le_trans hm.2.1 h2,Nat.le_trans hm.2.2 h2',?_,g1.up hv,g2.up hv,g3,rfl⟩
 rw [h1,List.length_append,ht,List.length_append] at h3
 exact h3
theorem tn_good {L b m E:Nat} {tn:Nd} (h1:Lw L tn.v) (h2:Lw L tn.ai) (h3:1≤tn.op∧tn.op≤9) (h4:tn.nx = b + 1) (h:b < m) (hm:m≤E):GoN L b E [{ tn with ot:=m }] :=
 GoN.one ⟨h1,h2,by show 1≤tn.op∧tn.op≤10;omega,⟨by show tn.nx≤E;omega,hm⟩,fun _=>h,fun _=>h4,fun e=>by have:tn.op = 10:=e;omega⟩
theorem jm_good {L b m E:Nat} (h:m≠b) (hm:m≤E):GoN L b E [{ jmp with nx:=m }] :=
 GoN.one ⟨Or.inl rfl,Or.inl rfl,by show 1≤(10:Nat)∧(10:Nat)≤10;decide,⟨hm,Nat.zero_le _⟩,fun e=>by simp [isT,jmp] at e,fun e=>absurd rfl e,fun _=>h⟩
theorem brS_ex {blk:PS→PS} (hb:∀ t,Ex t (blk t)):Ex s (brS blk ws s):=by
 obtain ⟨tn,M,h1,h2,h2',h3,h4,h5,h6,h7⟩:=@ts_blk ws s blk hb kIf
 unfold brS
 have hA:brA blk ws s = blk (tsS ws (exS ws kIf s)):=rfl
 rw [← hA] at h1 h2 h2' h3 h4 h5
 have hl:(brA blk ws s).nodes.length = s.nodes.length + 1 + M.length:=by rw [h1];simp;omega
 obtain ⟨m,hm⟩:∃ m,m = (brA blk ws s).nodes.length:=⟨_,rfl⟩
 split
 ·obtain ⟨N,g1,g2,g2',g3⟩:=hb (brB s.nodes.length (brA blk ws s))
  have hB:(brB s.nodes.length (brA blk ws s)).nodes = s.nodes ++ { tn with ot:=m + 1 } :: (M ++ [{ jmp with nx:=m + 1 }]):=by
   show setOt s.nodes.length ((brA blk ws s).nodes ++ [{ jmp with nx:=(brA blk ws s).nodes.length + 1 }]).length ((brA blk ws s).nodes ++ [{ jmp with nx:=(brA blk ws s).nodes.length + 1 }]) = _
   rw [List.length_append,List.length_singleton,← hm]
   rw [show (brA blk ws s).nodes ++ [{ jmp with nx:=m + 1 }] = s.nodes ++ tn :: (M ++ [{ jmp with nx:=m + 1 }]) by rw [h1];simp]
   exact setOt_atI _ _ _ _ _ rfl
  have hBv:(brB s.nodes.length (brA blk ws s)).vars = (brA blk ws s).vars:=rfl
  have hBh:(brB s.nodes.length (brA blk ws s)).hid = (brA blk ws s).hid:=rfl
  have hBl:(brB s.nodes.length (brA blk ws s)).nodes.length = s.nodes.length + 1 + M.length + 1:=by rw [hB];simp;omega
  rw [hBv] at g2
  rw [hBh] at g2'
  rw [hBl] at g3
  obtain ⟨u,hu⟩:∃ u,u = blk (brB s.nodes.length (brA blk ws s)):=⟨_,rfl⟩
  rw [← hu] at g1 g2 g2' g3 ⊢
  have hul:u.nodes.length = s.nodes.length + 1 + M.length + 1 + N.length:=by rw [g1,List.length_append,hBl]
  have hn:(brC (brA blk ws s).nodes.length u).nodes = s.nodes ++ ({ tn with ot:=m + 1 } :: (M ++ { jmp with nx:=u.nodes.length } :: N)):=by
   show setNx (brA blk ws s).nodes.length u.nodes.length u.nodes = _
   have e:u.nodes = (s.nodes ++ { tn with ot:=m + 1 } :: M) ++ { jmp with nx:=m + 1 } :: N:=by rw [g1,hB];simp
   have e2:=setNx_atI (s.nodes ++ { tn with ot:=m + 1 } :: M) N { jmp with nx:=m + 1 } (brA blk ws s).nodes.length u.nodes.length (by rw [hl];simp;omega)
   rw [← e] at e2
   rw [e2]
   simp
  have hnl:(brC (brA blk ws s).nodes.length u).nodes.length = u.nodes.length:=by show (setNx _ _ _).length = _;exact setNx_length _ _ _
  refine ⟨{ tn with ot:=m + 1 } :: (M ++ { jmp with nx:=u.nodes.length } :: N),hn,Nat.le_trans h2 g2,Nat.le_trans h2' g2',?_⟩
  show GoN u.vars.length s.nodes.length (brC (brA blk ws s).nodes.length u).nodes.length ([{ tn with ot:=m + 1 }] ++ (M ++ ([{ jmp with nx:=u.nodes.length }] ++ N)))
  rw [hnl]
  refine (tn_good (h4.up g2) (h5.up g2) h6 h7 (by omega) (by omega)).app ((h3.up g2 (by omega)).app ((jm_good ?_ (Nat.le_refl _)).app ?_))
  ·rw [hul];simp;omega
  ·show GoN u.vars.length (s.nodes.length + 1 + M.length + 1) u.nodes.length N
   exact g3
 ·have hn:({ brA blk ws s with nodes:=setOt s.nodes.length (brA blk ws s).nodes.length (brA blk ws s).nodes }:PS).nodes = s.nodes ++ ({ tn with ot:=m } :: M):=by
   show setOt s.nodes.length (brA blk ws s).nodes.length (brA blk ws s).nodes = _
   rw [← hm,h1]
   exact setOt_atI _ _ _ _ _ rfl
  refine ⟨{ tn with ot:=m } :: M,hn,h2,h2',?_⟩
  rw [hn,show (s.nodes ++ ({ tn with ot:=m } :: M)).length = s.nodes.length + 1 + M.length by simp;omega]
  exact (tn_good h4 h5 h6 h7 (by omega) (by omega)).app h3
theorem loS_ex {blk:PS→PS} (hb:∀ t,Ex t (blk t)):Ex s (loS blk ws s):=by
 obtain ⟨tn,M,h1,h2,h2',h3,h4,h5,h6,h7⟩:=@ts_blk ws s blk hb kWhile
 have hA:loA blk ws s = blk (tsS ws (exS ws kWhile s)):=rfl
 rw [← hA] at h1 h2 h2' h3 h4 h5
 have hl:(loA blk ws s).nodes.length = s.nodes.length + 1 + M.length:=by rw [h1];simp;omega
 obtain ⟨m,hm⟩:∃ m,m = (loA blk ws s).nodes.length:=⟨_,rfl⟩
 have hn:(loS blk ws s).nodes = s.nodes ++ ({ tn with ot:=m + 1 } :: (M ++ [{ jmp with nx:=s.nodes.length }])):=by
  show setOt s.nodes.length ((loA blk ws s).nodes ++ [{ jmp with nx:=(loA blk ws s).nodes.length + 1 }]).length (setNx (loA blk ws s).nodes.length s.nodes.length ((loA blk ws s).nodes ++ [{ jmp with nx:=(loA blk ws s).nodes.length + 1 }])) = _
  rw [List.length_append,List.length_singleton,setNx_atI _ _ _ _ _ rfl,← hm]
  rw [show (loA blk ws s).nodes ++ [{ jmp with nx:=s.nodes.length }] = s.nodes ++ tn :: (M ++ [{ jmp with nx:=s.nodes.length }]) by rw [h1];simp]
  exact setOt_atI _ _ _ _ _ rfl
 have hnl:(loS blk ws s).nodes.length = s.nodes.length + 1 + M.length + 1:=by rw [hn];simp;omega
 refine ⟨_,hn,h2,h2',?_⟩
 rw [hnl]
 show GoN (loA blk ws s).vars.length s.nodes.length _ ([{ tn with ot:=m + 1 }] ++ (M ++ [{ jmp with nx:=s.nodes.length }]))
 exact (tn_good h4 h5 h6 h7 (by omega) (by omega)).app ((h3.up (Nat.le_refl _) (by omega)).app (jm_good (by simp;omega) (by omega)))
theorem cmB_ex {blk:PS→PS} (hb:∀ t,Ex t (blk t)):Ex s (cmB blk ws s):=by
 unfold cmB
 split
 ·exact brS_ex hb
 ·split
  ·exact loS_ex hb
  ·exact scS_ex
theorem cmS_ex {c:PS→PS} (hc:∀ t,Ex t (c t)):∀ (n:Nat) (s:PS),Ex s (cmS c ws n s)
 | 0,s=>(Mo.refl s).ex
 | n + 1,s=>by
  unfold cmS
  split
  ·exact (Mo.refl s).ex
  ·exact (hc s).trans (cmS_ex hc n (c s))
theorem blS_ex:∀ (f:Nat) (s:PS),Ex s (blS ws f s)
 | 0,s=>(Mo.refl s).ex
 | f + 1,s=>((exS_mo _).ex.trans (cmS_ex (fun t=>cmB_ex (blS_ex f)) _ _)).trans (exS_mo _).ex
end
def TeL (t:PS) (k i:Nat):Prop:=t.failed = true∨(k = 0∧i = 0)∨(k = 1∧i < t.vars.length)∨(k = 2∧i < t.hid.length)
structure Go3 (s t:PS):Prop where
 v:s.vars.length≤t.vars.length
 h:s.hid.length≤t.hid.length
 f:s.failed = true→t.failed = true
theorem Go3.trans {s t u:PS} (h:Go3 s t) (h':Go3 t u):Go3 s u:=⟨Nat.le_trans h.v h'.v,Nat.le_trans h.h h'.h,fun e=>h'.f (h.f e)⟩
theorem TeL.up {s t:PS} {k i:Nat} (h:TeL s k i) (hg:Go3 s t):TeL t k i:=by
 have h1:=hg.v
 have h2:=hg.h
 rcases h with h | h | h | h
 ·exact Or.inl (hg.f h)
 ·exact Or.inr (Or.inl h)
 ·exact Or.inr (Or.inr (Or.inl (by omega)))
 ·exact Or.inr (Or.inr (Or.inr (by omega)))
section
variable {ws:List ByteArray} {s:PS}
theorem teS_g:Go3 s (teS ws s):=⟨teS_mo.2.1,teS_mo.2.2,par_te.bad s⟩
theorem exS_g {k:ByteArray} (hk:k.toList≠[]):Go3 s (exS ws k s):=⟨(exS_mo k).2.1,(exS_mo k).2.2,(par_ex hk).bad s⟩
theorem relS_mo:Mo s (relS ws s):=by
 unfold relS
 split
 ·exact adv_mo
 ·split
  ·exact adv_mo
  ·exact exS_mo _
theorem relS_g:Go3 s (relS ws s):=⟨relS_mo.2.1,relS_mo.2.2,par_rel.bad s⟩
theorem te_l:TeL (teS ws s) (teK ws s) (teI ws s):=by
 unfold teS teK teI
 split
 ·exact Or.inr (Or.inr (Or.inr ⟨rfl,(put_len _ _).2⟩))
 ·unfold valS valK valI
  split
  ·exact Or.inr (Or.inl ⟨rfl,rfl⟩)
  ·unfold vaS vaI
   split
   ·exact Or.inr (Or.inr (Or.inl ⟨rfl,(put_len _ _).2⟩))
   ·exact Or.inl rfl
def AtL (t:PS) (a:Atm):Prop:=TeL t a.lk a.li∧TeL t a.rk a.ri∧a.k≤4
theorem AtL.up {t u:PS} {a:Atm} (h:AtL t a) (hg:Go3 t u):AtL u a:=⟨h.1.up hg,h.2.1.up hg,h.2.2⟩
theorem liS_mo:Mo s (liS ws s):=by
 have h1:Mo s (liS1 ws s):=exS_mo _
 have h2:Mo (liS1 ws s) (liS2 ws s):=teS_mo.trans (exS_mo _)
 have h3:Mo (liS2 ws s) (liS ws s):=teS_mo.trans (exS_mo _)
 exact (h1.trans h2).trans h3
theorem atS_mo:Mo s (atS ws s):=by
 unfold atS
 split
 ·exact adv_mo
 ·split
  ·exact adv_mo.trans liS_mo
  ·exact (teS_mo.trans relS_mo).trans teS_mo
theorem atS_g:Go3 s (atS ws s):=⟨atS_mo.2.1,atS_mo.2.2,par_atom.bad s⟩
theorem li_g2:Go3 (teS ws (liS2 ws s)) (liS ws s):=by unfold liS;exact exS_g kClose_n
theorem li_g1:Go3 (teS ws (liS1 ws s)) (liS ws s):=by
 have h:Go3 (teS ws (liS1 ws s)) (liS2 ws s):=by unfold liS2;exact exS_g kComma_n
 exact (h.trans teS_g).trans li_g2
theorem li_l:AtL (liS ws s) (liA ws s):=⟨te_l.up li_g1,te_l.up li_g2,Nat.le_refl 4⟩
theorem at_l:AtL (atS ws s) (atA ws s):=by
 unfold atS atA
 split
 ·exact ⟨Or.inr (Or.inl ⟨rfl,rfl⟩),Or.inr (Or.inl ⟨rfl,rfl⟩),by decide⟩
 ·split
  ·exact li_l
  ·refine ⟨(te_l (ws:=ws) (s:=s)).up (relS_g.trans teS_g),te_l,?_⟩
   show relK ws (teS ws s)≤4
   unfold relK
   split
   ·decide
   ·split <;> decide
theorem foG_l:∀ (n:Nat) (s:PS),Go3 s (foG ws n s).2∧∀ a∈(foG ws n s).1,AtL (foG ws n s).2 a
 | 0,s=>⟨⟨Nat.le_refl _,Nat.le_refl _,id⟩,fun a ha=>by simp [foG] at ha⟩
 | n + 1,s=>by
  unfold foG
  split
  ·obtain ⟨h1,h2⟩:=foG_l n (atS ws s.adv)
   have h3:Go3 s.adv (atS ws s.adv):=atS_g
   refine ⟨⟨Nat.le_trans h3.v h1.v,Nat.le_trans h3.h h1.h,fun e=>h1.f (h3.f e)⟩,fun a ha=>?_⟩
   rcases List.mem_cons.1 ha with rfl | ha
   ·exact at_l.up h1
   ·exact h2 a ha
  ·exact ⟨⟨Nat.le_refl _,Nat.le_refl _,id⟩,fun a ha=>by simp at ha⟩
theorem fo_l:∀ a∈foA ws s,AtL (foS ws s) a:=by
 obtain ⟨h1,h2⟩:=foG_l (ws:=ws) (ws.length + 1) (atS ws s)
 intro a ha
 rcases List.mem_cons.1 ha with rfl | ha
 ·exact at_l.up h1
 ·exact h2 a ha
end
end Go.Proofs.YtciihepbeacppaaGreat
