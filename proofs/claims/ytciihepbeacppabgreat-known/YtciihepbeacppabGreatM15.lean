import Derived.Test.YtciihepbeacppabGreatM14
import Derived.Test.YtciihepbeacppabGreatM00
namespace Go.Proofs.YtciihepbeacppabGreat
open Go.RowKit
set_option linter.unusedVariables false
def swP (p : Pr) : Pr:=if p.r < p.l then ⟨p.k,p.r,p.l⟩ else p
def orF (f : CF) : CF:=⟨f.cl,srL (f.ap.map swP),srL f.ow⟩
def tdF (f : CF) : CF:=orF (rnF (fgF f))
structure FoOk (f : CF) : Prop where
 c5 : f.cl.length = 5
 cl : ∀ c ∈ clL f,c < 24
 ow : ∀ p ∈ f.ow,p.l < 24 ∧ p.r < 24
 ap : ∀ p ∈ f.ap,p.l < 24 ∧ p.r < 24
 lf : LfN f.ow
 kd : ∀ p ∈ f.ap,p.k = 2
theorem FoOk.owLen {f : CF} (h : FoOk f) : f.ow.length ≤ 24:=by
 have h0 : MsOk (f.ow.map (·.l)):=⟨h.lf,fun c hc=>by obtain ⟨p,hp,rfl⟩:=List.mem_map.1 hc; exact (h.ow p hp).1⟩
 simpa using h0.len
theorem FoOk.fg {f : CF} (h : FoOk f) : FoOk (fgF f):=⟨h.c5,h.cl,h.ow,fun p hp=>h.ap p ((List.mem_filter.1 hp).1),h.lf,fun p hp=>h.kd p ((List.mem_filter.1 hp).1)⟩
theorem fg_live {f : CF} {p : Pr} (hp : p ∈ (fgF f).ap) : p.l ∈ lvL (fgF f) ∧ p.r ∈ lvL (fgF f):=by
 have:=(List.mem_filter.1 hp).2
 unfold fgP at this
 simp only [Bool.and_eq_true,decide_eq_true_eq] at this
 exact this.1
theorem idx_lt {ms : List Nat} (h : MsOk ms) {c : Nat} (hc : c ∈ ms) : ms.idxOf c < 24:=Nat.lt_of_lt_of_le (List.idxOf_lt_length_iff.2 hc) h.len
theorem idx_inj {ms : List Nat} {c d : Nat} (hc : c ∈ ms) (hd : d ∈ ms) (e : ms.idxOf c = ms.idxOf d) : c = d:=by
 have h1:=List.getElem_idxOf (List.idxOf_lt_length_iff.2 hc)
 have h2:=List.getElem_idxOf (List.idxOf_lt_length_iff.2 hd)
 rw [← h1,← h2]
 simp only [e]
theorem clL_map {f : CF} (g : Nat → Nat) (ap ow : List Pr) : clL ⟨(clL f).map g,ap,ow⟩ = (clL f).map g:=rfl
theorem FoOk.rn {f : CF} (h : FoOk f) (hl : ∀ p ∈ f.ap,p.l ∈ lvL f ∧ p.r ∈ lvL f) : FoOk (rnF f):=by
 have hM:=(roL_ok0 h.ow h.cl).1
 have hL:=roL_live h.ow h.cl h.lf
 refine ⟨rfl,?_,?_,?_,?_,?_⟩
 ·intro c hc
  unfold rnF at hc
  rw [clL_map] at hc
  obtain ⟨d,hd,rfl⟩:=List.mem_map.1 hc
  exact idx_lt hM (hL d (List.mem_append_left _ hd))
 ·intro p hp
  obtain ⟨q,hq,rfl⟩:=List.mem_map.1 hp
  have hq1 : q.l ∈ lvL f:=List.mem_append_right _ (List.mem_flatMap.2 ⟨q,hq,by simp⟩)
  have hq2 : q.r ∈ lvL f:=List.mem_append_right _ (List.mem_flatMap.2 ⟨q,hq,by simp⟩)
  exact ⟨idx_lt hM (hL _ hq1),idx_lt hM (hL _ hq2)⟩
 ·intro p hp
  obtain ⟨q,hq,rfl⟩:=List.mem_map.1 hp
  exact ⟨idx_lt hM (hL _ (hl q hq).1),idx_lt hM (hL _ (hl q hq).2)⟩
 ·have h2:=h.lf
  unfold LfN rnF at *
  simp only [List.map_map]
  have e : ((fun x : Pr=>x.l) ∘ nuP (roL f)) = (fun c=>(roL f).idxOf c) ∘ (fun x : Pr=>x.l):=rfl
  rw [e,← List.map_map]
  unfold List.Nodup at h2 ⊢
  rw [List.pairwise_map]
  refine List.Pairwise.imp_of_mem ?_ h2
  intro a b ha hb hab e2
  obtain ⟨p,hp,rfl⟩:=List.mem_map.1 ha
  obtain ⟨q,hq,rfl⟩:=List.mem_map.1 hb
  exact hab (idx_inj (hL _ (List.mem_append_right _ (List.mem_flatMap.2 ⟨p,hp,by simp⟩))) (hL _ (List.mem_append_right _ (List.mem_flatMap.2 ⟨q,hq,by simp⟩))) e2)
 ·intro p hp
  obtain ⟨q,hq,rfl⟩:=List.mem_map.1 hp
  exact h.kd q hq
theorem swP_k (p : Pr) : (swP p).k = p.k:=by unfold swP; split <;> rfl
theorem swP_lt {p : Pr} (h : p.l < 24 ∧ p.r < 24) : (swP p).l < 24 ∧ (swP p).r < 24:=by unfold swP; split; exact ⟨h.2,h.1⟩; exact h
theorem FoOk.or {f : CF} (h : FoOk f) : FoOk (orF f):=by
 refine ⟨h.c5,h.cl,fun p hp=>h.ow p (srL_mem.1 hp),?_,?_,?_⟩
 ·intro p hp
  obtain ⟨q,hq,rfl⟩:=List.mem_map.1 (srL_mem.1 hp)
  exact swP_lt (h.ap q hq)
 ·have:=(srL_perm h.lf).map (·.l)
  exact this.nodup_iff.2 h.lf
 ·intro p hp
  obtain ⟨q,hq,rfl⟩:=List.mem_map.1 (srL_mem.1 hp)
  rw [swP_k]
  exact h.kd q hq
theorem FoOk.td {f : CF} (h : FoOk f) : FoOk (tdF f):=(h.fg.rn (fun _ hp=>fg_live hp)).or
theorem orF_len {f : CF} (h : FoOk f) : (orF f).ap.length ≤ 576:=by
 refine srt_len (srL_srt (K:=2) ?_) (h.or).ap
 intro p hp
 obtain ⟨q,hq,rfl⟩:=List.mem_map.1 hp
 rw [swP_k]
 exact h.kd q hq
theorem tdF_len {f : CF} (h : FoOk f) : (tdF f).ap.length ≤ 576:=orF_len (h.fg.rn (fun _ hp=>fg_live hp))
def rcS (s : List Nat) (p : Pr) : List Nat:=if p.l ∈ s ∧ p.r ∉ s then s ++ [p.r] else s
def rcR (f : CF) (s : List Nat) : List Nat:=f.ow.foldl rcS s
def rcN (f : CF) : Nat → List Nat → List Nat
 | 0,s=>s
 | n + 1,s=>if (rcR f s).length = s.length then s else rcN f n (rcR f s)
def rc0 (f : CF) : List Nat:=[f.cl.getD 1 0,f.cl.getD 2 0,f.cl.getD 3 0,f.cl.getD 4 0].foldl meN []
def rcL (f : CF) : List Nat:=rcN f 25 (rc0 f)
def rcA (f : CF) : List Bool:=(List.range 24).map (fun c=>decide (c ∈ rcL f))
theorem rcS_ok {s : List Nat} {p : Pr} (h : MsOk s) (hp : p.r < 24) : MsOk (rcS s p):=by
 unfold rcS
 split
 ·rename_i hc
  have:=h.me hp
  unfold meN at this
  rwa [if_neg hc.2] at this
 ·exact h
theorem rcS_len (s : List Nat) (p : Pr) : s.length ≤ (rcS s p).length:=by unfold rcS; split <;> simp
theorem rcF_ok : ∀ (l : List Pr) {s : List Nat},MsOk s → (∀ p ∈ l,p.r < 24) → MsOk (l.foldl rcS s) ∧ s.length ≤ (l.foldl rcS s).length
 | [],s,h,_=>⟨h,Nat.le_refl _⟩
 | p :: r,s,h,hl=>by
  obtain ⟨h1,h2⟩:=rcF_ok r (rcS_ok h (hl p (by simp))) (fun q hq=>hl q (by simp [hq]))
  exact ⟨h1,Nat.le_trans (rcS_len s p) h2⟩
theorem rc0_ok {f : CF} (h : ∀ c ∈ clL f,c < 24) : MsOk (rc0 f):=(meF_ok _ (fun c hc=>h c (by unfold clL; simp at hc ⊢; rcases hc with h | h | h | h <;> simp [h])) MsOk.nil).1
def nuC (ms : List Nat) : List Value:=(ms ++ List.replicate (24 - ms.length) 0).map (fun n=>Value.int .i64 (n : Nat)) ++ ((List.range 24).map (fun c=>Value.int .i64 (frN ms c : Nat)) ++ [Value.int .i64 (ms.length : Nat)])
theorem nu_old {ms : List Nat} (h : ms.length ≤ 24) {k : Nat} (hk : k < 24) : (nuC ms)[k]? = some (.int .i64 ((ms.getD k 0 : Nat) : Int)):=by
 unfold nuC
 rw [List.getElem?_append_left (by simp; omega),List.getElem?_map,List.getD_eq_getElem?_getD]
 by_cases hl : k < ms.length
 ·rw [List.getElem?_append_left hl,List.getElem?_eq_getElem hl]; rfl
 ·rw [List.getElem?_append_right (by omega),List.getElem?_replicate,if_pos (by omega),List.getElem?_eq_none (by omega)]; rfl
theorem nu_fresh {ms : List Nat} (h : ms.length ≤ 24) {c : Nat} (hc : c < 24) : (nuC ms)[24 + c]? = some (.int .i64 ((frN ms c : Nat) : Int)):=by
 unfold nuC
 have e : ((ms ++ List.replicate (24 - ms.length) 0).map (fun n=>Value.int .i64 ((n : Nat) : Int))).length = 24:=by simp; omega
 rw [List.getElem?_append_right (by omega),e,Nat.add_sub_cancel_left,List.getElem?_append_left (by simpa using hc),List.getElem?_map,List.getElem?_range hc]
 rfl
theorem nu_count {ms : List Nat} (h : ms.length ≤ 24) : (nuC ms)[48]? = some (.int .i64 ((ms.length : Nat) : Int)):=by
 unfold nuC
 have e : ((ms ++ List.replicate (24 - ms.length) 0).map (fun n=>Value.int .i64 ((n : Nat) : Int))).length = 24:=by simp; omega
 rw [List.getElem?_append_right (by omega),e,List.getElem?_append_right (by simp)]
 simp
theorem nu_len {ms : List Nat} (h : ms.length ≤ 24) : (nuC ms).length = 49:=by unfold nuC; simp; omega
theorem frN_new {ms : List Nat} {c d : Nat} (hc : c ∉ ms) : frN (ms ++ [c]) d = if d = c then ms.length + 1 else frN ms d:=by
 unfold frN
 by_cases hd : d = c
 ·subst hd
  rw [if_pos (by simp),if_pos rfl,List.idxOf_append,if_neg hc]
  simp
 ·rw [if_neg hd]
  by_cases hm : d ∈ ms
  ·rw [if_pos (by simp [hm]),if_pos hm,List.idxOf_append,if_pos hm]
  ·rw [if_neg (by simp [hm,hd]),if_neg hm]
theorem nu_set {ms : List Nat} {c : Nat} (hl : ms.length < 24) (hc : c < 24) (hn : c ∉ ms) : (((nuC ms).set ms.length (.int .i64 (c : Int))).set 48 (.int .i64 ((ms.length + 1 : Nat) : Int))).set (24 + c) (.int .i64 ((ms.length + 1 : Nat) : Int)) = nuC (ms ++ [c]):=by
 refine List.ext_getElem? (fun j=>?_)
 have l1:=nu_len (ms:=ms) (by omega)
 have l2:=nu_len (ms:=ms ++ [c]) (by simp; omega)
 simp only [List.getElem?_set,List.length_set,l1]
 by_cases hj : j < 49
 ·by_cases h1 : j < 24
  ·rw [nu_old (ms:=ms ++ [c]) (by simp; omega) h1,if_neg (by omega),if_neg (by omega)]
   by_cases h2 : ms.length = j
   ·subst h2
    rw [if_pos rfl,if_pos (by omega),List.getD_eq_getElem?_getD,List.getElem?_append_right (Nat.le_refl _)]
    simp
   ·rw [if_neg h2,nu_old (ms:=ms) (by omega) h1]
    have e : ms.getD j 0 = (ms ++ [c]).getD j 0:=by
     rw [List.getD_eq_getElem?_getD,List.getD_eq_getElem?_getD]
     by_cases h3 : j < ms.length
     ·rw [List.getElem?_append_left h3]
     ·rw [List.getElem?_eq_none (by omega),List.getElem?_eq_none (by simp; omega)]
    rw [e]
  ·by_cases h2 : j = 48
   ·subst h2
    rw [nu_count (ms:=ms ++ [c]) (by simp; omega),if_neg (by omega),if_pos rfl,if_pos (by omega)]
    simp
   ·obtain ⟨d,hd⟩ : ∃ d,j = 24 + d:=⟨j - 24,by omega⟩
    subst hd
    rw [nu_fresh (ms:=ms ++ [c]) (by simp; omega) (by omega),frN_new hn]
    by_cases h3 : d = c
    ·subst h3
     rw [if_pos rfl,if_pos (by omega),if_pos rfl]
    ·rw [if_neg (by omega),if_neg (by omega),if_neg (by omega),nu_fresh (ms:=ms) (by omega) (by omega),if_neg h3]
 ·rw [if_neg (by omega),if_neg (by omega),if_neg (by omega),List.getElem?_eq_none (by omega),List.getElem?_eq_none (by omega)]
structure Nu (w : World) (N : Nat) (ms : List Nat) : Prop where
 ob : Ob w 243 49 N (nuC ms)
 ok : MsOk ms
section
variable {w w' : World} {N : Nat} {ms : List Nat}
theorem Nu.of_eq (h : Nu w N ms) (he : w'.heap[N]? = w.heap[N]?) : Nu w' N ms:=⟨h.ob.of_eq he,h.ok⟩
theorem Nu.ltN (h : Nu w N ms) : N < w.heap.size:=(World.ownsRow.lt h.ob N rfl).2
theorem Nu.below (h : Nu w N ms) (hb : Below w.heap.size w w') : Nu w' N ms:=h.of_eq (hb.block N h.ltN)
theorem Nu.old (h : Nu w N ms) {k : Nat} (hk : k < 24) : w.cell? ⟨N,k,none⟩ = some (.int .i64 ((ms.getD k 0 : Nat) : Int)):=(World.ownsRow.cellAt h.ob k (by omega)).trans (nu_old h.ok.len hk)
theorem Nu.fresh (h : Nu w N ms) {c : Nat} (hc : c < 24) : w.cell? ⟨N,24 + c,none⟩ = some (.int .i64 ((frN ms c : Nat) : Int)):=(World.ownsRow.cellAt h.ob (24 + c) (by omega)).trans (nu_fresh h.ok.len hc)
theorem Nu.count (h : Nu w N ms) : w.cell? ⟨N,48,none⟩ = some (.int .i64 ((ms.length : Nat) : Int)):=(World.ownsRow.cellAt h.ob 48 (by omega)).trans (nu_count h.ok.len)
theorem Nu.frz (h : Nu w N ms) (j : Nat) : w.frozen? ⟨N,j,none⟩ = false:=World.ownsRow.frozenAt h.ob j
set_option maxRecDepth 100000 in
set_option maxHeartbeats 4000000 in
theorem meet_any (h : Nu w N ms) {c : Nat} (hc : c < 24) : Calls Tryz.prog 148 #[.pointer (some ⟨N,0,none⟩),.int .i64 c] w fun e w'=>e = .returned (.tuple #[]) ∧ Nu w' N (meN ms c) ∧ Stp [N] w [N] w':=by
 have hfr:=h.fresh hc
 have hct:=h.count
 have hz:=h.frz
 by_cases hm : c ∈ ms
 ·have hpos : 0 < frN ms c:=by unfold frN; rw [if_pos hm]; omega
  obtain ⟨x,hx⟩ : ∃ x,x = frN ms c:=⟨_,rfl⟩
  rw [← hx] at hfr hpos
  have hd : decide ((0 : Int) < (x : Int)) = true:=by simp; omega
  have HE : Hid (meN ms c = ms):=hide (by unfold meN; rw [if_pos hm])
  have H:=hide h
  clear h hx hm hz hct
  go_enter Tryz.func148,Tryz.ntmps148
  go_wp2_with fail
  refine bodyPost_ret (v:=.tuple #[]) (by simp [results,Tryz.f148]) rfl ?_
  exact ⟨rfl,by rw [uh HE]; exact uh H,Stp.refl _ _⟩
 ·have hx : frN ms c = 0:=by unfold frN; rw [if_neg hm]
  rw [hx] at hfr
  have hl : ms.length < 24:=by
   have h1:=(h.ok.me hc).len
   unfold meN at h1
   rw [if_neg hm,List.length_append,List.length_singleton] at h1
   omega
  have o1:=h.ob.stored ms.length (.int .i64 (c : Int))
  have o2:=o1.stored 48 (.int .i64 ((ms.length + 1 : Nat) : Int))
  have o3:=o2.stored (24 + c) (.int .i64 ((ms.length + 1 : Nat) : Int))
  rw [nu_set hl hc hm] at o3
  have c2:=World.ownsRow.cellAt o1 48 (by omega)
  rw [List.getElem?_set,if_neg (by omega),nu_count (by omega)] at c2
  have f2:=World.ownsRow.frozenAt o1 48
  have c3:=World.ownsRow.cellAt o2 48 (by omega)
  rw [List.getElem?_set,if_pos rfl,if_pos (by rw [List.length_set,nu_len (by omega)]; omega)] at c3
  obtain ⟨⟨u4,c4⟩,f4⟩:=o2.some (j:=24 + c) (by omega)
  obtain ⟨⟨u5,c5⟩,f5⟩:=h.ob.some (j:=ms.length) (by omega)
  have HST : Hid (Stp [N] w [N] (((w.setCell ⟨N,ms.length,none⟩ (.int .i64 (c : Int))).setCell ⟨N,48,none⟩ (.int .i64 ((ms.length + 1 : Nat) : Int))).setCell ⟨N,24 + c,none⟩ (.int .i64 ((ms.length + 1 : Nat) : Int)))):=hide ((((Stp.refl [N] w).setCell (p:=⟨N,ms.length,none⟩) (Or.inl (by simp)) _).setCell (p:=⟨N,48,none⟩) (Or.inl (by simp)) _).setCell (p:=⟨N,24 + c,none⟩) (Or.inl (by simp)) _)
  have HN : Hid (Nu (((w.setCell ⟨N,ms.length,none⟩ (.int .i64 (c : Int))).setCell ⟨N,48,none⟩ (.int .i64 ((ms.length + 1 : Nat) : Int))).setCell ⟨N,24 + c,none⟩ (.int .i64 ((ms.length + 1 : Nat) : Int))) N (meN ms c)):=hide (by
   have e : meN ms c = ms ++ [c]:=by unfold meN; rw [if_neg hm]
   have h1:=h.ok.me hc
   rw [e] at h1 ⊢
   exact ⟨o3,h1⟩)
  obtain ⟨n,hn⟩ : ∃ n,n = ms.length:=⟨_,rfl⟩
  rw [← hn] at hct hl c2 f2 c3 c4 f4 c5 f5 HST HN
  rw [show ((n + 1 : Nat) : Int) = (n : Int) + 1 by omega] at c3 c4 f4 HST HN
  have hd : decide ((0 : Int) < 0) = false:=by decide
  clear o1 o2 o3 h hx hm hn hz
  go_enter Tryz.func148,Tryz.ntmps148
  go_wp2_with fail
  go_region
  go_wp2_with fail
  go_region
  go_wp2_with fail
  go_end0
  exact ⟨rfl,(uh HN).of_eq rfl,(uh HST).drew.drew⟩
end
section
variable {w : World} {A N : Nat} {f : CF} {av ov : Value} {ms : List Nat}
set_option maxRecDepth 100000 in
set_option maxHeartbeats 4000000 in
theorem spread_any (hF : IsF w A f av ov) (hN : Nu w N ms) (hd : ∀ k ∈ bsF A av ov,k ≠ N) (hO : ∀ p ∈ f.ow,p.l < 24 ∧ p.r < 24) {k0 : Nat} (hk0 : k0 ≤ 24) : Calls Tryz.prog 149 #[.pointer (some ⟨A,0,none⟩),.pointer (some ⟨N,0,none⟩),.int .i64 k0] w fun e w'=>e = .returned (.tuple #[]) ∧ Nu w' N (spN f 25 k0 ms) ∧ Stp [N] w [N] w':=by
 have HF:=hide hF
 have HD:=hide hd
 have HO:=hide hO
 obtain ⟨R,hR⟩ : ∃ R,R = spN f 25 k0 ms:=⟨_,rfl⟩
 have HI0 : Hid (Nu w N ms ∧ spN f 25 k0 ms = R ∧ Stp [N] w [N] w):=hide ⟨hN,hR.symm,Stp.refl _ _⟩
 rw [← hR]
 clear hF hN hd hO hR
 go_enter Tryz.func149,Tryz.ntmps149
 go_wp2_with fail
 go_loopw [6] (fun i wx=>∃ (k n : Nat) (ml : List Nat),k ≤ 24 ∧ 24 < n + k ∧ i = .int .i64 k ∧ Hid (Nu wx N ml ∧ spN f n k ml = R ∧ Stp [N] w [N] wx)) (fun i _=>25 - (intOf i).toNat)
 case atStart=>exact ⟨k0,25,ms,hk0,by omega,rfl,HI0⟩
 case round =>
  clear HI0
  obtain ⟨k,n,ml,hk,hn,rfl,hI⟩:=hrel
  have hct:=(uh hI).1.count
  have hml:=(uh hI).1.ok.len
  by_cases hlt : k < ml.length
  ·have hd : decide ((k : Int) < (ml.length : Int)) = true:=by simp; omega
   have hol:=(uh hI).1.old (k:=k) (by omega)
   have hk24 : k < 24:=by omega
   obtain ⟨n',rfl⟩ : ∃ n',n = n' + 1:=⟨n - 1,by omega⟩
   have hst : spN f n' (k + 1) (spS f k ml) = R:=by
    have:=(uh hI).2.1
    unfold spN at this
    rwa [if_pos hlt] at this
   have hFr:=(uh HF).of_eq (w':=wr) (fun j hj=>(uh hI).2.2.block j ((uh HF).lt j hj) (by simpa using uh HD j hj))
   have HB:=hide (begins_any (ml.getD k 0) hFr)
   have HST:=hide hst
   have HSS : Hid (spS f k ml = match bgn f.ow (ml.getD k 0) with | some i=>meN ml (f.ow.getD i pr0).r | none=>ml):=hide rfl
   obtain ⟨c,hc⟩ : ∃ c,c = ml.getD k 0:=⟨_,rfl⟩
   rw [← hc] at hol HB HSS
   have HFr:=hide hFr
   have HN:=hide (uh hI).1
   have HP:=hide (uh hI).2.2
   obtain ⟨L,hL⟩ : ∃ L,L = ml.length:=⟨_,rfl⟩
   rw [← hL] at hct hd hlt
   clear hst hFr hc hI hL hml
   go_wp2_with fail
   refine (uh HB).mono ?_
   rintro e w1 ⟨rfl,rfl⟩
   have hg:=opI_ge (bgn f.ow c)
   cases hb : bgn f.ow c with
   | none =>
    rw [hb] at hg HSS
    have HS2 : Hid (spS f k ml = ml):=hide (uh HSS)
    clear HSS
    go_wp2_with fail
    go_roundw
    case rel=>exact ⟨k + 1,n',ml,by omega,by omega,by go_num,hide ⟨uh HN,by have:=uh HST; rw [uh HS2] at this; exact this,uh HP⟩⟩
    case measure=>simp [intOf]; omega
   | some i =>
    rw [hb] at hg HSS
    have HS2 : Hid (spS f k ml = meN ml (f.ow.getD i pr0).r):=hide (uh HSS)
    clear HSS
    obtain ⟨hi,-⟩:=bgn_lt hb
    have c6:=(uh HFr).c6
    obtain ⟨g,cap,hgv,-,-⟩:=own_formP (uh HFr).ow hi
    subst hgv
    obtain ⟨x0,x1,x2⟩:=own_cells (uh HFr).ow hi
    have hpr:=(uh HO (f.ow.getD i pr0) (mem_getD hi)).2
    obtain ⟨p,hp⟩ : ∃ p,p = f.ow.getD i pr0:=⟨_,rfl⟩
    rw [← hp] at x0 x1 x2 hpr HS2
    have HM:=hide (meet_any (uh HN) hpr)
    rw [show opI (some i) = (i : Int) from rfl] at hg ⊢
    have i1 : (0 : Int) ≤ (i : Int):=by omega
    have i2 : (i : Int) < (f.ow.length : Int):=by omega
    clear hp hb
    go_wp2_with fail
    refine (uh HM).mono ?_
    rintro e w2 ⟨rfl,hN2,hs2⟩
    have HN2:=hide hN2
    have HP2:=hide ((uh HP).trans hs2)
    clear hN2 hs2
    go_wp2_with fail
    go_roundw
    case rel=>exact ⟨k + 1,n',_,by omega,by omega,by go_num,hide ⟨uh HN2,by have:=uh HST; rw [uh HS2] at this; exact this,uh HP2⟩⟩
    case measure=>simp [intOf]; omega
  ·have hd : decide ((k : Int) < (ml.length : Int)) = false:=by simp; omega
   have HE : Hid (ml = R):=hide (by
    have:=(uh hI).2.1
    cases n with
    | zero=>exact this
    | succ n=>unfold spN at this; rwa [if_neg hlt] at this)
   go_wp2_with fail
   go_end0
   exact ⟨rfl,by rw [← uh HE]; exact (uh hI).1,(uh hI).2.2⟩
end
section
variable {w : World} {N : Nat} {v : Value} {l : List Pr} {ms : List Nat}
set_option maxRecDepth 100000 in
set_option maxHeartbeats 4000000 in
theorem apply_any (h : w.ownsRow 0 103 3 v l.length (prCells l)) (hN : Nu w N ms) (hv : v.ownBlock ≠ some N) (hm : ∀ p ∈ l,p.l ∈ ms ∧ p.r ∈ ms) (hl : l.length ≤ 100000) :
  Calls Tryz.prog 150 #[.pointer (some ⟨N,0,none⟩),v] w fun e w'=>e = .returned (.tuple #[]) ∧ w'.ownsRow 0 103 3 v l.length (prCells (l.map (nuP ms))) ∧ Stp v.ownBlock.toList w v.ownBlock.toList w':=by
 obtain ⟨va,vc,hv',hvn,hvm⟩:=own_slc h
 subst hv'
 have HR0 : Hid (w.ownsRow 0 103 3 (.slice va l.length vc) l.length (prCells (mapK (nuP ms) l 0)) ∧ Stp (Value.slice va l.length vc).ownBlock.toList w (Value.slice va l.length vc).ownBlock.toList w):=hide ⟨by simpa [mapK] using h,Stp.refl _ _⟩
 have HN:=hide hN
 have HV:=hide hv
 have HM:=hide hm
 clear h hN hv hm
 go_enter Tryz.func150,Tryz.ntmps150
 go_wp2_with fail
 go_loopw [4] (fun i wx=>∃ (k : Nat),k ≤ l.length ∧ i = .int .i64 k ∧ Hid (wx.ownsRow 0 103 3 (.slice va l.length vc) l.length (prCells (mapK (nuP ms) l k)) ∧ Stp (Value.slice va l.length vc).ownBlock.toList w (Value.slice va l.length vc).ownBlock.toList wx)) (fun i _=>l.length - (intOf i).toNat)
 case atStart=>exact ⟨0,Nat.zero_le _,rfl,HR0⟩
 case round =>
  clear HR0
  obtain ⟨k,hk,rfl,hI⟩:=hrel
  by_cases hlt : k < l.length
  ·have hd : decide ((k : Int) < (l.length : Int)) = true:=by simp; omega
   obtain ⟨g,cap,hgv,-,-,-⟩:=own_pos (uh hI).1 (by omega)
   simp only [Value.slice.injEq,true_and] at hgv
   obtain ⟨rfl,rfl⟩:=hgv
   have hgN : g ≠ N:=fun e=>uh HV (by rw [e]; rfl)
   have hNr : Nu wr N ms:=(uh HN).of_eq ((uh hI).2.block N (uh HN).ltN (by simpa [Value.ownBlock] using fun e=>hgN e.symm))
   have hK:=mapK_get (g:=nuP ms) hlt
   have hr:=(uh hI).1
   have hlen:=mapK_len (nuP ms) l k
   have hr' : wr.ownsRow 0 103 3 (.slice (some ⟨g,0,none⟩) (mapK (nuP ms) l k).length vc) (mapK (nuP ms) l k).length (prCells (mapK (nuP ms) l k)):=by rw [hlen]; exact hr
   obtain ⟨-,x1,x2⟩:=own_cells hr' (i:=k) (by omega)
   obtain ⟨hpl,hpr⟩:=uh HM (l.getD k pr0) (mem_getD hlt)
   have hst:=mapK_step (g:=nuP ms) hlt
   rw [hK] at x1 x2
   obtain ⟨p,hp⟩ : ∃ p,p = l.getD k pr0:=⟨_,rfl⟩
   rw [← hp] at x1 x2 hpl hpr hst hK
   have f1:=hr.frozenAt (k * 3 + 1)
   have f2:=hr.frozenAt (k * 3 + 2)
   have q1:=hNr.fresh (hNr.ok.2 p.l hpl)
   have q2:=hNr.fresh (hNr.ok.2 p.r hpr)
   have e1 : frN ms p.l = ms.idxOf p.l + 1:=by unfold frN; rw [if_pos hpl]
   have e2 : frN ms p.r = ms.idxOf p.r + 1:=by unfold frN; rw [if_pos hpr]
   rw [e1] at q1
   rw [e2] at q2
   have b1:=idx_lt hNr.ok hpl
   have b2:=idx_lt hNr.ok hpr
   have b3:=hNr.ok.2 p.l hpl
   have b4:=hNr.ok.2 p.r hpr
   obtain ⟨x,hx⟩ : ∃ x,x = ms.idxOf p.l:=⟨_,rfl⟩
   obtain ⟨y,hy⟩ : ∃ y,y = ms.idxOf p.r:=⟨_,rfl⟩
   rw [← hx] at q1 b1
   rw [← hy] at q2 b2
   rw [show ((x + 1 : Nat) : Int) = (x : Int) + 1 by omega] at q1
   rw [show ((y + 1 : Nat) : Int) = (y : Int) + 1 by omega] at q2
   have i1 : (0 : Int) ≤ (k : Int):=by omega
   have i2 : (k : Int) < (l.length : Int):=by omega
   have s1 : (wr.setCell ⟨g,k * 3 + 1,none⟩ (.int .i64 (x : Int))).ownsRow 0 103 3 (.slice (some ⟨g,0,none⟩) l.length vc) l.length (prCells ((mapK (nuP ms) l k).set k ⟨p.k,x,p.r⟩)):=by
    have:=(hr.stored (k * 3 + 1) (.int .i64 (x : Int))).1
    rw [prCells_set1 (by omega),hK] at this
    exact this
   have s2 : ((wr.setCell ⟨g,k * 3 + 1,none⟩ (.int .i64 (x : Int))).setCell ⟨g,k * 3 + 2,none⟩ (.int .i64 (y : Int))).ownsRow 0 103 3 (.slice (some ⟨g,0,none⟩) l.length vc) l.length (prCells (mapK (nuP ms) l (k + 1))):=by
    have:=(s1.stored (k * 3 + 2) (.int .i64 (y : Int))).1
    rw [prCells_set2 (by simp; omega)] at this
    rw [hst]
    have e : nuP ms p = ⟨p.k,x,y⟩:=by unfold nuP; rw [← hx,← hy]
    rw [e]
    simpa [hlen,hlt] using this
   have y2 : (wr.setCell ⟨g,k * 3 + 1,none⟩ (.int .i64 (x : Int))).cell? ⟨g,k * 3 + 2,none⟩ = some (.int .i64 (p.r : Int)):=by
    rw [World.cell?_setCell_other _ _ _ _ (by simp)]; exact x2
   have z2:=s1.frozenAt (k * 3 + 2)
   have q2' : (wr.setCell ⟨g,k * 3 + 1,none⟩ (.int .i64 (x : Int))).cell? ⟨N,24 + p.r,none⟩ = some (.int .i64 ((y : Int) + 1)):=by
    rw [World.cell?_setCell_other _ _ _ _ (by simp only [ne_eq,Addr.mk.injEq,not_and]; intro e; exact absurd e hgN)]; exact q2
   have HS:=hide s2
   have HST : Hid (Stp (Value.slice (some ⟨g,0,none⟩) l.length vc).ownBlock.toList w (Value.slice (some ⟨g,0,none⟩) l.length vc).ownBlock.toList ((wr.setCell ⟨g,k * 3 + 1,none⟩ (.int .i64 (x : Int))).setCell ⟨g,k * 3 + 2,none⟩ (.int .i64 (y : Int)))):=hide (((uh hI).2.setCell (p:=⟨g,k * 3 + 1,none⟩) (Or.inl (by simp [Value.ownBlock])) _).setCell (p:=⟨g,k * 3 + 2,none⟩) (Or.inl (by simp [Value.ownBlock])) _)
   clear hr hr' hK hlen hp s1 s2 hI hst hNr hpl hpr e1 e2 hx hy hgN
   go_wp2_with fail
   go_region
   go_wp2_with fail
   go_region
   go_wp2_with fail
   go_roundw
   case rel=>exact ⟨k + 1,by omega,by go_num,hide ⟨(uh HS).drew.drew,(uh HST).drew.drew⟩⟩
   case measure=>simp [intOf]; omega
  ·have hd : decide ((k : Int) < (l.length : Int)) = false:=by simp; omega
   have HE : Hid (mapK (nuP ms) l k = l.map (nuP ms)):=hide (mapK_all (by omega))
   go_wp2_with fail
   go_end0
   exact ⟨rfl,by rw [← uh HE]; exact (uh hI).1,(uh hI).2⟩
end
structure Out where
 nx : List CF
 ot : List CF
 nu : Bool
 da : Bool
 fu : Bool
def out0 : Out:=⟨[],[],false,false,false⟩
def clT (f : CF) (k i : Nat) : Nat:=if k = 1 then f.cl.getD (1 + i) 0 else f.cl.getD 0 0
def setC (f : CF) (i c : Nat) : CF:={ f with cl:=f.cl.set i c }
def layF (f : CF) (p : Pr) : CF:={ f with ow:=f.ow ++ [p] }
def parF (f : CF) (a b : Nat) : CF:={ f with ap:=f.ap ++ [⟨2,a,b⟩] }
def setO (f : CF) (i : Nat) (p : Pr) : CF:={ f with ow:=f.ow.set i p }
def takF (f : CF) (i : Nat) : CF:={ f with ow:=tkO f.ow i }
def owA (f : CF) (i : Nat) : Pr:=f.ow.getD i pr0
def meF1 (f : CF) (c i : Nat) : CF:=joF f (owA f i).l c
def meF2 (f : CF) (c i : Nat) : CF:=layF (setO f i ⟨(owA f i).k,(owA f i).l,c⟩) ⟨4,c,(owA f i).r⟩
def meF (f : CF) (c i : Nat) : List CF:=(if difB f c (owA f i).l = true then [] else [meF1 f c i]) ++ (if (owA f i).k = 4 then [meF2 f c i] else [])
def fiF1 (f : CF) (i : Nat) : CF:=setO f i ⟨3,(owA f i).l,(owA f i).r⟩
def fiF2 (f : CF) (c i : Nat) : CF:=layF (setO f i ⟨3,c,namF f⟩) ⟨4,namF f,(owA f i).r⟩
def fiI (f : CF) (c i : Nat) : List CF × Bool:=if (owA f i).k = 3 then ([f],false) else if 24 ≤ namF f then ([fiF1 f i],true) else ([fiF1 f i,fiF2 f c i],false)
def fiF (f : CF) (c : Nat) : List CF × Bool:=match bgn f.ow c with | none=>([],false) | some i=>fiI f c i
def fiA (r : List CF × Bool) (g : CF) (c : Nat) : List CF × Bool:=(r.1 ++ (fiF g c).1,r.2 || (fiF g c).2)
def opG (f : CF) (v i : Nat) (r : List CF × Bool) : List CF × Bool:=(meF f (f.cl.getD (1 + v) 0) i).foldl (fun r g=>fiA r g (g.cl.getD (1 + v) 0)) r
def opF (f : CF) (v : Nat) : List CF × Bool × Bool × Bool :=
 if f.cl.getD (1 + v) 0 = f.cl.getD 0 0 then ([],true,false,false)
 else if (bgn f.ow (f.cl.getD (1 + v) 0)).isSome = true then ((fiF f (f.cl.getD (1 + v) 0)).1,false,false,(fiF f (f.cl.getD (1 + v) 0)).2)
 else
  let r:=(List.range f.ow.length).foldl (fun r i=>opG f v i r) ([],false)
  (r.1,!difB f (f.cl.getD (1 + v) 0) (f.cl.getD 0 0),true,r.2)
def bgI (f : CF) (c : Nat) : Nat:=(bgn f.ow c).getD 0
def folG (g : CF) (n : Nd) : CF:=setC g (1 + n.v) (owA g (bgI g (g.cl.getD (1 + n.ai) 0))).r
def liG (g : CF) (n : Nd) : CF:=let i:=bgI g (g.cl.getD (1 + n.v) 0); setO g i ⟨(owA g i).k,(owA g i).l,clT g n.ak n.ai⟩
def frG (g : CF) (v : Nat) : CF :=
 let c:=g.cl.getD (1 + v) 0
 let t:=takF g (bgI g c)
 t.ow.foldl (fun h p=>parF h c p.l) (parF t c (t.cl.getD 0 0))
def crG (f : CF) (v : Nat) : CF:=setC (layF f ⟨3,namF f,f.cl.getD 0 0⟩) (1 + v) (namF f)
def ofOpen (r : List CF × Bool × Bool × Bool) (g : CF → CF) : Out:=⟨r.1.map (fun x=>tdF (g x)),[],r.2.1,r.2.2.1,r.2.2.2⟩
def cmO (f : CF) (n : Nd) : List CF × List CF :=
 let a:=f.cl.getD (1 + n.v) 0
 let b:=clT f n.ak n.ai
 (if difB f a b = true then [] else [tdF (joF f a b)],if a = b then [] else [tdF (parF f a b)])
def efO (n : Nd) (f : CF) : Out :=
 if n.op = 0 then out0
 else if n.op = 1 then ⟨[tdF (setC f (1 + n.v) (clT f n.ak n.ai))],[],false,false,false⟩
 else if n.op = 2 then ofOpen (opF f n.ai) (fun g=>folG g n)
 else if n.op = 3 then ofOpen (opF f n.v) (fun g=>liG g n)
 else if n.op = 4 then (if 24 ≤ namF f then ⟨[],[],false,false,true⟩ else ⟨[tdF (crG f n.v)],[],false,false,false⟩)
 else if n.op = 5 then ofOpen (opF f n.v) (fun g=>frG g n.v)
 else if n.op = 7 then ⟨[tdF f],[tdF f],false,false,false⟩
 else if n.op = 8 then ⟨(cmO f n).1,(cmO f n).2,false,false,false⟩
 else if n.op = 9 then ⟨(cmO f n).2,(cmO f n).1,false,false,false⟩
 else ⟨[tdF f],[],false,false,false⟩
theorem clL_get {f : CF} {i : Nat} (hi : i < 5) : f.cl.getD i 0 ∈ clL f:=by
 have : i = 0 ∨ i = 1 ∨ i = 2 ∨ i = 3 ∨ i = 4:=by omega
 rcases this with rfl | rfl | rfl | rfl | rfl <;> simp [clL]
theorem clL_iff {f : CF} (h5 : f.cl.length = 5) : clL f = f.cl:=by
 match hc : f.cl,h5 with
 | [a,b,c,d,e],_=>simp [clL,hc]
theorem FoOk.mk' {f : CF} (c5 : f.cl.length = 5) (cl : ∀ c ∈ f.cl,c < 24) (ow : ∀ p ∈ f.ow,p.l < 24 ∧ p.r < 24) (ap : ∀ p ∈ f.ap,p.l < 24 ∧ p.r < 24) (lf : LfN f.ow) (kd : ∀ p ∈ f.ap,p.k = 2) : FoOk f:=⟨c5,by rw [clL_iff c5]; exact cl,ow,ap,lf,kd⟩
theorem FoOk.cl' {f : CF} (h : FoOk f) : ∀ c ∈ f.cl,c < 24:=by rw [← clL_iff h.c5]; exact h.cl
theorem FoOk.get {f : CF} (h : FoOk f) (i : Nat) : f.cl.getD i 0 < 24:=by
 by_cases hi : i < 5
 ·exact h.cl _ (clL_get hi)
 ·rw [List.getD_eq_getElem?_getD,List.getElem?_eq_none (by have:=h.c5; omega)]; decide
theorem FoOk.cT {f : CF} (h : FoOk f) (k i : Nat) : clT f k i < 24:=by unfold clT; split <;> exact h.get _
theorem FoOk.oA {f : CF} (h : FoOk f) (i : Nat) : (owA f i).l < 24 ∧ (owA f i).r < 24:=by
 unfold owA
 by_cases hi : i < f.ow.length
 ·exact h.ow _ (mem_getD hi)
 ·rw [List.getD_eq_getElem?_getD,List.getElem?_eq_none (by omega)]; decide
theorem FoOk.sC {f : CF} (h : FoOk f) (i : Nat) {c : Nat} (hc : c < 24) : FoOk (setC f i c):=by
 refine FoOk.mk' ?_ ?_ h.ow h.ap h.lf h.kd
 ·simpa [setC] using h.c5
 ·intro d hd
  rcases List.mem_or_eq_of_mem_set hd with hd | rfl
  ·exact h.cl' d hd
  ·exact hc
theorem FoOk.ly {f : CF} (h : FoOk f) {p : Pr} (h1 : p.l < 24) (h2 : p.r < 24) (hn : ∀ q ∈ f.ow,q.l ≠ p.l) : FoOk (layF f p):=by
 refine FoOk.mk' h.c5 h.cl' ?_ h.ap ?_ h.kd
 ·intro q hq
  rcases List.mem_append.1 hq with hq | hq
  ·exact h.ow q hq
  ·rw [List.mem_singleton] at hq; subst hq; exact ⟨h1,h2⟩
 ·have hl:=h.lf
  unfold LfN at hl ⊢
  show ((f.ow ++ [p]).map (·.l)).Nodup
  rw [List.map_append,List.nodup_append]
  refine ⟨hl,by simp,?_⟩
  intro a ha b hb e
  obtain ⟨q,hq,rfl⟩:=List.mem_map.1 ha
  simp only [List.map_cons,List.map_nil,List.mem_singleton] at hb
  exact hn q hq (e.trans hb)
theorem FoOk.pa {f : CF} (h : FoOk f) {a b : Nat} (h1 : a < 24) (h2 : b < 24) : FoOk (parF f a b):=by
 refine FoOk.mk' h.c5 h.cl' h.ow ?_ h.lf ?_
 ·intro q hq
  rcases List.mem_append.1 hq with hq | hq
  ·exact h.ap q hq
  ·rw [List.mem_singleton] at hq; subst hq; exact ⟨h1,h2⟩
 ·intro q hq
  rcases List.mem_append.1 hq with hq | hq
  ·exact h.kd q hq
  ·rw [List.mem_singleton] at hq; subst hq; rfl
theorem mapl_set {l : List Pr} {i : Nat} {p : Pr} (hp : i < l.length → p.l = (l.getD i pr0).l) : (l.set i p).map (·.l) = l.map (·.l):=by
 rw [List.map_set]
 by_cases hi : i < l.length
 ·rw [hp hi,getD_eq hi]
  conv=>rhs; rw [← @List.set_getElem_self _ (l.map (·.l)) i (by simpa using hi)]
  simp
 ·rw [List.set_eq_of_length_le (by simp; omega)]
theorem FoOk.sO {f : CF} (h : FoOk f) {i : Nat} {p : Pr} (hl : i < f.ow.length → p.l = (f.ow.getD i pr0).l) (h2 : p.r < 24) (h1 : p.l < 24) : FoOk (setO f i p):=by
 refine FoOk.mk' h.c5 h.cl' ?_ h.ap ?_ h.kd
 ·intro q hq
  rcases List.mem_or_eq_of_mem_set hq with hq | rfl
  ·exact h.ow q hq
  ·exact ⟨h1,h2⟩
 ·have:=h.lf
  unfold LfN at this ⊢
  show ((f.ow.set i p).map (·.l)).Nodup
  rw [mapl_set hl]
  exact this
theorem tkO_sub (l : List Pr) (i : Nat) : (tkO l i).Sublist l:=by
 have e : l = (List.range l.length).map (fun j=>l.getD j pr0):=by
  refine List.ext_getElem (by simp) (fun j h1 h2=>?_)
  rw [List.getElem_map,List.getElem_range,getD_eq h1]
 unfold tkO tkK
 conv=>rhs; rw [e]
 exact List.filter_sublist.map _
theorem FoOk.tk {f : CF} (h : FoOk f) (i : Nat) : FoOk (takF f i):=FoOk.mk' h.c5 h.cl' (fun p hp=>h.ow p ((tkO_sub f.ow i).subset hp)) h.ap (h.lf.sublist ((tkO_sub f.ow i).map _)) h.kd
theorem rnN_lt {k g c : Nat} (h1 : k < 24) (h2 : c < 24) : rnN k g c < 24:=by unfold rnN; split <;> assumption
theorem FoOk.jo {f : CF} (h : FoOk f) {a b : Nat} (ha : a < 24) (hne : a = b ∨ (∀ p ∈ f.ow,p.l ≠ a) ∨ ∀ p ∈ f.ow,p.l ≠ b) : FoOk (joF f a b):=by
 refine FoOk.mk' ?_ ?_ ?_ ?_ ?_ ?_
 ·show (f.cl.map _).length = 5
  simpa using h.c5
 ·intro c hc
  obtain ⟨d,hd,rfl⟩:=List.mem_map.1 hc
  exact rnN_lt ha (h.cl' d hd)
 ·intro p hp
  obtain ⟨q,hq,rfl⟩:=List.mem_map.1 hp
  exact ⟨rnN_lt ha (h.ow q hq).1,rnN_lt ha (h.ow q hq).2⟩
 ·intro p hp
  obtain ⟨q,hq,rfl⟩:=List.mem_map.1 hp
  exact ⟨rnN_lt ha (h.ap q hq).1,rnN_lt ha (h.ap q hq).2⟩
 ·have hl:=h.lf
  unfold LfN at hl ⊢
  show ((f.ow.map (rnP a b)).map (·.l)).Nodup
  have e : ((fun x : Pr=>x.l) ∘ rnP a b) = (rnN a b) ∘ (fun x : Pr=>x.l):=rfl
  rw [List.map_map,e,← List.map_map]
  unfold List.Nodup at hl ⊢
  rw [List.pairwise_map]
  refine List.Pairwise.imp_of_mem ?_ hl
  intro x y hx hy hxy e2
  obtain ⟨p,hp,rfl⟩:=List.mem_map.1 hx
  obtain ⟨q,hq,rfl⟩:=List.mem_map.1 hy
  unfold rnN at e2
  rcases hne with rfl | hne | hne
  ·split at e2 <;> split at e2 <;> omega
  ·have:=hne p hp
   have:=hne q hq
   split at e2 <;> split at e2 <;> omega
  ·rw [if_neg (hne p hp),if_neg (hne q hq)] at e2
   exact hxy e2
 ·intro p hp
  obtain ⟨q,hq,rfl⟩:=List.mem_map.1 hp
  exact h.kd q hq
theorem bgn_no : ∀ {l : List Pr} {c : Nat},bgn l c = none → ∀ p ∈ l,p.l ≠ c
 | [],_,_,p,hp=>by simp at hp
 | q :: r,c,h,p,hp=>by
  unfold bgn at h
  split at h
  ·cases h
  ·rename_i hq
   rcases List.mem_cons.1 hp with rfl | hp
   ·exact hq
   ·exact bgn_no (Option.map_eq_none_iff.1 h) p hp
theorem dif_apart {f : CF} {a b : Nat} (h : difB f a b = false) : a = b ∨ (∀ p ∈ f.ow,p.l ≠ a) ∨ ∀ p ∈ f.ow,p.l ≠ b:=by
 unfold difB at h
 split at h
 ·exact Or.inl (by assumption)
 ·rw [Bool.or_eq_false_iff] at h
  have h2:=h.2
  unfold clrB at h2
  right
  cases ha : bgn f.ow a with
  | none=>exact Or.inl (bgn_no ha)
  | some i =>
   cases hb : bgn f.ow b with
   | none=>exact Or.inr (bgn_no hb)
   | some j=>rw [ha,hb] at h2; simp at h2
theorem mxP_ge : ∀ (l : List Pr) (m : Nat),m ≤ mxP m l ∧ ∀ p ∈ l,p.l ≤ mxP m l ∧ p.r ≤ mxP m l
 | [],m=>⟨Nat.le_refl _,fun p hp=>by simp at hp⟩
 | q :: r,m=>by
  obtain ⟨h1,h2⟩:=mxP_ge r (max (max m q.l) q.r)
  have e : mxP m (q :: r) = mxP (max (max m q.l) q.r) r:=rfl
  rw [e]
  refine ⟨by omega,fun p hp=>?_⟩
  rcases List.mem_cons.1 hp with rfl | hp
  ·exact ⟨by omega,by omega⟩
  ·exact h2 p hp
theorem nam_ow {f : CF} : ∀ q ∈ f.ow,q.l ≠ namF f:=by
 intro q hq
 unfold namF
 have h1:=((mxP_ge f.ow (mxC f)).2 q hq).1
 have h2:=(mxP_ge f.ap (mxP (mxC f) f.ow)).1
 omega
theorem owA_mem {f : CF} {i : Nat} (h : i < f.ow.length) : owA f i ∈ f.ow:=mem_getD h
theorem FoOk.m1 {f : CF} (h : FoOk f) {c i : Nat} (hd : difB f c (owA f i).l = false) : FoOk (meF1 f c i) :=
 h.jo (h.oA i).1 (by rcases dif_apart hd with e | e | e; exact Or.inl e.symm; exact Or.inr (Or.inr e); exact Or.inr (Or.inl e))
theorem setO_left {f : CF} {i : Nat} {p q : Pr} (hl : i < f.ow.length → p.l = (f.ow.getD i pr0).l) (hq : q ∈ (setO f i p).ow) : ∃ q' ∈ f.ow,q'.l = q.l:=by
 have e:=mapl_set hl
 have h1 : q.l ∈ (f.ow.set i p).map (·.l):=List.mem_map_of_mem (f:=(·.l)) hq
 rw [e] at h1
 obtain ⟨q',h2,h3⟩:=List.mem_map.1 h1
 exact ⟨q',h2,h3⟩
theorem FoOk.m2 {f : CF} (h : FoOk f) {c i : Nat} (hc : c < 24) (hb : bgn f.ow c = none) : FoOk (meF2 f c i):=by
 have h1 : FoOk (setO f i ⟨(owA f i).k,(owA f i).l,c⟩):=h.sO (fun _=>rfl) hc (h.oA i).1
 refine h1.ly hc (h.oA i).2 (fun q hq e=>?_)
 obtain ⟨q',h2,h3⟩:=setO_left (p:=⟨(owA f i).k,(owA f i).l,c⟩) (fun _=>rfl) hq
 exact bgn_no hb q' h2 (h3.trans e)
theorem FoOk.f1 {f : CF} (h : FoOk f) (i : Nat) : FoOk (fiF1 f i):=h.sO (fun _=>rfl) (h.oA i).2 (h.oA i).1
theorem FoOk.f2 {f : CF} (h : FoOk f) {c i : Nat} (hi : bgn f.ow c = some i) (hn : namF f < 24) : FoOk (fiF2 f c i):=by
 obtain ⟨g1,g2⟩:=bgn_lt hi
 have hcl : c < 24:=by rw [← g2]; exact (h.oA i).1
 have h1 : FoOk (setO f i ⟨3,c,namF f⟩):=h.sO (fun _=>g2.symm) hn hcl
 refine h1.ly hn (h.oA i).2 (fun q hq e=>?_)
 obtain ⟨q',h2,h3⟩:=setO_left (fun _=>g2.symm) hq
 exact nam_ow q' h2 (h3.trans e)
theorem bgn_has {l : List Pr} {c : Nat} : (bgn l c).isSome = true ↔ ∃ p ∈ l,p.l = c:=by
 constructor
 ·intro h
  obtain ⟨i,hi⟩:=Option.isSome_iff_exists.1 h
  exact ⟨_,bgn_mem hi,(bgn_lt hi).2⟩
 ·rintro ⟨p,hp,rfl⟩
  cases h : bgn l p.l with
  | none=>exact absurd rfl (bgn_no h p hp)
  | some i=>rfl
structure OpOk (N v : Nat) (g : CF) : Prop where
 ok : FoOk g
 ln : g.ap.length ≤ N
 bg : (bgn g.ow (g.cl.getD (1 + v) 0)).isSome = true
theorem setO_has {f : CF} {i : Nat} {p : Pr} {c : Nat} (hl : i < f.ow.length → p.l = (f.ow.getD i pr0).l) (h : (bgn f.ow c).isSome = true) : (bgn (setO f i p).ow c).isSome = true:=by
 rw [bgn_has] at h ⊢
 obtain ⟨q,hq,rfl⟩:=h
 have e:=mapl_set hl
 have h1 : q.l ∈ f.ow.map (·.l):=List.mem_map_of_mem (f:=(·.l)) hq
 rw [← e] at h1
 obtain ⟨q',h2,h3⟩:=List.mem_map.1 h1
 exact ⟨q',h2,h3⟩
theorem fiF_ok {N v : Nat} {g : CF} (h : OpOk N v g) : ∀ x ∈ (fiF g (g.cl.getD (1 + v) 0)).1,OpOk N v x:=by
 intro x hx
 unfold fiF at hx
 cases hb : bgn g.ow (g.cl.getD (1 + v) 0) with
 | none=>rw [hb] at hx; simp at hx
 | some i =>
  rw [hb] at hx
  simp only [fiI] at hx
  have h1 : OpOk N v (fiF1 g i):=⟨h.ok.f1 i,h.ln,setO_has (p:=⟨3,(owA g i).l,(owA g i).r⟩) (fun _=>rfl) h.bg⟩
  split at hx
  ·simp only [List.mem_singleton] at hx
   subst hx
   exact h
  ·split at hx
   ·simp only [List.mem_singleton] at hx
    subst hx
    exact h1
   ·rename_i hn
    simp only [List.mem_cons,List.not_mem_nil,or_false] at hx
    rcases hx with rfl | rfl
    ·exact h1
    ·refine ⟨h.ok.f2 hb (by omega),h.ln,?_⟩
     have:=setO_has (f:=g) (i:=i) (p:=⟨3,g.cl.getD (1 + v) 0,namF g⟩) (fun _=>(bgn_lt hb).2.symm) h.bg
     rw [bgn_has] at this ⊢
     obtain ⟨p,hp,e⟩:=this
     exact ⟨p,List.mem_append_left _ hp,e⟩
theorem meF_ok' {N v : Nat} {f : CF} (hv : v < 4) (h : FoOk f) (hl : f.ap.length ≤ N) (hb : bgn f.ow (f.cl.getD (1 + v) 0) = none) {i : Nat} (hi : i < f.ow.length) : ∀ x ∈ meF f (f.cl.getD (1 + v) 0) i,OpOk N v x:=by
 intro x hx
 unfold meF at hx
 rcases List.mem_append.1 hx with hx | hx
 ·split at hx
  ·simp at hx
  ·rename_i hd
   simp only [List.mem_singleton] at hx
   subst hx
   refine ⟨h.m1 (by simpa using hd),by simpa [meF1,joF] using hl,?_⟩
   have e : (meF1 f (f.cl.getD (1 + v) 0) i).cl.getD (1 + v) 0 = (owA f i).l:=by
    show (f.cl.map _).getD (1 + v) 0 = _
    have h5:=h.c5
    rw [List.getD_eq_getElem?_getD,List.getElem?_map,List.getElem?_eq_getElem (by omega)]
    simp only [Option.map_some,Option.getD_some]
    unfold rnN
    rw [if_pos]
    rw [List.getD_eq_getElem?_getD,List.getElem?_eq_getElem (by omega)]
    rfl
   rw [e,bgn_has]
   refine ⟨rnP (owA f i).l (f.cl.getD (1 + v) 0) (owA f i),List.mem_map_of_mem (owA_mem hi),?_⟩
   show rnN _ _ _ = _
   unfold rnN
   split <;> rfl
 ·split at hx
  ·simp only [List.mem_singleton] at hx
   subst hx
   refine ⟨h.m2 (h.get _) hb,hl,?_⟩
   rw [bgn_has]
   exact ⟨⟨4,f.cl.getD (1 + v) 0,(owA f i).r⟩,List.mem_append_right _ (by simp),rfl⟩
  ·simp at hx
theorem foldl_all {α β : Type} {P : α → Prop} (g : List α × Bool → β → List α × Bool) : ∀ (l : List β) (r : List α × Bool),(∀ x ∈ r.1,P x) → (∀ b ∈ l,∀ r,(∀ x ∈ r.1,P x) → ∀ x ∈ (g r b).1,P x) → ∀ x ∈ (l.foldl g r).1,P x
 | [],_,hr,_=>hr
 | b :: l,r,hr,hg=>foldl_all g l (g r b) (hg b (by simp) r hr) (fun b' hb'=>hg b' (by simp [hb']))
theorem opF_ok {N v : Nat} {f : CF} (hv : v < 4) (h : FoOk f) (hl : f.ap.length ≤ N) : ∀ x ∈ (opF f v).1,OpOk N v x:=by
 unfold opF
 split
 ·intro x hx; simp at hx
 ·split
  ·rename_i hb
   exact fiF_ok ⟨h,hl,hb⟩
  ·rename_i hb
   have hb' : bgn f.ow (f.cl.getD (1 + v) 0) = none:=by simpa using hb
   refine foldl_all (P:=OpOk N v) _ _ _ (fun x hx=>by simp at hx) ?_
   intro i hi r hr
   rw [List.mem_range] at hi
   refine foldl_all (P:=OpOk N v) _ _ _ hr ?_
   intro g hg r hr x hx
   rcases List.mem_append.1 hx with hx | hx
   ·exact hr x hx
   ·exact fiF_ok (meF_ok' hv h hl hb' hi g hg) x hx
theorem parL_ok : ∀ (l : List Pr) {g : CF} {c : Nat},FoOk g → c < 24 → (∀ p ∈ l,p.l < 24) → FoOk (l.foldl (fun h p=>parF h c p.l) g) ∧ (l.foldl (fun h p=>parF h c p.l) g).ap.length = g.ap.length + l.length
 | [],g,c,h,_,_=>⟨h,rfl⟩
 | p :: r,g,c,h,hc,hl=>by
  obtain ⟨h1,h2⟩:=parL_ok r (h.pa hc (hl p (by simp))) hc (fun q hq=>hl q (by simp [hq]))
  refine ⟨h1,?_⟩
  rw [List.foldl_cons,h2]
  simp [parF]
  omega
theorem frG_ok {N v : Nat} {g : CF} (h : OpOk N v g) : FoOk (frG g v) ∧ (frG g v).ap.length ≤ N + 25:=by
 have h1:=h.ok.tk (bgI g (g.cl.getD (1 + v) 0))
 have h2:=h1.pa (h.ok.get (1 + v)) (h.ok.get 0)
 obtain ⟨g1,g2⟩:=parL_ok (takF g (bgI g (g.cl.getD (1 + v) 0))).ow h2 (h.ok.get (1 + v)) (fun p hp=>(h1.ow p hp).1)
 refine ⟨g1,Nat.le_trans (Nat.le_of_eq g2) ?_⟩
 have hl:=h1.owLen
 have h3:=h.ln
 show ((g.ap ++ [_]).length + _ : Nat) ≤ _
 rw [List.length_append,List.length_singleton]
 omega
theorem folG_ok {N : Nat} {n : Nd} {g : CF} (h : OpOk N n.ai g) : FoOk (folG g n) ∧ (folG g n).ap.length ≤ N:=⟨h.ok.sC _ (h.ok.oA _).2,h.ln⟩
theorem liG_ok {N : Nat} {n : Nd} {g : CF} (h : OpOk N n.v g) : FoOk (liG g n) ∧ (liG g n).ap.length ≤ N:=⟨h.ok.sO (fun _=>rfl) (h.ok.cT _ _) (h.ok.oA _).1,h.ln⟩
theorem crG_ok {f : CF} {v : Nat} (h : FoOk f) (hn : namF f < 24) : FoOk (crG f v):=(h.ly (p:=⟨3,namF f,f.cl.getD 0 0⟩) hn (h.get 0) nam_ow).sC _ hn
structure Td (f : CF) : Prop where
 ok : FoOk f
 ln : f.ap.length ≤ 576
theorem FoOk.tidy {f : CF} (h : FoOk f) : Td (tdF f):=⟨h.td,tdF_len h⟩
theorem ofOpen_td {r : List CF × Bool × Bool × Bool} {g : CF → CF} (h : ∀ x ∈ r.1,FoOk (g x)) : (∀ x ∈ (ofOpen r g).nx,Td x) ∧ ∀ x ∈ (ofOpen r g).ot,Td x:=by
 refine ⟨fun x hx=>?_,fun x hx=>by simp [ofOpen] at hx⟩
 obtain ⟨y,hy,rfl⟩:=List.mem_map.1 hx
 exact (h y hy).tidy
theorem cmO_td {f : CF} (h : FoOk f) (n : Nd) : (∀ x ∈ (cmO f n).1,Td x) ∧ ∀ x ∈ (cmO f n).2,Td x:=by
 constructor
 ·intro x hx
  simp only [cmO] at hx
  split at hx
  ·simp at hx
  ·rename_i hd
   simp only [List.mem_singleton] at hx
   subst hx
   exact (h.jo (h.get _) (dif_apart (by simpa using hd))).tidy
 ·intro x hx
  simp only [cmO] at hx
  split at hx
  ·simp at hx
  ·simp only [List.mem_singleton] at hx
   subst hx
   exact (h.pa (h.get _) (h.cT _ _)).tidy
theorem efO_td {n : Nd} {f : CF} (hv : n.v < 4) (ha : n.ai < 4) (h : Td f) : (∀ x ∈ (efO n f).nx,Td x) ∧ ∀ x ∈ (efO n f).ot,Td x:=by
 have one : ∀ {g : CF},FoOk g → (∀ x ∈ [tdF g],Td x):=fun hg x hx=>by rw [List.mem_singleton] at hx; subst hx; exact hg.tidy
 have no : ∀ x ∈ ([] : List CF),Td x:=fun x hx=>by simp at hx
 unfold efO
 split
 ·exact ⟨no,no⟩
 ·split
  ·exact ⟨one (h.ok.sC _ (h.ok.cT _ _)),no⟩
  ·split
   ·exact ofOpen_td (fun x hx=>(folG_ok (opF_ok ha h.ok h.ln x hx)).1)
   ·split
    ·exact ofOpen_td (fun x hx=>(liG_ok (opF_ok hv h.ok h.ln x hx)).1)
    ·split
     ·split
      ·exact ⟨no,no⟩
      ·exact ⟨one (crG_ok h.ok (by omega)),no⟩
     ·split
      ·exact ofOpen_td (fun x hx=>(frG_ok (opF_ok hv h.ok h.ln x hx)).1)
      ·split
       ·exact ⟨one h.ok,one h.ok⟩
       ·split
        ·exact cmO_td h.ok n
        ·split
         ·exact (cmO_td h.ok n).symm
         ·exact ⟨one h.ok,no⟩
end Go.Proofs.YtciihepbeacppabGreat
