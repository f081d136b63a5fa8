import Derived.Test.YtciihepbeacppaaGreatM14
import Derived.Test.YtciihepbeacppaaGreatM03
import Derived.Test.YtciihepbeacppaaGreatM09
import Derived.Deep.RegionHeld3
namespace Go.Proofs.YtciihepbeacppaaGreat
open Go.RowKit
def srcL (a : Value) (X o : Nat) (u n : Value) : List Value:=[a,.int .i64 0,.int .i64 0,.int .i64 0,.int .i64 0,.int .i64 0,.int .i64 0,.int .i64 0,.int .i64 0,.int .i64 0,.int .i64 0,.int .i64 0,.int .i64 0,.int .i64 0,.int .i64 0,.int .i64 0,.int .i64 0,.int .i64 0,.int .i64 0,.int .i64 0,.int .i64 0,.int .i64 0,.int .i64 0,.int .i64 0,.int .i64 0,.pointer (some ⟨X,o,none⟩),u,n]
theorem srcL_hq (A X o : Nat) (u : Value) (n : Nat) : srcL (ptrA A) X o u (.int .i64 (n : Int)) = hqC A (List.replicate 24 (some 0)) X o u n:=rfl
theorem rep_some (n c : Nat) : ∀ a,(List.replicate n (some (0 : Int))).getD c none = some a → 0 ≤ a:=by
 intro a ha
 rw [List.getD_eq_getElem?_getD,List.getElem?_replicate] at ha
 split at ha
 ·simp at ha; omega
 ·simp at ha
theorem usC_rep (n : Nat) : usC (List.replicate n true) = List.replicate n (.bool false):=by simp [usC]
set_option maxRecDepth 100000 in
set_option maxHeartbeats 4000000 in
theorem holds_any {w : World} {X o : Nat} {pv sv hv : Value} {al : List Atm} {st : List Int} {l : List (Int × Int)}
  (hp : w.ownsRow 0 239 5 pv al.length (atCells al)) (ht : TmOK al) (hal : al.length ≤ 1000) (hb : ∀ a ∈ al,a.lk ≤ 2 ∧ a.rk ≤ 2 ∧ a.li ≤ 100 ∧ a.ri ≤ 100)
  (hst : w.ownsRow 0 3 1 sv st.length (inV st)) (hls : st.length ≤ 4) (hsv : ∀ x ∈ st,0 ≤ x)
  (hc : w.cell? ⟨X,o,none⟩ = some hv) (hr : w.ownsRow 0 231 2 hv l.length (ceC l)) (hs : Srt l) (hll : l.length ≤ 100000) (hv0 : ∀ c ∈ l,0 ≤ c.1 ∧ 0 ≤ c.2) :
  Calls Tryz.prog 97 #[pv,sv,.pointer (some ⟨X,o,none⟩)] w fun e w'=>e = .returned (.bool (hoH al st (fdA l) (adL l) (nxL l))) ∧ Below w.heap.size w w':=by
 obtain ⟨i0,hi0,hz0,hz1,hz2⟩:=info_parts Tryz.infoBoolQ
 have hbx:=below_boxQ w (.cells (srcL (.pointer none) X o (.slice none 0 0) (.int .i64 0)).toArray 234)
 have HOf:=hide (of_any (own_bw hp hbx) ht hal hb)
 have HBX:=hide hbx
 have HBk:=hide (Bk.new w 234 (srcL (.pointer none) X o (.slice none 0 0) (.int .i64 0)))
 have HST:=hide (own_bw hst hbx)
 have HHC:=hide ((hbx.cell (World.block_lt_of_cell? w _ hc)).trans hc)
 have HHR:=hide (own_bw hr hbx)
 have hXl:=World.block_lt_of_cell? w _ hc
 have HRl : Hid (∀ k,hv.ownBlock = some k → k < w.heap.size):=hide (fun k hk=>(hr.lt k hk).2)
 have HSl : Hid (∀ k,sv.ownBlock = some k → k < w.heap.size):=hide (fun k hk=>(hst.lt k hk).2)
 have HRm:=hide (cf_rm ht)
 have HRa:=hide (cf_rmA ht)
 have HCl:=hide (cf_cl ht)
 have HLo:=hide (cf_ow al)
 have HLa : Hid ((cfOf al).ap.length ≤ al.length):=hide (by show (List.map _ _).length ≤ _; rw [List.length_map]; exact List.length_filter_le _ _)
 have HSr:=hide hs
 have HV0:=hide hv0
 have HSV:=hide hsv
 obtain ⟨F,hF⟩ : ∃ F,F = cfOf al:=⟨_,rfl⟩
 have HE : Hid (hoH al st (fdA l) (adL l) (nxL l) = match stH (lnH F st) (List.replicate 24 none) with | none=>false | some val=>if (adL l).length < F.ow.length then false else flH F.ap (fdA l) (adL l) (nxL l) F.ow val (List.replicate (adL l).length true)):=hide (by rw [hF]; rfl)
 rw [← hF] at HOf HRm HRa HCl HLo HLa
 clear hp hst hc hr hs hv0 hsv ht hb hF hbx
 have hsrc : (#[Value.pointer none,Value.int IntKind.i64 0,Value.int IntKind.i64 0,Value.int IntKind.i64 0,Value.int IntKind.i64 0,Value.int IntKind.i64 0,Value.int IntKind.i64 0,Value.int IntKind.i64 0,Value.int IntKind.i64 0,Value.int IntKind.i64 0,Value.int IntKind.i64 0,Value.int IntKind.i64 0,Value.int IntKind.i64 0,Value.int IntKind.i64 0,Value.int IntKind.i64 0,Value.int IntKind.i64 0,Value.int IntKind.i64 0,Value.int IntKind.i64 0,Value.int IntKind.i64 0,Value.int IntKind.i64 0,Value.int IntKind.i64 0,Value.int IntKind.i64 0,Value.int IntKind.i64 0,Value.int IntKind.i64 0,Value.int IntKind.i64 0,Value.pointer (some ⟨X,o,none⟩),Value.slice none 0 0,Value.int IntKind.i64 0] : Array Value) = (srcL (.pointer none) X o (.slice none 0 0) (.int .i64 0)).toArray:=rfl
 have HSRC:=hide hsrc
 clear hsrc
 go_enter Tryz.func97,Tryz.ntmps97
 go_wp2_with fail
 rw [uh HSRC]
 refine (uh HOf).mono ?_
 rintro e w1 ⟨A,fav,fov,rfl,hIF,hAl,hb1⟩
 have hS1 : Stp [w.heap.size] (w.alloc (.cells (srcL (.pointer none) X o (.slice none 0 0) (.int .i64 0)).toArray 234)) [w.heap.size] w1:=Stp.ofBw hb1
 have hBk1:=(uh HBk).below hb1
 have q0:=hBk1.cell 0 rfl
 have z0:=hBk1.frz 0
 have hAq : ∀ k ∈ bsF A fav fov,w.heap.size < k:=fun k hk=>by have:=hAl k hk; simp at this; omega
 have hIF2 : IsF (w1.setCell ⟨w.heap.size,0,none⟩ (.pointer (some ⟨A,0,none⟩))) A F fav fov:=hIF.of_eq (fun k hk=>Below.heap_setCell _ _ _ _ (fun e=>by have:=hAq k hk; simp only at e; omega))
 have hBk2 : Bk (w1.setCell ⟨w.heap.size,0,none⟩ (.pointer (some ⟨A,0,none⟩))) w.heap.size 234 (srcL (ptrA A) X o (.slice none 0 0) (.int .i64 0)):=hBk1.set 0 (.pointer (some ⟨A,0,none⟩))
 have hS2:=hS1.setCell (p:=⟨w.heap.size,0,none⟩) (Or.inl (by simp)) (.pointer (some ⟨A,0,none⟩))
 obtain ⟨w2,hw2⟩ : ∃ w2,w2 = w1.setCell ⟨w.heap.size,0,none⟩ (.pointer (some ⟨A,0,none⟩)):=⟨_,rfl⟩
 rw [← hw2] at hIF2 hBk2 hS2
 have HHc2 : Hid (w2.cell? ⟨X,o,none⟩ = some hv):=hide ((hS2.cell (p:=⟨X,o,none⟩) (by simp; omega) (by simp; omega)).trans (uh HHC))
 have HHr2 : Hid (w2.ownsRow 0 231 2 hv l.length (ceC l)):=hide (own_stp (uh HHR) hS2 (fun k hk=>by have:=uh HRl k hk; simp; omega))
 have HLen:=hide (clen_any (uh HHc2) (uh HHr2))
 have q27:=hBk2.cell 27 rfl
 have z27:=hBk2.frz 27
 have hBk3 : Bk (w2.setCell ⟨w.heap.size,27,none⟩ (.int .i64 (l.length : Int))) w.heap.size 234 (srcL (ptrA A) X o (.slice none 0 0) (.int .i64 (l.length : Int))):=hBk2.set 27 _
 have hS3:=hS2.setCell (p:=⟨w.heap.size,27,none⟩) (Or.inl (by simp)) (.int .i64 (l.length : Int))
 have hIF3 : IsF (w2.setCell ⟨w.heap.size,27,none⟩ (.int .i64 (l.length : Int))) A F fav fov:=hIF2.of_eq (fun k hk=>Below.heap_setCell _ _ _ _ (fun e=>by have:=hAq k hk; simp only at e; omega))
 have HIF3:=hide hIF3
 have HBk3:=hide hBk3
 have HS3:=hide hS3
 have HAq:=hide hAq
 have p27:=hBk3.cell 27 rfl
 have HW2:=hide hw2
 clear hIF hAl hb1 hS1 hBk1 hIF2 hS2 hBk2 hIF3 hBk3 hS3 hAq hw2
 go_wp2_with (first | (go_at_call 145; rw [← uh HW2]; refine (uh HLen).mono ?_; rintro e w2' ⟨rfl,rfl⟩) | (at_make; refine wpList_make_full _ rfl _ _ 200 rfl 0 4 i0 (.bool false) 1 Tryz.underlying200 hi0 hz0 hz1 .i64 .i64 _ _ l.length rfl rfl rfl rfl ?b2 ?b3 ?b4 ?_))
 case b2=>rw [hz2]; omega
 case b3=>unfold maxLen; omega
 case b4=>exact Nat.zero_le _
 intro w4 hown4 hgrow4
 obtain ⟨U,hU⟩ : ∃ U,U = w2'.heap.size:=⟨_,rfl⟩
 rw [← hU] at hown4 ⊢
 have hq2 : w.heap.size < U:=by
  have:=(uh HBk3).lt
  rw [hU]; simpa using this
 have hS4:=(uh HS3).grown hgrow4 (fun k hk=>by cases hk)
 have hBk4:=(uh HBk3).of_eq (hgrow4.block w.heap.size (uh HBk3).lt (by simp))
 have hIF4:=(uh HIF3).of_eq (fun k hk=>hgrow4.block k ((uh HIF3).lt k hk) (by simp))
 have q26:=hBk4.cell 26 rfl
 have z26:=hBk4.frz 26
 have hrow4 : w4.ownsRow 0 4 1 (.slice (some ⟨U,0,none⟩) l.length l.length) l.length (usC (List.replicate l.length true)):=by
  rw [usC_rep]
  simpa [Value.cells,toList_madeCells_one] using hown4
 have hBk5 : Bk (w4.setCell ⟨w.heap.size,26,none⟩ (.slice (some ⟨U,0,none⟩) l.length l.length)) w.heap.size 234 (srcL (ptrA A) X o (.slice (some ⟨U,0,none⟩) l.length l.length) (.int .i64 (l.length : Int))):=hBk4.set 26 _
 have hS5:=hS4.setCell (p:=⟨w.heap.size,26,none⟩) (Or.inl (by simp)) (.slice (some ⟨U,0,none⟩) l.length l.length)
 have hAU : ∀ k ∈ bsF A fav fov,k ≠ U:=fun k hk e=>by
  have:=(uh HIF3).lt k hk
  rw [e,hU] at this
  simp at this
 have hw5 : Hw (w4.setCell ⟨w.heap.size,26,none⟩ (.slice (some ⟨U,0,none⟩) l.length l.length)) ⟨w.heap.size,A,X,o,.slice (some ⟨U,0,none⟩) l.length l.length,hv,fav,fov⟩ F l (List.replicate 24 (some 0)) (List.replicate l.length true):=by
  refine ⟨?_,by simp,?_,?_,?_,?_,?_,uh HSr,?_,?_,?_,by simp,hll,fun c=>rep_some 24 c⟩
  ·rw [List.count_replicate_self,← srcL_hq]; exact hBk5
  ·rw [List.length_replicate]; exact own_setO (p:=⟨w.heap.size,26,none⟩) hrow4 (by simp [Value.ownBlock]; omega) _
  ·simp [Value.ownBlock]; omega
  ·exact hIF4.of_eq (fun k hk=>Below.heap_setCell _ _ _ _ (fun e=>by have:=uh HAq k hk; simp only at e; omega))
  ·exact (hS5.cell (p:=⟨X,o,none⟩) (by simp; omega) (by simp; omega)).trans (uh HHC)
  ·exact own_stp (uh HHR) hS5 (fun k hk=>by have:=uh HRl k hk; simp; omega)
  ·intro k hk hm
   simp only [HL.fp,Value.ownBlock,Option.toList_some,List.mem_cons,List.not_mem_nil,or_false] at hm
   rcases hm with e | e
   ·have:=uh HAq k hk; omega
   ·exact hAU k hk e
  ·simp [HL.fp,Value.ownBlock]; omega
  ·intro k hk hm
   have:=uh HRl k hk
   simp only [HL.fp,Value.ownBlock,Option.toList_some,List.mem_cons,List.not_mem_nil,or_false] at hm
   omega
 have hB5 : Below w.heap.size w (w4.setCell ⟨w.heap.size,26,none⟩ (.slice (some ⟨U,0,none⟩) l.length l.length)):=(uh HBX).trans (hS5.below (uh HBX).size (by simp))
 have hst5 : (w4.setCell ⟨w.heap.size,26,none⟩ (.slice (some ⟨U,0,none⟩) l.length l.length)).ownsRow 0 3 1 sv st.length (inV st):=own_stp (uh HST) hS5 (fun k hk=>by have:=uh HSl k hk; simp; omega)
 obtain ⟨y,hy⟩ : ∃ y : HL,y = ⟨w.heap.size,A,X,o,.slice (some ⟨U,0,none⟩) l.length l.length,hv,fav,fov⟩:=⟨_,rfl⟩
 rw [← hy] at hw5
 have hyq : y.q = w.heap.size:=by rw [hy]
 have HYq:=hide hyq
 have HYf : Hid (∀ k ∈ y.fp,w.heap.size ≤ k):=hide (fun k hk=>by
  rw [hy] at hk
  simp only [HL.fp,Value.ownBlock,Option.toList_some,List.mem_cons,List.not_mem_nil,or_false] at hk
  omega)
 have HSet:=hide (hset_any hw5 (uh HCl) hst5 hls (fun k hk hm=>by have h1:=uh HSl k hk; have h2:=uh HYf k hm; omega) (uh HSV))
 rw [hyq] at HSet
 have HB5:=hide hB5
 have HFo : Hid (FOk F):=hide ⟨uh HRa,uh HRm,by have:=uh HLa; omega,by have:=uh HLo; omega⟩
 clear hown4 hgrow4 hU hS4 hBk4 hIF4 hrow4 hBk5 hS5 hAU hw5 hB5 hst5 hy hyq
 go_wp2_with fail
 refine (uh HSet).mono ?_
 rintro e w6 (⟨hn,rfl,hs6⟩ | ⟨val,hsm,rfl,h6,hs6⟩)
 ·have HR : Hid (hoH al st (fdA l) (adL l) (nxL l) = false):=hide (by rw [uh HE,hn])
  have HB6:=hide ((uh HB5).trans (hs6.below (uh HB5).size (uh HYf)))
  clear hn hs6
  go_wp2_with fail
  go_ret
  exact ⟨ret_bool (uh HR).symm,uh HB6⟩
 ·have HB6:=hide ((uh HB5).trans (hs6.below (uh HB5).size (uh HYf)))
  have c0:=h6.c0
  have c27:=h6.c27
  rw [uh HYq] at c0 c27
  rw [List.count_replicate_self] at c27
  have f6:=h6.ff.c6
  obtain ⟨oao,ocap,hov,hocm',hocn,-⟩:=pr_of_own h6.ff.ow
  have hocm : ocap ≤ 9223372036854775807:=by unfold maxLen at hocm'; omega
  rw [hov] at f6
  have hadl : (adL l).length = l.length:=by simp [adL]
  have HE2 : Hid (hoH al st (fdA l) (adL l) (nxL l) = if l.length < F.ow.length then false else flH F.ap (fdA l) (adL l) (nxL l) F.ow val (List.replicate l.length true)):=hide (by rw [uh HE,hsm]; simp only; rw [hadl])
  have HFi:=hide (fun n : Nat=>hfill_any (uh HFo) (uh HV0) F.ow (w6.drewN n) 0 val (List.replicate l.length true) (h6.below (below_drewQ w6 n)) (by simp) (Nat.zero_le _))
  rw [uh HYq] at HFi
  have hlo:=(uh HFo).lo
  clear hsm hs6 h6 hov hocm' hadl
  by_cases hlt : l.length < F.ow.length
  ·have HR : Hid (hoH al st (fdA l) (adL l) (nxL l) = false):=hide (by rw [uh HE2,if_pos hlt])
   have hd : decide ((l.length : Int) < (F.ow.length : Int)) = true:=by simp; omega
   go_wp2_with fail
   go_quiet (fail)
   go_wp2_with fail
   go_ret
   exact ⟨ret_bool (uh HR).symm,(uh HB6).trans ((below_drewQ _ _).mono (uh HB6).size)⟩
  ·have HR : Hid (hoH al st (fdA l) (adL l) (nxL l) = flH F.ap (fdA l) (adL l) (nxL l) F.ow val (List.replicate l.length true)):=hide (by rw [uh HE2,if_neg hlt])
   have hd : decide ((l.length : Int) < (F.ow.length : Int)) = false:=by simp; omega
   go_wp2_with fail
   go_quiet (fail)
   go_wp2_with fail
   refine (uh HFi _).mono ?_
   rintro e w7 ⟨val7,rfl,-,-,hs7⟩
   have HB7:=hide (((uh HB6).trans ((below_drewQ _ _).mono (uh HB6).size)).trans (hs7.below (by have:=(uh HB6).size; simpa using this) (uh HYf)))
   clear hs7
   go_wp2_with fail
   go_ret
   exact ⟨ret_bool (uh HR).symm,uh HB7⟩
def prs : List Int → List (Int × Int)
 | a :: b :: r=>(a,b) :: prs r
 | _=>[]
theorem prs_len (l : List Int) : (prs l).length = l.length / 2:=by
 induction l using prs.induct with
 | case1 a b r ih=>simp [prs,ih]; omega
 | case2 l h =>
  cases l with
  | nil=>simp [prs]
  | cons a r =>
   cases r with
   | nil=>simp [prs]
   | cons b r=>exact absurd rfl (h a b r)
theorem prs_snoc (l : List Int) (hl : l.length % 2 = 0) (a b : Int) : prs (l ++ [a,b]) = prs l ++ [(a,b)]:=by
 induction l using prs.induct with
 | case1 c d r ih=>simp only [List.cons_append,prs]; rw [ih (by simp at hl; omega)]
 | case2 l h =>
  cases l with
  | nil=>rfl
  | cons c r =>
   cases r with
   | nil=>simp at hl
   | cons d r=>exact absurd rfl (h c d r)
theorem acR_mem {last : Int} {l : List Int} (h : acR last l = true) : ∀ c ∈ prs l,last < c.1:=by
 induction l using prs.induct generalizing last with
 | case1 a b r ih =>
  rw [acR_two,Bool.and_eq_true,decide_eq_true_eq] at h
  intro c hc
  rcases List.mem_cons.1 hc with rfl | hc
  ·exact h.1
  ·have:=ih h.2 c hc; omega
 | case2 l hn=>intro c hc; rw [prs] at hc; cases hc; exact fun a b r e=>hn a b r e
theorem acR_srt {last : Int} {l : List Int} (h : acR last l = true) : Srt (prs l):=by
 induction l using prs.induct generalizing last with
 | case1 a b r ih =>
  rw [acR_two,Bool.and_eq_true,decide_eq_true_eq] at h
  exact List.pairwise_cons.2 ⟨fun c hc=>acR_mem h.2 c hc,ih h.2⟩
 | case2 l hn=>rw [prs]; exact List.Pairwise.nil; exact fun a b r e=>hn a b r e
theorem adA_last {l : List (Int × Int)} {a n : Int} (h : ∀ c ∈ l,c.1 < a) : adA l a n = l ++ [(a,n)] ∧ fdA l a = none:=by
 have hl : lowA l a = l.length:=by
  unfold lowA
  rw [List.filter_eq_self.2 (fun c hc=>by simpa using h c hc)]
 constructor
 ·unfold adA; rw [hl]; simp
 ·unfold fdA; rw [dif_neg (by omega)]
theorem take_even {l : List Int} {k : Nat} (hk : 2 * k + 1 < l.length) : l.take (2 * (k + 1)) = l.take (2 * k) ++ [l.getD (2 * k) 0,l.getD (2 * k + 1) 0]:=by
 rw [show 2 * (k + 1) = 2 * k + 1 + 1 by omega,List.take_succ_eq_append_getElem hk,List.take_succ_eq_append_getElem (by omega),List.append_assoc]
 have h1 : 2 * k < l.length:=by omega
 simp [hk,h1]
theorem prs_take {l : List Int} {k : Nat} (hk : 2 * k + 1 < l.length) : prs (l.take (2 * (k + 1))) = prs (l.take (2 * k)) ++ [(l.getD (2 * k) 0,l.getD (2 * k + 1) 0)]:=by
 rw [take_even hk,prs_snoc _ (by rw [List.length_take]; omega)]
theorem prs_pre {l : List Int} {k : Nat} (hk : 2 * k + 1 < l.length) : ∃ r,prs l = prs (l.take (2 * k)) ++ (l.getD (2 * k) 0,l.getD (2 * k + 1) 0) :: r:=by
 induction k generalizing l with
 | zero =>
  match l,hk with
  | a :: b :: r,_=>exact ⟨prs r,rfl⟩
 | succ k ih =>
  match l,hk with
  | a :: b :: r,hk =>
   obtain ⟨t,ht⟩:=ih (l:=r) (by simp at hk; omega)
   refine ⟨t,?_⟩
   rw [show 2 * (k + 1) = 2 * k + 1 + 1 by omega]
   simp only [List.take_succ_cons,prs,List.cons_append]
   rw [ht]
   rfl
theorem rise_at {l : List Int} (h : Srt (prs l)) {k : Nat} (hk : 2 * k + 1 < l.length) : ∀ c ∈ prs (l.take (2 * k)),c.1 < l.getD (2 * k) 0:=by
 obtain ⟨r,hr⟩:=prs_pre hk
 unfold Srt at h
 rw [hr,List.pairwise_append] at h
 intro c hc
 exact h.2.2 c hc _ (List.mem_cons_self ..)
theorem prs_vals {l : List Int} (h : avB l = true) : ∀ c ∈ prs l,(0 ≤ c.1 ∧ c.1 ≤ 1048576) ∧ (0 ≤ c.2 ∧ c.2 ≤ 1048576):=by
 unfold avB at h
 rw [List.all_eq_true] at h
 have h' : ∀ x ∈ l,0 ≤ x ∧ x ≤ 1048576:=fun x hx=>by simpa using h x hx
 clear h
 induction l using prs.induct with
 | case1 a b r ih =>
  intro c hc
  rcases List.mem_cons.1 hc with rfl | hc
  ·exact ⟨h' a (by simp),h' b (by simp)⟩
  ·exact ih (fun x hx=>h' x (by simp [hx])) c hc
 | case2 l hn=>intro c hc; rw [prs] at hc; cases hc; exact fun a b r e=>hn a b r e
def staE (nv : Nat) (al : List Atm) (st ls : List Int) : Nat :=
 if 16 < ls.length then 1 else if st.length ≠ nv ∨ avB st = false ∨ acB2 ls = false then 5
 else if hoH al st (fdA (prs ls)) (adL (prs ls)) (nxL (prs ls)) = true then 0 else 6
structure AOk (al : List Atm) : Prop where
 tm : TmOK al
 le : al.length ≤ 1000
 bd : ∀ a ∈ al,a.lk ≤ 2 ∧ a.rk ≤ 2 ∧ a.li ≤ 100 ∧ a.ri ≤ 100
def StaPost (w : World) (Q : Nat) (ws : List ByteArray) (s : PS) (al : List Atm) (vv pv nv : Value) (st ls : List Int) (e : Ending) (w' : World) : Prop :=
 Below w.heap.size w w' ∧ ((staE s.vars.length al st ls ≠ 0 ∧ e = .returned (.tuple #[.pointer none,.int .i64 (staE s.vars.length al st ls : Nat)])) ∨
  (staE s.vars.length al st ls = 0 ∧ ∃ R sv cv,e = .returned (.tuple #[.pointer (some ⟨R,0,none⟩),.int .i64 0]) ∧ Mc w' R Q ws s al (enS s.nodes ⟨0,0,st,prs ls⟩ 0) vv pv nv sv cv ∧ ∀ k ∈ mFp R sv cv,w.heap.size ≤ k))
section
variable {w : World} {Q : Nat} {ws : List ByteArray} {s : PS} {al : List Atm} {vv pv nv sv0 lv : Value} {st ls : List Int}
set_option maxRecDepth 100000 in
set_option maxHeartbeats 2000000 in
theorem sta_bad (h : Cp w Q ws s al vv pv nv) (hst : Lst w sv0 1 st.length (ints st)) (hls : Lst w lv 1 ls.length (ints ls)) (hE : 16 < ls.length ∨ (st.length ≠ s.vars.length ∨ avB st = false ∨ acB2 ls = false)) :
  Calls Tryz.prog 61 #[.pointer (some ⟨Q,0,none⟩),sv0,lv] w (StaPost w Q ws s al vv pv nv st ls):=by
 have c1:=h.bk.cell 1 rfl
 obtain ⟨vo,vcap,hvv,hvn,hvm⟩:=own_slc h.vr
 rw [hvv] at c1
 have HA:=hide (arev_any hst)
 have HC:=hide (arec_any hls)
 obtain ⟨so,scap,rfl,hsn,hsm,hs20⟩:=hst.sl
 obtain ⟨lo,lcap,rfl,hln,hlm,hl20⟩:=hls.sl
 clear h hst hls hvv
 by_cases h16 : 16 < ls.length
 ·have HE : Hid (staE s.vars.length al st ls = 1):=hide (by unfold staE; rw [if_pos h16])
  clear hE
  go_enter Tryz.func61,Tryz.ntmps61
  go_wp2_with fail
  go_ret2
  exact ⟨Below.refl _ _,Or.inl ⟨by rw [uh HE]; decide,by rw [uh HE]; rfl⟩⟩
 ·have hbad:=hE.resolve_left h16
  have HE : Hid (staE s.vars.length al st ls = 5):=hide (by unfold staE; rw [if_neg h16,if_pos hbad])
  have hd : decide ((16 : Int) < (ls.length : Int)) = false:=by simp; omega
  by_cases hv : st.length = s.vars.length
  ·have hne : ((st.length : Int) != (s.vars.length : Int)) = false:=by rw [hv]; simp
   cases hav : avB st with
   | false =>
    rw [hav] at HA
    have HV:=hide hv
    clear hE hbad hv hav
    go_enter Tryz.func61,Tryz.ntmps61
    go_wp2_with (go_at_call 93; refine (uh HA).mono ?_; rintro e w' ⟨rfl,rfl⟩)
    go_ret2
    exact ⟨Below.refl _ _,Or.inl ⟨by rw [uh HE]; decide,by rw [uh HE]; rfl⟩⟩
   | true =>
    have hac : acB2 ls = false:=by
     rcases hbad with h | h | h
     ·exact absurd hv h
     ·rw [hav] at h; cases h
     ·exact h
    rw [hav] at HA
    rw [hac] at HC
    have HV:=hide hv
    clear hE hbad hv hav hac
    go_enter Tryz.func61,Tryz.ntmps61
    go_wp2_with (first | (go_at_call 93; refine (uh HA).mono ?_; rintro e w' ⟨rfl,rfl⟩) | (go_at_call 94; refine (uh HC).mono ?_; rintro e w'' ⟨rfl,rfl⟩))
    go_ret2
    exact ⟨Below.refl _ _,Or.inl ⟨by rw [uh HE]; decide,by rw [uh HE]; rfl⟩⟩
  ·have hne : ((st.length : Int) != (s.vars.length : Int)) = true:=by simp [bne]; omega
   clear hE hbad
   go_enter Tryz.func61,Tryz.ntmps61
   go_wp2_with fail
   go_ret2
   exact ⟨Below.refl _ _,Or.inl ⟨by rw [uh HE]; decide,by rw [uh HE]; rfl⟩⟩
end
section
variable {w : World} {Q : Nat} {ws : List ByteArray} {s : PS} {al : List Atm} {vv pv nv sv0 lv : Value} {st ls : List Int}
set_option maxRecDepth 100000 in
set_option maxHeartbeats 4000000 in
theorem sta_good (h : Cp w Q ws s al vv pv nv) (hA : AOk al) (hnl : s.nodes.length ≤ 100000) (hvl : s.vars.length ≤ 4) (hst : Lst w sv0 1 st.length (ints st)) (hls : Lst w lv 1 ls.length (ints ls)) (h16 : ls.length ≤ 16) (hv : st.length = s.vars.length) (hav : avB st = true) (hac : acB2 ls = true) :
  Calls Tryz.prog 61 #[.pointer (some ⟨Q,0,none⟩),sv0,lv] w (StaPost w Q ws s al vv pv nv st ls):=by
 have HCp:=hide h
 have c1:=h.bk.cell 1 rfl
 obtain ⟨vo,vcap,hvv,hvn,hvm⟩:=own_slc h.vr
 rw [hvv] at c1
 have HAv:=hide (arev_any hst)
 have HAc:=hide (arec_any hls)
 have HFr:=hide (fresh_any hst)
 rw [hav] at HAv
 rw [hac] at HAc
 have HLS:=hide hls
 obtain ⟨so,scap,hsv0,hsn,hsm,hs20⟩:=hst.sl
 obtain ⟨lo,lcap,hlv,hln,hlm,hl20⟩:=hls.sl
 have hac2:=hac
 unfold acB2 at hac2
 rw [Bool.and_eq_true,Bool.and_eq_true,decide_eq_true_eq] at hac2
 obtain ⟨⟨hev,hlav⟩,hrise⟩:=hac2
 have hne : ((st.length : Int) != (s.vars.length : Int)) = false:=by rw [hv]; simp
 have hd16 : decide ((16 : Int) < (ls.length : Int)) = false:=by simp; omega
 have HSrt:=hide (acR_srt hrise)
 have HVals:=hide (prs_vals hlav)
 have HSv : Hid (∀ x ∈ st,0 ≤ x):=hide (fun x hx=>by
  unfold avB at hav
  rw [List.all_eq_true] at hav
  have:=hav x hx
  simp at this
  exact this.1)
 have HE : Hid (staE s.vars.length al st ls = if hoH al st (fdA (prs ls)) (adL (prs ls)) (nxL (prs ls)) = true then 0 else 6):=hide (by
  unfold staE
  rw [if_neg (by omega),if_neg (by rw [hav,hac]; simp [hv])])
 have HSl4 : Hid (st.length ≤ 4):=hide (by omega)
 have HV:=hide hv
 have HA:=hide hA
 have hQl:=h.bk.lt
 rw [hsv0] at HAv HFr ⊢
 rw [hlv] at HAc ⊢
 have HLV:=hide hlv
 clear h hvv hst hls hv hav hac hrise hA hsv0 hlv
 go_enter Tryz.func61,Tryz.ntmps61
 go_wp2_with (first | (go_at_call 93; refine (uh HAv).mono ?_; rintro e w ⟨rfl,rfl⟩) | (go_at_call 94; refine (uh HAc).mono ?_; rintro e w ⟨rfl,rfl⟩) | (go_at_call 95; refine (uh HFr).mono ?_; rintro e w1 ⟨g1,rfl,hr1,hb1⟩; have HR1:=hide hr1; have HB1:=hide hb1; clear hr1 hb1))
 have hb1:=uh HB1
 obtain ⟨R,hR⟩ : ∃ R,R = w1.heap.size:=⟨_,rfl⟩
 rw [← hR]
 have hbx:=below_boxQ w1 (.cells #[Value.pointer (some ⟨Q,0,none⟩),.int .i64 0,.int .i64 0,.slice (some ⟨g1,0,none⟩) st.length st.length,.slice none 0 0] 169)
 have hb2:=hb1.trans (hbx.mono hb1.size)
 have hg1:=(uh HR1).lt g1 rfl
 have hRw : w.heap.size ≤ R:=by rw [hR]; exact hb1.size
 have hM0 : Mc (w1.alloc (.cells #[Value.pointer (some ⟨Q,0,none⟩),.int .i64 0,.int .i64 0,.slice (some ⟨g1,0,none⟩) st.length st.length,.slice none 0 0] 169)) R Q ws s al ⟨0,0,st,[]⟩ vv pv nv (.slice (some ⟨g1,0,none⟩) st.length st.length) (.slice none 0 0):=by
  refine ⟨?_,?_,World.ownsRow_nil _ _ _ _,List.Pairwise.nil,?_,(uh HCp).below hb2,?_,uh HSl4⟩
  ·rw [hR]; exact Bk.new w1 _ _
  ·exact own_bw (own_le (uh HR1) (Nat.zero_le _)) hbx
  ·simp [mFp,Value.ownBlock]; rw [hR]; omega
  ·intro k hk hm
   have h1:=(uh HCp).lt k hk
   simp only [mFp,Value.ownBlock,Option.toList_some,Option.toList_none,List.append_nil,List.mem_cons,List.not_mem_nil,or_false] at hm
   omega
 have HM0:=hide hM0
 have HB2:=hide hb2
 have hgR : g1 ≠ R:=by rw [hR]; omega
 have HF0 : Hid (∀ k ∈ mFp R (.slice (some ⟨g1,0,none⟩) st.length st.length) (.slice none 0 0),w.heap.size ≤ k):=hide (fun k hk=>by
  simp only [mFp,Value.ownBlock,Option.toList_some,Option.toList_none,List.append_nil,List.mem_cons,List.not_mem_nil,or_false] at hk
  omega)
 clear hb1 hbx hb2 hM0 hR HR1 HB1
 go_loopw [9] (fun i wr=>∃ (k : Nat) (cv : Value),2 * k ≤ ls.length ∧ i = .int .i64 ((2 * k : Nat) : Int) ∧ Hid (Mc wr R Q ws s al ⟨0,0,st,prs (ls.take (2 * k))⟩ vv pv nv (.slice (some ⟨g1,0,none⟩) st.length st.length) cv) ∧ Hid (∀ k ∈ mFp R (.slice (some ⟨g1,0,none⟩) st.length st.length) cv,w.heap.size ≤ k) ∧ Hid (Below w.heap.size w wr)) (fun i _=>ls.length - (intOf i).toNat)
 case atStart=>exact ⟨0,_,Nat.zero_le _,rfl,HM0,HF0,HB2⟩
 case round =>
  clear HM0 HF0 HB2
  obtain ⟨k,cv,hk,rfl,hM,hF,hB⟩:=hrel
  have hks : (prs (ls.take (2 * k))).length = k:=by rw [prs_len,List.length_take]; omega
  by_cases hlt : 2 * k + 1 < ls.length
  ·have HPr:=hide (prs_take hlt)
   have HRi:=hide (rise_at (uh HSrt) hlt)
   obtain ⟨g,off,lcap',hlv',-,-,hcl⟩:=(uh HLS).at (k:=0) (by omega)
   have hle:=(uh HLV).symm.trans hlv'
   cases hle
   have y1:=hcl (2 * k) (by omega)
   have y2:=hcl (2 * k + 1) hlt
   obtain ⟨q,hq⟩ : ∃ q,q = 2 * k:=⟨_,rfl⟩
   have HPq : Hid (prs (ls.take (q + 2)) = prs (ls.take (2 * (k + 1)))):=hide (by rw [hq]; rfl)
   rw [← hq] at hk hlt y1 y2 hM hks HPr HRi ⊢
   obtain ⟨a,ha⟩ : ∃ a,a = ls.getD q 0:=⟨_,rfl⟩
   obtain ⟨b,hb⟩ : ∃ b,b = ls.getD (q + 1) 0:=⟨_,rfl⟩
   rw [← ha] at y1 HPr HRi
   rw [← hb] at y2 HPr
   have hgl : g < w.heap.size:=World.block_lt_of_cell? w _ y1
   have HNf : Hid (g ∉ R :: cv.ownBlock.toList):=hide (fun hm=>by
    have:=uh hF g (by
     rcases List.mem_cons.1 hm with e | hm
     ·rw [e]; exact Mc.memR
     ·simp only [mFp,List.mem_cons,List.mem_append]; exact Or.inr (Or.inr hm))
    omega)
   have HGw : Hid (g < wr.drew.heap.size):=hide (by have:=(uh hB).size; show g < wr.heap.size; omega)
   have x1:=((uh hB).cell (World.block_lt_of_cell? w _ y1)).trans y1
   have x2:=((uh hB).cell (World.block_lt_of_cell? w _ y2)).trans y2
   obtain ⟨hla,hln2⟩:=adA_last (n:=b) (uh HRi)
   have hMd:=(uh hM).below (Below.refl _ _).drew
   have HMd:=hide hMd
   have HAd:=hide (cadd_any (o:=4) a b hMd.bk rfl hMd.cs hMd.srt hMd.nds.2.1 (by show (prs (ls.take q)).length ≤ 100000; omega) hln2)
   have HSr2 : Hid (Srt (adA (prs (ls.take q)) a b)):=hide (adA_srt (uh hM).srt hln2)
   have HLa:=hide hla
   have HQ:=hide hq
   have HKs:=hide hks
   have hdq : decide ((q : Int) + 1 < (ls.length : Int)) = true:=by simp; omega
   have i1 : (0 : Int) ≤ (q : Int) + 1:=by omega
   have i2 : (q : Int) + 1 < (ls.length : Int):=by omega
   have i3 : ((q : Int) + 1).toNat = q + 1:=by omega
   have i4 : IntKind.i64.wrap ((q : Int) + 1) = (q : Int) + 1:=by rw [IntKind.wrap_i64]; omega
   have i5 : (q : Int) < (ls.length : Int):=by omega
   clear hcl y1 y2 ha hb hla hln2 hlv' hq hks hMd
   go_wp2_with fail
   go_region_held3 (fun W=>W.cell? ⟨g,off + q,none⟩ = some (.int .i64 a) ∧ W.cell? ⟨g,off + (q + 1),none⟩ = some (.int .i64 b)) (first | (simp only [World.cell?_drew,x1,x2,and_self]; done) | (simp only [u1,u2,and_self]; done))
    (first
     | (go_at_call 96; refine (uh HAd).mono ?_; rintro e w2 ⟨rfl,cv',hb2,hr2,hn2,hs2⟩; have HB2':=hide hb2; have HR2':=hide hr2; have HN2':=hide hn2; have HS2':=hide hs2; have u1:=(hs2.cell (p:=⟨g,off + q,none⟩) (uh HGw) (uh HNf)).trans x1; have u2:=(hs2.cell (p:=⟨g,off + (q + 1),none⟩) (uh HGw) (uh HNf)).trans x2; clear hb2 hr2 hn2 hs2))
   all_goals
    obtain ⟨h3,hS3⟩:=(uh HMd).cells (uh HB2') (uh HR2') (adA_len _ _ _).symm (uh HSr2) (uh HN2') (uh HS2')
    have hcs : adA (prs (ls.take q)) a b = prs (ls.take (2 * (k + 1))):=by rw [uh HLa,← uh HPr]
    have h3' : Mc w2 R Q ws s al ⟨0,0,st,prs (ls.take (2 * (k + 1)))⟩ vv pv nv (.slice (some ⟨g1,0,none⟩) st.length st.length) cv':=by rw [← hcs]; exact h3
    have hF3 : ∀ k ∈ mFp R (.slice (some ⟨g1,0,none⟩) st.length st.length) cv',w.heap.size ≤ k:=fun t ht=>by
     rcases hS3.foot t ht with h1 | h1
     ·exact uh hF t h1
     ·exact Nat.le_trans (uh hB).size h1
    have hB3 : Below w.heap.size w w2:=(uh hB).drew.trans (hS3.below (by exact (uh hB).size) (uh hF))
    have H3:=hide h3'
    have HF3:=hide hF3
    have HB3:=hide hB3
    clear h3 hS3 hcs h3' hF3 hB3 x1 x2 u1 u2
    go_wp2_with fail
    go_roundw
    case rel=>exact ⟨k + 1,cv',by have:=uh HQ; omega,by rw [show 2 * (k + 1) = q + 2 by have:=uh HQ; omega]; go_num,H3,HF3,HB3⟩
    case measure=>simp [intOf]; omega
  ·have hkl : 2 * k = ls.length:=by omega
   rw [hkl,List.take_length] at hM
   have hM2:=uh hM
   have d2:=hM2.cp.bk.cell 2 rfl
   have d3:=hM2.c3
   have hdq : decide (((2 * k : Nat) : Int) + 1 < (ls.length : Int)) = false:=by simp; omega
   obtain ⟨q,hq⟩ : ∃ q,q = 2 * k:=⟨_,rfl⟩
   rw [← hq] at hdq hk ⊢
   have hql : q = ls.length:=by omega
   have hMd:=hM2.below (Below.refl _ _).drew
   have HHo:=hide (holds_any (X:=R) (o:=4) hMd.cp.pr (uh HA).tm (uh HA).le (uh HA).bd hMd.st (uh HSl4) (uh HSv) hMd.c4 hMd.cs hMd.srt (by show (prs ls).length ≤ 100000; rw [prs_len]; omega) (fun c hc=>by have:=uh HVals c hc; exact ⟨this.1.1,this.2.1⟩))
   obtain ⟨bo,hbo⟩ : ∃ bo,bo = hoH al st (fdA (prs ls)) (adL (prs ls)) (nxL (prs ls)):=⟨_,rfl⟩
   have HMd:=hide hMd
   have hbo2 : hoH al st (fdA (MS.cs ⟨0,0,st,prs ls⟩)) (adL (MS.cs ⟨0,0,st,prs ls⟩)) (nxL (MS.cs ⟨0,0,st,prs ls⟩)) = bo:=hbo.symm
   rw [hbo2] at HHo
   rw [← hbo] at HE
   have HQl:=hide hql
   have hlt2 : ¬ (q + 1 < ls.length):=by omega
   clear hM2 hkl hks hlt hMd hbo hbo2 hq hql
   go_wp2_with fail
   go_region_held3 (fun W=>W.cell? ⟨Q,2,none⟩ = some pv ∧ W.cell? ⟨R,3,none⟩ = some (.slice (some ⟨g1,0,none⟩) st.length st.length)) (first | (simp only [World.cell?_drew,d2,d3,and_self]; done) | (simp only [u1,u2,and_self]; done))
    (first
     | (go_at_call 97; refine (uh HHo).mono ?_; rintro e w2 ⟨rfl,hb2⟩; have HB2':=hide hb2; have u1:=(((uh HMd).below hb2).cp.bk).cell 2 rfl; have u2:=((uh HMd).below hb2).c3; clear hb2))
   all_goals
    have h3:=(uh HMd).below (uh HB2')
    have hB3 : Below w.heap.size w w2:=(uh hB).drew.trans ((uh HB2').mono (by exact (uh hB).size))
    have H3:=hide h3
    have HB3:=hide hB3
    clear h3 hB3 u1 u2 d2 d3
    cases bo with
    | false =>
     have HE5 : Hid (staE s.vars.length al st ls = 6):=hide (by rw [uh HE]; rfl)
     go_wp2_with fail
     go_ret2
     exact ⟨uh HB3,Or.inl ⟨by rw [uh HE5]; decide,by rw [uh HE5]; rfl⟩⟩
    | true =>
     have HE5 : Hid (staE s.vars.length al st ls = 0):=hide (by rw [uh HE]; rfl)
     have HEn:=hide (men_any (uh H3) 0 hnl (by show (prs ls).length ≤ 100000; rw [prs_len]; omega))
     go_wp2_with fail
     refine (uh HEn).mono ?_
     rintro e w4 ⟨rfl,h4,hs4⟩
     have H4:=hide h4
     have HB4:=hide ((uh HB3).trans (hs4.below (uh HB3).size (uh hF)))
     clear h4 hs4
     go_wp2_with fail
     go_ret2
     exact ⟨uh HB4,Or.inr ⟨uh HE5,R,_,cv,rfl,uh H4,uh hF⟩⟩
end
section
variable {w : World} {X Q : Nat} {ws : List ByteArray} {s : PS} {al : List Atm} {vv pv nv sv0 lv fv : Value} {st ls : List Int}
theorem mstart_any (h : Cp w Q ws s al vv pv nv) (hA : AOk al) (hnl : s.nodes.length ≤ 100000) (hvl : s.vars.length ≤ 4) (hst : Lst w sv0 1 st.length (ints st)) (hls : Lst w lv 1 ls.length (ints ls)) :
  Calls Tryz.prog 61 #[.pointer (some ⟨Q,0,none⟩),sv0,lv] w (StaPost w Q ws s al vv pv nv st ls):=by
 by_cases hE : 16 < ls.length ∨ (st.length ≠ s.vars.length ∨ avB st = false ∨ acB2 ls = false)
 ·exact sta_bad h hst hls hE
 ·simp only [not_or,Bool.not_eq_false] at hE
  exact sta_good h hA hnl hvl hst hls (by omega) (Classical.byContradiction hE.2.1) hE.2.2.1 hE.2.2.2
def LsPost (w : World) (Q : Nat) (ws : List ByteArray) (s : PS) (al : List Atm) (vv pv nv : Value) (st ls : List Int) (e : Ending) (w' : World) : Prop :=
 Below w.heap.size w w' ∧ ((staE s.vars.length al st ls ≠ 0 ∧ e = .returned (.tuple #[.pointer none,.int .i64 (staE s.vars.length al st ls : Nat)])) ∨
  (staE s.vars.length al st ls = 0 ∧ ∃ Y R sv cv,e = .returned (.tuple #[.pointer (some ⟨Y,0,none⟩),.int .i64 0]) ∧ Bk w' Y 124 [ptrA R] ∧ w.heap.size ≤ Y ∧ Y ∉ mFp R sv cv ∧ Mc w' R Q ws s al (enS s.nodes ⟨0,0,st,prs ls⟩ 0) vv pv nv sv cv ∧ ∀ k ∈ mFp R sv cv,w.heap.size ≤ k))
set_option maxRecDepth 100000 in
set_option maxHeartbeats 1000000 in
theorem lempty_any (hX : Bk w X 88 [ptrA Q,fv]) : Calls Tryz.prog 53 #[.pointer (some ⟨X,0,none⟩)] w fun e w'=>e = .returned (.bool false) ∧ ∃ n,w' = w.drewN n:=by
 have c0 : w.cell? ⟨X,0,none⟩ = some (.pointer (some ⟨Q,0,none⟩)):=hX.cell 0 rfl
 clear hX
 go_enter Tryz.func53,Tryz.ntmps53
 go_wp2_with fail
 go_ret
 exact ⟨rfl,0,rfl⟩
set_option maxRecDepth 100000 in
set_option maxHeartbeats 1000000 in
theorem lstart_any (hX : Bk w X 88 [ptrA Q,fv]) (h : Cp w Q ws s al vv pv nv) (hA : AOk al) (hnl : s.nodes.length ≤ 100000) (hvl : s.vars.length ≤ 4) (hst : Lst w sv0 1 st.length (ints st)) (hls : Lst w lv 1 ls.length (ints ls)) :
  Calls Tryz.prog 34 #[.pointer (some ⟨X,0,none⟩),sv0,lv] w (LsPost w Q ws s al vv pv nv st ls):=by
 have HEm:=hide (lempty_any hX)
 have c0 : w.cell? ⟨X,0,none⟩ = some (.pointer (some ⟨Q,0,none⟩)):=hX.cell 0 rfl
 have HMs : Hid (∀ n,Calls Tryz.prog 61 #[.pointer (some ⟨Q,0,none⟩),sv0,lv] (w.drewN n) (StaPost w Q ws s al vv pv nv st ls)):=hide (fun n=>(mstart_any (h.below (below_drewQ w n)) hA hnl hvl (hst.below (below_drewQ w n)) (hls.below (below_drewQ w n))).mono (by
  rintro e w' ⟨hb,hr⟩
  refine ⟨⟨hb.os,hb.tape,hb.output,hb.size,hb.block⟩,?_⟩
  exact hr))
 clear hX h hA hst hls
 go_enter Tryz.func34,Tryz.ntmps34
 go_wp2_with (go_at_call 53; refine (uh HEm).mono ?_; rintro e w1 ⟨rfl,n,rfl⟩)
 refine (uh HMs _).mono ?_
 rintro e w2 ⟨hb2,(⟨hne,rfl⟩ | ⟨h0,R,sv,cv,rfl,hM,hF⟩)⟩
 ·obtain ⟨E,hE⟩ : ∃ E,E = staE s.vars.length al st ls:=⟨_,rfl⟩
  rw [← hE] at hne ⊢
  have hbf : ((E : Int) != 0) = true:=by rw [bne_iff_ne]; omega
  have HN:=hide hne
  have HE:=hide hE
  have HB:=hide hb2
  clear hne hE hb2
  go_wp2_with fail
  go_ret2
  exact ⟨uh HB,Or.inl ⟨by rw [← uh HE]; exact uh HN,by rw [← uh HE]; rfl⟩⟩
 ·have H0:=hide h0
  have HB:=hide hb2
  have HM:=hide hM
  have HF:=hide hF
  clear h0 hb2 hM hF
  go_wp2_with fail
  go_ret2
  refine ⟨(uh HB).alloc (uh HB).size _,Or.inr ⟨uh H0,w2.heap.size,R,sv,cv,rfl,Bk.new w2 _ [ptrA R],(uh HB).size,?_,(uh HM).below (below_boxQ w2 _),uh HF⟩⟩
  intro hm
  have:=(uh HM).lt _ hm
  omega
end
section
variable {w : World} {Y R Q : Nat} {ws : List ByteArray} {s : PS} {al : List Atm} {m : MS} {vv pv nv sv cv : Value}
set_option maxRecDepth 100000 in
set_option maxHeartbeats 1000000 in
theorem lstep_any (hY : Bk w Y 124 [ptrA R]) (h : Mc w R Q ws s al m vv pv nv sv cv) (c : Int) (hl : s.nodes.length ≤ 100000) (hc : m.cs.length ≤ 99999) :
  Calls Tryz.prog 38 #[.pointer (some ⟨Y,0,none⟩),.int .i64 c] w fun e w'=>e = .returned (.int .i64 ((stM s.nodes m c).2 : Nat)) ∧ ∃ cv',Mc w' R Q ws s al (stM s.nodes m c).1 vv pv nv sv cv' ∧ Stp (mFp R sv cv) w (mFp R sv cv') w':=by
 have c0 : w.cell? ⟨Y,0,none⟩ = some (.pointer (some ⟨R,0,none⟩)):=hY.cell 0 rfl
 have HS:=hide (mst_any h c hl hc)
 clear hY h
 go_enter Tryz.func38,Tryz.ntmps38
 go_wp2_with fail
 refine (uh HS).mono ?_
 rintro e w2 ⟨rfl,cv',h2,hs2⟩
 have H2:=hide h2
 have HS2:=hide hs2
 clear h2 hs2
 go_wp2_with fail
 go_ret
 exact ⟨rfl,cv',uh H2,uh HS2⟩
set_option maxRecDepth 100000 in
set_option maxHeartbeats 1000000 in
theorem lstate_any (hY : Bk w Y 124 [ptrA R]) (h : Mc w R Q ws s al m vv pv nv sv cv) (hc : m.cs.length ≤ 100000) :
  Calls Tryz.prog 36 #[.pointer (some ⟨Y,0,none⟩)] w fun e w'=>∃ g1 g2,e = .returned (stV m g1 g2) ∧ StV w.heap.size w' m g1 g2 ∧ Below w.heap.size w w':=by
 have hbx:=below_boxQ w (.cells #[Value.int .i64 0,.int .i64 0,.slice none 0 0,.slice none 0 0] 68)
 have c0 : (w.alloc (.cells #[Value.int .i64 0,.int .i64 0,.slice none 0 0,.slice none 0 0] 68)).cell? ⟨Y,0,none⟩ = some (.pointer (some ⟨R,0,none⟩)):=(hY.below hbx).cell 0 rfl
 have HS:=hide (mstate_any (h.below hbx) hc)
 have HBX:=hide hbx
 have HBk:=hide (Bk.new w 68 [Value.int .i64 0,.int .i64 0,.slice none 0 0,.slice none 0 0])
 clear hY h hbx
 go_enter Tryz.func36,Tryz.ntmps36
 go_wp2_with fail
 refine (uh HS).mono ?_
 rintro e w2 ⟨g1,g2,rfl,hv2,hb2⟩
 have hBk2:=(uh HBk).below hb2
 have z0:=hBk2.cell 0 rfl
 have z1:=hBk2.cell 1 rfl
 have z2:=hBk2.cell 2 rfl
 have z3:=hBk2.cell 3 rfl
 have zf:=hBk2.frz
 have HV:=hide hv2
 have HB2:=hide ((uh HBX).trans (hb2.mono (uh HBX).size))
 have HBk2:=hide hBk2
 have HG : Hid (w.heap.size < g1 ∧ w.heap.size < g2):=hide (by
  have h1:=(hv2.r1.lt g1 rfl).1
  have h2:=(hv2.r2.lt g2 rfl).1
  simp at h1 h2
  omega)
 unfold stV
 clear hv2 hb2 hBk2
 go_wp2_with fail
 obtain ⟨w4,hw4⟩ : ∃ w4,w4 = (((w2.setCell ⟨w.heap.size,0,none⟩ (.int .i64 (m.nd : Int))).setCell ⟨w.heap.size,1,none⟩ (.int .i64 (m.wh : Int))).setCell ⟨w.heap.size,2,none⟩ (.slice (some ⟨g1,0,none⟩) m.st.length m.st.length)).setCell ⟨w.heap.size,3,none⟩ (.slice (some ⟨g2,0,none⟩) (2 * m.cs.length) (2 * m.cs.length)):=⟨_,rfl⟩
 rw [← hw4]
 have hBk4 : Bk w4 w.heap.size 68 [.int .i64 (m.nd : Int),.int .i64 (m.wh : Int),.slice (some ⟨g1,0,none⟩) m.st.length m.st.length,.slice (some ⟨g2,0,none⟩) (2 * m.cs.length) (2 * m.cs.length)]:=by
  rw [hw4]; exact ((((uh HBk2).set 0 _).set 1 _).set 2 _).set 3 _
 have y0:=hBk4.cell 0 rfl
 have y1:=hBk4.cell 1 rfl
 have y2:=hBk4.cell 2 rfl
 have y3:=hBk4.cell 3 rfl
 have hS : Stp [w.heap.size] w2 [w.heap.size] w4:=by
  rw [hw4]
  exact ((((Stp.refl _ _).setCell (p:=⟨w.heap.size,0,none⟩) (Or.inl (by simp)) _).setCell (p:=⟨w.heap.size,1,none⟩) (Or.inl (by simp)) _).setCell (p:=⟨w.heap.size,2,none⟩) (Or.inl (by simp)) _).setCell (p:=⟨w.heap.size,3,none⟩) (Or.inl (by simp)) _
 clear hw4
 refine bodyPost_ret (v:=stV m g1 g2) ?_ rfl ⟨g1,g2,rfl,?_,?_⟩
 ·simp [results,Tryz.results36,go_sem,stV,y0,y1,y2,y3]
 ·have hg:=uh HG
  have hle:=(uh HBX).size
  exact ⟨own_le (own_stp (uh HV).r1 hS (fun k hk=>by cases hk; simp; omega)) hle,own_le (own_stp (uh HV).r2 hS (fun k hk=>by cases hk; simp; omega)) hle,(uh HV).ne⟩
 ·exact (uh HB2).trans (hS.below (uh HB2).size (by simp))
end
theorem StrB.rest {B : Nat} {w : World} {l : List ByteArray} {g off n cap : Nat} (h : StrB B w (.slice (some ⟨g,off,none⟩) n cap) l) (i : Nat) (hi : i ≤ l.length) (a : Option Addr) (ha : i < cap → a = some ⟨g,off + i,none⟩) (k c : Nat) (hk : k = l.length - i) (hc : c = cap - i) : StrB B w (.slice a k c) (l.drop i):=by
 have:=h.part rfl i l.length hi (Nat.le_refl _) a (fun g' off' e hlt=>by simp only [Option.some.injEq,Addr.mk.injEq] at e; obtain ⟨rfl,rfl,_⟩:=e; exact ha hlt)
 rw [List.take_of_length_le (by simp)] at this
 rw [hk,hc]
 exact this
theorem StrB.head {B : Nat} {w : World} {l : List ByteArray} {g off n cap : Nat} (h : StrB B w (.slice (some ⟨g,off,none⟩) n cap) l) (i : Nat) (hi : i ≤ l.length) : StrB B w (.slice (some ⟨g,off,none⟩) i cap) (l.take i):=by
 have:=h.part rfl 0 i (Nat.zero_le _) hi (some ⟨g,off,none⟩) (fun g' off' e _=>by rw [Nat.add_zero]; exact e)
 simpa using this
theorem StrB.open {B : Nat} {w : World} {v : Value} {x : ByteArray} {r : List ByteArray} (h : StrB B w v (x :: r)) : ∃ g off n cap,g < B ∧ v = .slice (some ⟨g,off,none⟩) n cap ∧ n = (x :: r).length ∧ n ≤ cap ∧ cap ≤ maxLen ∧ w.cell? ⟨g,off,none⟩ = some (.string x) ∧ ∀ j,(h : j < (x :: r).length) → w.cell? ⟨g,off + j,none⟩ = some (.string (x :: r)[j]):=by
 obtain ⟨ao,cap,hv,hn,hm,hc⟩:=h
 obtain ⟨g,off,hg,rfl,hcell⟩:=hc (by simp)
 exact ⟨g,off,_,cap,hg,hv,rfl,hn,hm,hcell 0 (by simp),hcell⟩
theorem own6 {w : World} {B : Nat} {e : TypeId} {sz n r : Nat} {v : Value} {xs : List Value} (h : w.ownsRow B e sz v n xs) (hr : ∀ k,v.ownBlock = some k → k ≠ r) (a b c d x y : Value) :
  ((((((w.setCell ⟨r,0,none⟩ a).setCell ⟨r,1,none⟩ b).setCell ⟨r,2,none⟩ c).setCell ⟨r,3,none⟩ d).setCell ⟨r,4,none⟩ x).setCell ⟨r,5,none⟩ y).ownsRow B e sz v n xs :=
 ownsRow_of_eq h (fun k hk=>by
  have:=hr k hk
  rw [Below.heap_setCell _ _ _ _ this,Below.heap_setCell _ _ _ _ this,Below.heap_setCell _ _ _ _ this,Below.heap_setCell _ _ _ _ this,Below.heap_setCell _ _ _ _ this,Below.heap_setCell _ _ _ _ this])
theorem Stp.onBelow {F F' : List Nat} {a w w' : World} (h : Stp F a F' w) (hb : Below w.heap.size w w') : Stp F a F' w' :=
 ⟨hb.os.trans h.os,hb.tape.trans h.tape,hb.output.trans h.output,Nat.le_trans h.size hb.size,fun k hk hF=>(hb.block k (Nat.lt_of_lt_of_le hk h.size)).trans (h.block k hk hF),h.foot⟩
theorem Stp.refoot {F F' F'' : List Nat} {a w : World} (h : Stp F a F' w) (hf : ∀ k,k ∈ F'' → k ∈ F ∨ a.heap.size ≤ k) : Stp F a F'' w:=⟨h.os,h.tape,h.output,h.size,h.block,hf⟩
theorem bk_step {B : Nat} {w wr w2 w3 : World} {F : List Nat} {v : Value} {n : Nat} {xs : List Value} {e : TypeId} {sz : Nat} {o o' : Obj} {g2 : Nat} {a b c d x y : Value} (stp : Stp F w v.ownBlock.toList wr) (own : wr.ownsRow B e sz v n xs) (hB : B ≤ wr.heap.size) (hb2 : Below (wr.alloc o).heap.size (wr.alloc o) w2)
  (hg : (((((((w2.setCell ⟨wr.heap.size,0,none⟩ a).setCell ⟨wr.heap.size,1,none⟩ b).setCell ⟨wr.heap.size,2,none⟩ c).setCell ⟨wr.heap.size,3,none⟩ d).setCell ⟨wr.heap.size,4,none⟩ x).setCell ⟨wr.heap.size,5,none⟩ y).alloc o').grownBy w3 v.ownBlock) (hblk : some g2 = v.ownBlock ∨ g2 = w2.heap.size + 1) :
  Stp F w [g2] w3 ∧ Below B wr w3:=by
 have hz:=hb2.size
 have hz0:=stp.size
 simp only [World.size_alloc] at hz
 have hnew : w.heap.size ≤ wr.heap.size:=hz0
 have s1:=((((((((stp.alloc o).onBelow hb2).setCell (p:=⟨wr.heap.size,0,none⟩) (Or.inr hnew) a).setCell (p:=⟨wr.heap.size,1,none⟩) (Or.inr hnew) b).setCell (p:=⟨wr.heap.size,2,none⟩) (Or.inr hnew) c).setCell (p:=⟨wr.heap.size,3,none⟩) (Or.inr hnew) d).setCell (p:=⟨wr.heap.size,4,none⟩) (Or.inr hnew) x).setCell (p:=⟨wr.heap.size,5,none⟩) (Or.inr hnew) y).alloc o'
 have hrow : ∀ k,v.ownBlock = some k → k ∈ F ∨ w.heap.size ≤ k:=fun k hk=>stp.foot k (by rw [hk]; simp)
 refine ⟨(s1.grown hg hrow).refoot (fun k hk=>?_),?_⟩
 ·simp only [List.mem_singleton] at hk
  subst hk
  rcases hblk with h | h
  ·exact hrow k h.symm
  ·right; omega
 ·have b1 : Below B wr w2:=((Below.refl B wr).alloc hB o).trans (hb2.mono (by simp only [World.size_alloc]; omega))
  have b2:=((((((b1.setCell (p:=⟨wr.heap.size,0,none⟩) hB a).setCell (p:=⟨wr.heap.size,1,none⟩) hB b).setCell (p:=⟨wr.heap.size,2,none⟩) hB c).setCell (p:=⟨wr.heap.size,3,none⟩) hB d).setCell (p:=⟨wr.heap.size,4,none⟩) hB x).setCell (p:=⟨wr.heap.size,5,none⟩) hB y).alloc (by simp; omega) o'
  exact b2.grown hg (by simp; omega) (fun k hk=>(own.lt k hk).1)
structure BkAt (B : Nat) (ctl : List ByteArray → List Ins → Option (List Ins × Nat)) (w : World) (F : List Nat) (l : List ByteArray) (cl : List Ins) (m : Nat) (wr : World) (lv cv : Value) (l' : List ByteArray) (cl' : List Ins) : Prop where
 lt : l'.length < m
 str : StrB B wr lv l'
 own : wr.ownsRow B 100 6 cv cl'.length (insCells cl')
 stp : Stp F w cv.ownBlock.toList wr
 ge : cl.length ≤ cl'.length
 bd : cl'.length + 2 * l'.length ≤ cl.length + 2 * l.length
 eq : rbs ctl (l.length + 1) l cl = rbs ctl m l' cl'
set_option maxRecDepth 100000 in
set_option maxHeartbeats 1000000 in
theorem rblock_walk {B : Nat} {ctl : List ByteArray → List Ins → Option (List Ins × Nat)} {f0 : Nat} (hctl : CtlOK B ctl f0) :
 ∀ (w : World) (v c : Value) (l : List ByteArray) (cl : List Ins),StrB B w v l → B ≤ w.heap.size → w.ownsRow B 100 6 c cl.length (insCells cl) → l.length ≤ f0 → cl.length + 2 * l.length ≤ 2000 →
  Calls Tryz.prog 51 #[v,c] w fun e w'=>BkPost B w c cl l.length (rbs ctl (l.length + 1) l cl) e w':=by
 intro w v c l cl hstr hB hown hlf hbd
 obtain ⟨i0,hi,hz0,hz1,hz2⟩:=info_parts Tryz.infoIns
 have HCTL:=hide hctl
 have HSTR:=hide hstr
 have HOWN:=hide hown
 clear hctl hstr hown
 go_enter Tryz.func51,Tryz.ntmps51
 go_wp2_with fail
 go_loopg [0,1] (l.length + 1) (fun m lv cv wr=>∃ (l' : List ByteArray) (cl' : List Ins),Hid (BkAt B ctl w c.ownBlock.toList l cl m wr lv cv l' cl'))
 case atStart=>exact ⟨l,cl,⟨Nat.lt_succ_self _,uh HSTR,uh HOWN,Stp.refl _ _,Nat.le_refl _,Nat.le_refl _,rfl⟩⟩
 case round =>
  obtain ⟨l',cl',hbk⟩:=hrel
  have hlt:=(uh hbk).lt
  have hbd':=(uh hbk).bd
  have hge':=(uh hbk).ge
  have hsz:=(uh hbk).stp.size
  cases l' with
  | nil =>
   obtain ⟨ao,cap,hlv,_,_,_⟩:=(uh hbk).str
   rw [hlv]
   have HE : Hid (rbs ctl (l.length + 1) l cl = some cl'):=hide (by
    rw [(uh hbk).eq]
    obtain ⟨m,rfl⟩ : ∃ m,gk = m + 1:=⟨gk - 1,by omega⟩
    rfl)
   simp only [List.length_nil]
   go_wp2_with fail
   go_ret2
   exact ⟨_,cl',true,rfl,(uh hbk).own,(uh hbk).stp,hge',by simp at hbd'; omega,Or.inr ⟨rfl,uh HE⟩⟩
  | cons x r =>
   obtain ⟨g,off,n,cap,hg,hlv,hn,hncap,hm,c0,hcell⟩:=(uh hbk).str.open
   have HST:=(uh hbk).str
   rw [hlv] at HST ⊢
   replace HST:=hide HST
   have HN:=hide hn
   have HCELL:=hide hcell
   have hn1 : 1 ≤ n:=by rw [hn]; simp
   have hnl : n < gk:=by rw [hn]; exact hlt
   have hbd2 : cl'.length + 2 * n ≤ 2000:=by rw [hn]; omega
   clear hn hcell hlv
   unfold maxLen at hm
   obtain ⟨m,rfl⟩ : ∃ m,gk = m + 1:=⟨gk - 1,by omega⟩
   have hbn : cl'.length + 2 * n ≤ cl.length + 2 * l.length:=by rw [uh HN]; exact hbd'
   clear hbd'
   cases hif : (x.toList == [105,102]) with
   | true =>
    have HDS : Hid ((eqW x ifW || eqW x whW) = true):=hide (by unfold eqW; rw [ifW_l,hif]; rfl)
    have HCC:=hide (uh HCTL wr _ _ (x :: r) cl' (uh HST) (by omega) (uh hbk).own (by rw [← uh HN]; omega) (by rw [← uh HN]; omega) (by simp only [List.getElem?_cons_zero,Option.getD_some]; exact uh HDS))
    go_wp2_with fail
    refine (uh HCC).mono ?_
    rintro e w2 ⟨c2,cl2,k,ok,rfl,hown2,hstp2,hge2,hres⟩
    have hsz2:=hstp2.size
    have HO2:=hide hown2
    have HP2:=hide hstp2
    rcases hres with ⟨rfl,hct,hle2⟩ | ⟨rfl,hct,hk1,hkn,hle2⟩
    ·have HE : Hid (rbs ctl (l.length + 1) l cl = none):=hide (by rw [(uh hbk).eq,rbs,if_pos (uh HDS),hct])
     clear hct hown2 hstp2
     go_wp2_with fail
     go_ret2
     exact ⟨_,cl2,false,rfl,uh HO2,(uh hbk).stp.trans (uh HP2),by omega,by rw [← uh HN] at hle2; omega,Or.inl ⟨rfl,uh HE⟩⟩
    ·have HE : Hid (rbs ctl (l.length + 1) l cl = rbs ctl m ((x :: r).drop k) cl2):=hide (by rw [(uh hbk).eq,rbs,if_pos (uh HDS),hct])
     rw [← uh HN] at hkn
     have HST2:=hide ((uh HST).below (hstp2.below (by omega) (fun j hj=>((uh hbk).own.lt j (by simpa using hj)).1)))
     clear hct hown2 hstp2
     by_cases hck : cap = k
     ·obtain ⟨rfl,rfl⟩ : n = k ∧ cap = k:=⟨by omega,by omega⟩
      go_wp2_with fail
      go_roundg m
      case measure=>omega
      case rel=>exact ⟨(x :: r).drop cap,cl2,⟨by simp only [List.length_drop,← uh HN]; omega,(uh HST2).rest cap (by rw [← uh HN]; omega) _ (fun h=>absurd h (by omega)) _ _ (by rw [← uh HN]; omega) (by omega),uh HO2,(uh hbk).stp.trans (uh HP2),by omega,by simp only [List.length_drop,← uh HN]; omega,uh HE⟩⟩
     ·go_wp2_with fail
      go_roundg m
      case measure=>omega
      case rel=>exact ⟨(x :: r).drop k,cl2,⟨by simp only [List.length_drop,← uh HN]; omega,(uh HST2).rest k (by rw [← uh HN]; omega) _ (fun _=>rfl) _ _ (by rw [← uh HN]) rfl,uh HO2,(uh hbk).stp.trans (uh HP2),by omega,by simp only [List.length_drop,← uh HN]; omega,uh HE⟩⟩
   | false =>
    cases hwh : (x.toList == [119,104,105,108,101]) with
    | true =>
     have HDS : Hid ((eqW x ifW || eqW x whW) = true):=hide (by unfold eqW; rw [ifW_l,whW_l,hif,hwh]; rfl)
     have HCC:=hide (uh HCTL wr _ _ (x :: r) cl' (uh HST) (by omega) (uh hbk).own (by rw [← uh HN]; omega) (by rw [← uh HN]; omega) (by simp only [List.getElem?_cons_zero,Option.getD_some]; exact uh HDS))
     go_wp2_with fail
     refine (uh HCC).mono ?_
     rintro e w2 ⟨c2,cl2,k,ok,rfl,hown2,hstp2,hge2,hres⟩
     have hsz2:=hstp2.size
     have HO2:=hide hown2
     have HP2:=hide hstp2
     rcases hres with ⟨rfl,hct,hle2⟩ | ⟨rfl,hct,hk1,hkn,hle2⟩
     ·have HE : Hid (rbs ctl (l.length + 1) l cl = none):=hide (by rw [(uh hbk).eq,rbs,if_pos (uh HDS),hct])
      clear hct hown2 hstp2
      go_wp2_with fail
      go_ret2
      exact ⟨_,cl2,false,rfl,uh HO2,(uh hbk).stp.trans (uh HP2),by omega,by rw [← uh HN] at hle2; omega,Or.inl ⟨rfl,uh HE⟩⟩
     ·have HE : Hid (rbs ctl (l.length + 1) l cl = rbs ctl m ((x :: r).drop k) cl2):=hide (by rw [(uh hbk).eq,rbs,if_pos (uh HDS),hct])
      rw [← uh HN] at hkn
      have HST2:=hide ((uh HST).below (hstp2.below (by omega) (fun j hj=>((uh hbk).own.lt j (by simpa using hj)).1)))
      clear hct hown2 hstp2
      by_cases hck : cap = k
      ·obtain ⟨rfl,rfl⟩ : n = k ∧ cap = k:=⟨by omega,by omega⟩
       go_wp2_with fail
       go_roundg m
       case measure=>omega
       case rel=>exact ⟨(x :: r).drop cap,cl2,⟨by simp only [List.length_drop,← uh HN]; omega,(uh HST2).rest cap (by rw [← uh HN]; omega) _ (fun h=>absurd h (by omega)) _ _ (by rw [← uh HN]; omega) (by omega),uh HO2,(uh hbk).stp.trans (uh HP2),by omega,by simp only [List.length_drop,← uh HN]; omega,uh HE⟩⟩
      ·go_wp2_with fail
       go_roundg m
       case measure=>omega
       case rel=>exact ⟨(x :: r).drop k,cl2,⟨by simp only [List.length_drop,← uh HN]; omega,(uh HST2).rest k (by rw [← uh HN]; omega) _ (fun _=>rfl) _ _ (by rw [← uh HN]) rfl,uh HO2,(uh hbk).stp.trans (uh HP2),by omega,by simp only [List.length_drop,← uh HN]; omega,uh HE⟩⟩
    | false =>
     have HDS : Hid (¬ (eqW x ifW || eqW x whW) = true):=hide (by unfold eqW; rw [ifW_l,whW_l,hif,hwh]; simp)
     go_wp2_with fail
     obtain ⟨wo,hwo⟩ : ∃ wo : World,wo = wr:=⟨_,rfl⟩
     clear hwo
     go_loop [6] (fun i=>∃ k : Nat,k ≤ n ∧ i = .int .i64 k ∧ Hid (∀ j,(hj : j < (x :: r).length) → j < k → eqW (x :: r)[j] seW = false)) (fun i=>n - (intOf i).toNat)
     case atStart=>exact ⟨0,Nat.zero_le _,rfl,fun _ _ h=>absurd h (by omega)⟩
     case round =>
      obtain ⟨k,hk,rfl,hall⟩:=hrel
      by_cases hgo : ∃ hlt : k < (x :: r).length,eqW (x :: r)[k] seW = false
      ·obtain ⟨hltl,hx⟩:=hgo
       have hlt' : k < n:=by rw [uh HN]; exact hltl
       have hcx:=uh HCELL k hltl
       have hx' : ((x :: r)[k].toList == [59]) = false:=by rw [← seW_l]; exact hx
       have HX:=hide hx
       obtain ⟨y,hy⟩ : ∃ y,y = (x :: r)[k]:=⟨_,rfl⟩
       rw [← hy] at hcx hx'
       clear hy hx
       go_wp2_with fail
       go_round
       case rel =>
        refine ⟨k + 1,by omega,by go_num,fun j hj hjk=>?_⟩
        by_cases hjk' : j = k
        ·subst hjk'; exact uh HX
        ·exact hall.out j hj (by omega)
       case measure=>simp [intOf]; omega
      ·by_cases hlt' : k < n
       ·have hltl : k < (x :: r).length:=by rw [← uh HN]; exact hlt'
        have hx : eqW (x :: r)[k] seW = true:=by
         cases hx : eqW (x :: r)[k] seW with
         | true=>rfl
         | false=>exact absurd ⟨hltl,hx⟩ hgo
        have HF : Hid (fndL (x :: r) seW = k):=hide (fndL_hit _ _ k hltl hall.out hx)
        have hcx:=uh HCELL k hltl
        have hx' : ((x :: r)[k].toList == [59]) = true:=by rw [← seW_l]; exact hx
        obtain ⟨y,hy⟩ : ∃ y,y = (x :: r)[k]:=⟨_,rfl⟩
        rw [← hy] at hcx hx'
        have hne : (((k : Int)) == (n : Int)) = false:=by simp; omega
        have HSIM:=hide (rsimple_any (w:=wr.alloc (.cells #[.string ⟨#[]⟩,.string ⟨#[]⟩,.string ⟨#[]⟩,.string ⟨#[]⟩,.int .i64 0,.bool false] 100)) (((uh HST).head k (by rw [← uh HN]; omega)).below (((Below.refl B wr).alloc (by omega) _))).str (by rw [List.length_take]; omega))
        clear hgo hall hy hx
        go_wp2_with fail
        refine (uh HSIM).mono ?_
        rintro e w2 ⟨⟨⟨o1,o2,o3,o4,o5,o6⟩,rfl,hins⟩,hb2⟩
        have HB2:=hide hb2
        have hz2':=hb2.size
        have hr8 : w2.heap[wr.heap.size]? = some (.cells #[.string ⟨#[]⟩,.string ⟨#[]⟩,.string ⟨#[]⟩,.string ⟨#[]⟩,.int .i64 0,.bool false] 100 (0,0)):=by
         rw [hb2.block _ (by simp)]; exact heap_alloc_new wr _
        obtain ⟨⟨q0,q1,q2,q3,q4,q5⟩,y0,y1,y2,y3,y4,y5⟩:=cellsR hr8
        have HINS:=hide hins
        have hownw : w2.ownsRow B 100 6 u1 cl'.length (insCells cl'):=rowBelow2 ((uh hbk).own.alloc _) hb2
        have hne8 : ∀ b,u1.ownBlock = some b → b ≠ wr.heap.size:=fun b hb=>by have:=((uh hbk).own.lt b hb).2; omega
        have HOW:=hide hownw
        have HNE8:=hide hne8
        simp only [World.size_alloc] at hz2'
        clear hins hb2 hr8 hownw hne8
        simp only [Ins.cells]
        go_wp2_with (at_builtin; refine wpList_app1 _ rfl (.tmp 55) (.tmp 57) 52 rfl B 100 i0 _ 6 80 Tryz.underlying52 hi hz0 hz1 hz2 rfl (by decide) _ cl'.length (insCells cl') rfl ((own6 (uh HOW) (uh HNE8) _ _ _ _ _ _).alloc _) ⟨_,0,none⟩ 1 [.string o1,.string o2,.string o3,.string o4,.int .i64 o5,.bool o6] rfl rfl (new_cells _ _ (by simp) [.string o1,.string o2,.string o3,.string o4,.int .i64 o5,.bool o6] _) (Ins.one ⟨o1,o2,o3,o4,o5,o6⟩) (by omega) (by omega) (by simp; omega) ?_)
        intro g2 cap2 w3 hown3 hgrow3 hblk3
        have R:=bk_step (uh hbk).stp (uh hbk).own (by omega) (uh HB2) hgrow3 (by simpa using hblk3)
        have HO3:=hide hown3
        have HR:=hide R
        have hz3:=R.2.size
        clear hown3 hgrow3 hblk3 R q0 q1 q2 q3 q4 q5 y0 y1 y2 y3 y4 y5
        cases hrs : rsI ((x :: r).take k) with
        | none =>
         have HE : Hid (rbs ctl (l.length + 1) l cl = none):=hide (by rw [(uh hbk).eq,rbs,if_neg (uh HDS),if_neg (by rw [uh HF]; omega),uh HF,hrs])
         simp only [Option.isSome_none]
         clear hrs
         go_wp2_with fail
         go_ret2
         exact ⟨_,cl' ++ [⟨o1,o2,o3,o4,o5,o6⟩],false,rfl,own_cast (uh HO3) (by simp) (by rw [insCells_snoc]; rfl),(uh HR).1,by simp; omega,by simp; omega,Or.inl ⟨rfl,uh HE⟩⟩
        | some i =>
         have hio : (⟨o1,o2,o3,o4,o5,o6⟩ : Ins) = i:=uh HINS i hrs
         have HE : Hid (rbs ctl (l.length + 1) l cl = rbs ctl m ((x :: r).drop (k + 1)) (cl' ++ [⟨o1,o2,o3,o4,o5,o6⟩])):=hide (by rw [(uh hbk).eq,rbs,if_neg (uh HDS),if_neg (by rw [uh HF]; omega),uh HF,hrs,hio])
         have HST3:=hide ((uh HST).below (uh HR).2)
         simp only [Option.isSome_some]
         clear hrs hio
         by_cases hck : cap = k + 1
         ·obtain ⟨rfl,rfl⟩ : n = k + 1 ∧ cap = k + 1:=⟨by omega,by omega⟩
          go_wp2_with fail
          go_roundg m
          case measure=>omega
          case rel=>exact ⟨(x :: r).drop (k + 1),cl' ++ [⟨o1,o2,o3,o4,o5,o6⟩],⟨by simp only [List.length_drop,← uh HN]; omega,(uh HST3).rest (k + 1) (by rw [← uh HN]; omega) _ (fun h=>absurd h (by omega)) _ _ (by rw [← uh HN]; omega) (by omega),own_cast (uh HO3) (by simp) (by rw [insCells_snoc]; rfl),(uh HR).1,by simp; omega,by simp only [List.length_drop,List.length_append,List.length_singleton,← uh HN]; omega,uh HE⟩⟩
         ·go_wp2_with fail
          go_roundg m
          case measure=>omega
          case rel=>exact ⟨(x :: r).drop (k + 1),cl' ++ [⟨o1,o2,o3,o4,o5,o6⟩],⟨by simp only [List.length_drop,← uh HN]; omega,(uh HST3).rest (k + 1) (by rw [← uh HN]; omega) _ (fun _=>rfl) _ _ (by rw [← uh HN]) rfl,own_cast (uh HO3) (by simp) (by rw [insCells_snoc]; rfl),(uh HR).1,by simp; omega,by simp only [List.length_drop,List.length_append,List.length_singleton,← uh HN]; omega,uh HE⟩⟩
       ·have HF : Hid (fndL (x :: r) seW = (x :: r).length):=hide (fndL_miss _ _ (fun j hj=>hall.out j hj (by rw [← uh HN] at hj; omega)))
        have hd : decide ((k : Int) < (n : Int)) = false:=by simp; omega
        have heq : (((k : Int)) == (n : Int)) = true:=by simp; omega
        have HE : Hid (rbs ctl (l.length + 1) l cl = none):=hide (by rw [(uh hbk).eq,rbs,if_neg (uh HDS),if_pos (uh HF)])
        clear hgo hall
        go_wp2_with fail
        go_ret2
        exact ⟨_,cl',false,rfl,(uh hbk).own,(uh hbk).stp,hge',by omega,Or.inl ⟨rfl,uh HE⟩⟩
end Go.Proofs.YtciihepbeacppaaGreat
