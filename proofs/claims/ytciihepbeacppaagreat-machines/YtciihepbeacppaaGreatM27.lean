import Derived.Test.YtciihepbeacppaaGreatUH
import Derived.Test.YtciihepbeacppaaGreatUG
import Derived.Test.YtciihepbeacppaaGreatWX
import Derived.Test.YtciihepbeacppaaGreatM17
namespace Go.Proofs.YtciihepbeacppaaGreat
open Go.RowKit
theorem nxK_spec (ad : List Int) (l : Int) (j : Nat) : (nxK ad l j = -1 ∧ ∀ t,t < j → ad.getD t 0 ≤ l) ∨ ∃ k : Nat,nxK ad l j = (k : Int) ∧ k < j ∧ l < ad.getD k 0 ∧ ∀ t,t < j → l < ad.getD t 0 → ad.getD k 0 ≤ ad.getD t 0:=by
 induction j with
 | zero=>exact Or.inl ⟨rfl,fun t h=>by omega⟩
 | succ j ih =>
  show (ite _ _ _ = -1 ∧ _) ∨ ∃ k : Nat,ite _ _ _ = (k : Int) ∧ _
  rcases ih with ⟨h1,h2⟩ | ⟨k,h1,h2,h3,h4⟩
  ·rw [h1]
   by_cases hc : l < ad.getD j 0
   ·rw [if_pos ⟨hc,Or.inl (by omega)⟩]
    refine Or.inr ⟨j,rfl,by omega,hc,fun t ht hl=>?_⟩
    by_cases e : t = j
    ·rw [e]; omega
    ·have:=h2 t (by omega); omega
   ·rw [if_neg (fun h=>hc h.1)]
    refine Or.inl ⟨rfl,fun t ht=>?_⟩
    by_cases e : t = j
    ·rw [e]; omega
    ·exact h2 t (by omega)
  ·rw [h1,show ((k : Int)).toNat = k by omega]
   by_cases hc : l < ad.getD j 0 ∧ ((k : Int) < 0 ∨ ad.getD j 0 < ad.getD k 0)
   ·rw [if_pos hc]
    refine Or.inr ⟨j,rfl,by omega,hc.1,fun t ht hl=>?_⟩
    by_cases e : t = j
    ·rw [e]; omega
    ·have:=h4 t (by omega) hl
     rcases hc.2 with h | h <;> omega
   ·rw [if_neg hc]
    refine Or.inr ⟨k,rfl,by omega,h3,fun t ht hl=>?_⟩
    by_cases e : t = j
    ·subst e
     apply Classical.byContradiction
     intro hn
     exact hc ⟨hl,Or.inr (by omega)⟩
    ·exact h4 t (by omega) hl
def flC (cs : List (Int × Int)) : List Int:=cs.flatMap (fun c=>[c.1,c.2])
def lastC (cs : List (Int × Int)) (n : Nat) : Int:=if n = 0 then 0 else (cs.getD (n - 1) (0,0)).1
theorem CsR.next {cs : List (Int × Int)} {ad nx : List Int} (h : CsR cs ad nx) (hp : ∀ c ∈ cs,0 < c.1) {n : Nat} (hn : n < cs.length) : ∃ k : Nat,nxK ad (lastC cs n) ad.length = (k : Int) ∧ cs[n] = (ad.getD k 0,nx.getD k 0):=by
 have hge : ∀ c ∈ cs,∃ k : Nat,k < ad.length ∧ c = (ad.getD k 0,nx.getD k 0):=fun c hc=>by
  obtain ⟨k,hk⟩:=List.mem_iff_getElem?.1 (h.pm.mem_iff.2 hc)
  obtain ⟨h1,h2⟩:=List.getElem?_zip_eq_some.1 hk
  refine ⟨k,(List.getElem?_eq_some_iff.1 h1).1,?_⟩
  rw [List.getD_eq_getElem?_getD,List.getD_eq_getElem?_getD,h1,h2]
  rfl
 have hle : ∀ k,k < ad.length → ∃ (t : Nat) (ht : t < cs.length),cs[t] = (ad.getD k 0,nx.getD k 0):=fun k hk=>by
  have hm : (ad.getD k 0,nx.getD k 0) ∈ ad.zip nx:=by
   rw [List.mem_iff_getElem?]
   exact ⟨k,List.getElem?_zip_eq_some.2 ⟨by simp [hk],by simp [h.ln,hk]⟩⟩
  obtain ⟨t,ht,e⟩:=List.mem_iff_getElem.1 (h.pm.mem_iff.1 hm)
  exact ⟨t,ht,e⟩
 have hup:=List.pairwise_iff_getElem.1 h.srt
 have hl : lastC cs n < cs[n].1:=by
  unfold lastC
  split
  ·exact hp _ (List.getElem_mem hn)
  ·rename_i h0
   rw [List.getD_eq_getElem?_getD,List.getElem?_eq_getElem (show n - 1 < cs.length by omega),Option.getD_some]
   exact hup (n - 1) n (by omega) hn (by omega)
 have hlow : ∀ t (ht : t < cs.length),lastC cs n < cs[t].1 → n ≤ t:=fun t ht hlt=>by
  apply Classical.byContradiction
  intro hc
  unfold lastC at hlt
  rw [if_neg (by omega),List.getD_eq_getElem?_getD,List.getElem?_eq_getElem (show n - 1 < cs.length by omega),Option.getD_some] at hlt
  by_cases e : t = n - 1
  ·subst e; omega
  ·have:=hup t (n - 1) ht (by omega) (by omega); omega
 obtain ⟨k0,hk0,e0⟩:=hge _ (List.getElem_mem hn)
 rcases nxK_spec ad (lastC cs n) ad.length with ⟨-,h2⟩ | ⟨k,h1,h2,h3,h4⟩
 ·exfalso
  have:=h2 k0 hk0
  rw [e0] at hl
  omega
 ·refine ⟨k,h1,?_⟩
  obtain ⟨t,ht,et⟩:=hle k h2
  have h5:=hlow t ht (by rw [et]; exact h3)
  have h6:=h4 k0 hk0 (by rw [e0] at hl; exact hl)
  by_cases e : t = n
  ·subst e; exact et
  ·exfalso
   have:=hup n t hn ht (by omega)
   rw [e0,et] at this
   dsimp only at this
   omega
theorem CsR.so {cs : List (Int × Int)} {ad nx : List Int} (h : CsR cs ad nx) (hp : ∀ c ∈ cs,0 < c.1) : ∀ n,n ≤ cs.length → soR ad nx n = (lastC cs n,flC (cs.take n)):=by
 intro n
 induction n with
 | zero=>intro _; simp [soR,lastC,flC]
 | succ n ih =>
  intro hn
  obtain ⟨k,h1,h2⟩:=h.next hp (show n < cs.length by omega)
  unfold soR
  rw [ih (by omega)]
  dsimp only
  rw [h1,show ((k : Int)).toNat = k by omega]
  refine Prod.ext ?_ ?_
  ·show ad.getD k 0 = lastC cs (n + 1)
   unfold lastC
   rw [if_neg (by omega),Nat.add_sub_cancel,List.getD_eq_getElem?_getD (l:=cs),List.getElem?_eq_getElem (show n < cs.length by omega),Option.getD_some,h2]
  ·show flC (cs.take n) ++ [ad.getD k 0,nx.getD k 0] = flC (cs.take (n + 1))
   rw [List.take_succ_eq_append_getElem (show n < cs.length by omega)]
   simp [flC,h2]
theorem CsR.soOk {cs : List (Int × Int)} {ad nx : List Int} (h : CsR cs ad nx) (hp : ∀ c ∈ cs,0 < c.1) : ∀ n,n < ad.length → 0 ≤ nxK ad (soR ad nx n).1 ad.length:=by
 intro n hn
 rw [h.so hp n (by rw [h.len]; omega)]
 obtain ⟨k,h1,-⟩:=h.next hp (show n < cs.length by rw [h.len]; exact hn)
 rw [h1]
 omega
theorem CsR.soAll {cs : List (Int × Int)} {ad nx : List Int} (h : CsR cs ad nx) (hp : ∀ c ∈ cs,0 < c.1) : (soR ad nx ad.length).2 = flC cs:=by
 rw [h.so hp _ (by rw [h.len]; exact Nat.le_refl _),← h.len,List.take_length]
theorem flC_ints (cs : List (Int × Int)) : ints (flC cs) = ceC cs:=by
 induction cs with
 | nil=>rfl
 | cons c cs ih =>
  show ints (c.1 :: c.2 :: flC cs) = .int .i64 c.1 :: .int .i64 c.2 :: ceC cs
  rw [← ih]
  rfl
def IsL (B : Nat) (w : World) (X : Nat) (ws : List ByteArray) (s : PS) (al : List Atm) : Prop :=
 ∃ Q,w.heap[X]? = some (.cells #[.pointer (some ⟨Q,0,none⟩),.pointer none] 88 (0,0)) ∧ B ≤ X ∧ IsC B w Q ws s al
theorem IsC.alloc {B : Nat} {w : World} {Q : Nat} {ws : List ByteArray} {s : PS} {al : List Atm} (h : IsC B w Q ws s al) (o : Obj) : IsC B (w.alloc o) Q ws s al:=by
 obtain ⟨vv,pv,nv,h0,hB,h1,h2,h3⟩:=h
 exact ⟨vv,pv,nv,by rw [Below.heap_alloc _ _ _ (Array.getElem?_eq_some_iff.1 h0).1]; exact h0,hB,h1.alloc o,h2.alloc o,h3.alloc o⟩
theorem IsC.below {B : Nat} {w w' : World} {Q : Nat} {ws : List ByteArray} {s : PS} {al : List Atm} (h : IsC B w Q ws s al) (hb : Below w.heap.size w w') : IsC B w' Q ws s al:=by
 obtain ⟨vv,pv,nv,h0,hB,h1,h2,h3⟩:=h
 exact ⟨vv,pv,nv,by rw [hb.block _ (Array.getElem?_eq_some_iff.1 h0).1]; exact h0,hB,rowBelow h1 hb,rowBelow h2 hb,rowBelow h3 hb⟩
theorem IsL.below {B : Nat} {w w' : World} {Q : Nat} {ws : List ByteArray} {s : PS} {al : List Atm} (h : IsL B w Q ws s al) (hb : Below w.heap.size w w') : IsL B w' Q ws s al:=by
 obtain ⟨Q,h0,hB,h1⟩:=h
 exact ⟨Q,by rw [hb.block _ (Array.getElem?_eq_some_iff.1 h0).1]; exact h0,hB,h1.below hb⟩
set_option maxRecDepth 100000 in
set_option maxHeartbeats 1000000 in
theorem load_any (s : ByteArray) (w : World) (hs : s.size ≤ 20000) :
  Calls Tryz.prog 25 #[.string s] w fun e w'=>Below w.heap.size w w' ∧
   ((rdE s.data.toList ≠ 0 ∧ e = .returned (.tuple #[.pointer none,.int .i64 (rdE s.data.toList)])) ∨
    (rdE s.data.toList = 0 ∧ ∃ X,e = .returned (.tuple #[.pointer (some ⟨X,0,none⟩),.int .i64 0]) ∧ IsL w.heap.size w' X (rdW s.data.toList) (rdS s.data.toList) (prA (rdW s.data.toList) ini))):=by
 go_enter Tryz.func25,Tryz.ntmps25
 go_wp2_with fail
 refine (read_any s w hs).mono ?_
 rintro e w1 ⟨hbl,(⟨hne,rfl⟩ | ⟨h0,Q,rfl,hc⟩)⟩
 ·have hbf : (((rdE s.data.toList : Nat) : Int) != 0) = true:=by rw [bne_iff_ne]; omega
  have HN:=hide hne
  clear hne
  go_wp2_with fail
  go_ret2
  exact ⟨hbl,Or.inl ⟨uh HN,rfl⟩⟩
 ·have H0:=hide h0
  have HC:=hide hc
  clear h0 hc
  go_wp2_with fail
  go_ret2
  have hz:=hbl.size
  exact ⟨hbl.alloc hz _,Or.inr ⟨uh H0,w1.heap.size,rfl,Q,heap_alloc_new w1 _,hz,(uh HC).alloc _⟩⟩
section
variable {B : Nat} {w : World} {X : Nat} {ws : List ByteArray} {s : PS} {al : List Atm}
theorem IsL.reads (h : IsL B w X ws s al) : ∃ Q vv pv nv,w.cell? ⟨X,0,none⟩ = some (.pointer (some ⟨Q,0,none⟩)) ∧ w.cell? ⟨Q,0,none⟩ = some (.string ⟨(jn ws).toArray⟩) ∧ w.cell? ⟨Q,1,none⟩ = some vv ∧ w.cell? ⟨Q,2,none⟩ = some pv ∧ w.cell? ⟨Q,3,none⟩ = some nv ∧
  (∃ ao cap,vv = .slice ao s.vars.length cap) ∧ (∃ ao cap,nv = .slice ao s.nodes.length cap):=by
 obtain ⟨Q,h0,hB,vv,pv,nv,hq,_,h1,h2,h3⟩:=h
 refine ⟨Q,vv,pv,nv,?_,?_,?_,?_,?_,slice_of_own h1,slice_of_own h3⟩ <;> simp [World.cell?,h0,hq]
set_option maxRecDepth 100000 in
set_option maxHeartbeats 1000000 in
theorem empty_any (h : IsL B w X ws s al) : Calls Tryz.prog 53 #[.pointer (some ⟨X,0,none⟩)] w fun e w'=>e = .returned (.bool false) ∧ ∃ n,w' = w.drewN n:=by
 obtain ⟨Q,vv,pv,nv,c0,_,_,_,_,_,_⟩:=h.reads
 clear h
 go_enter Tryz.func53,Tryz.ntmps53
 go_wp2_with fail
 go_ret
 exact ⟨rfl,0,rfl⟩
set_option maxRecDepth 100000 in
set_option maxHeartbeats 1000000 in
theorem text_any (h : IsL B w X ws s al) : Calls Tryz.prog 27 #[.pointer (some ⟨X,0,none⟩)] w fun e w'=>e = .returned (.string ⟨(jn ws).toArray⟩) ∧ ∃ n,w' = w.drewN n:=by
 have HE:=hide (empty_any h)
 obtain ⟨Q,vv,pv,nv,c0,q0,_,_,_,_,_⟩:=h.reads
 clear h
 go_enter Tryz.func27,Tryz.ntmps27
 go_wp2_with (go_at_call 53; refine (uh HE).mono ?_; rintro e w' ⟨rfl,n,rfl⟩)
 go_ret
 exact ⟨rfl,_,rfl⟩
set_option maxRecDepth 100000 in
set_option maxHeartbeats 1000000 in
theorem vars_any (h : IsL B w X ws s al) : Calls Tryz.prog 28 #[.pointer (some ⟨X,0,none⟩)] w fun e w'=>e = .returned (.int .i64 s.vars.length) ∧ ∃ n,w' = w.drewN n:=by
 have HE:=hide (empty_any h)
 obtain ⟨Q,vv,pv,nv,c0,_,q1,_,_,⟨ao,cap,rfl⟩,_⟩:=h.reads
 clear h
 go_enter Tryz.func28,Tryz.ntmps28
 go_wp2_with (go_at_call 53; refine (uh HE).mono ?_; rintro e w' ⟨rfl,n,rfl⟩)
 go_ret
 exact ⟨rfl,_,rfl⟩
set_option maxRecDepth 100000 in
set_option maxHeartbeats 1000000 in
theorem nodes_any (h : IsL B w X ws s al) : Calls Tryz.prog 29 #[.pointer (some ⟨X,0,none⟩)] w fun e w'=>e = .returned (.int .i64 s.nodes.length) ∧ ∃ n,w' = w.drewN n:=by
 have HE:=hide (empty_any h)
 obtain ⟨Q,vv,pv,nv,c0,_,_,_,q3,_,⟨ao,cap,rfl⟩⟩:=h.reads
 clear h
 go_enter Tryz.func29,Tryz.ntmps29
 go_wp2_with (go_at_call 53; refine (uh HE).mono ?_; rintro e w' ⟨rfl,n,rfl⟩)
 go_ret
 exact ⟨rfl,_,rfl⟩
end
def Eqv (l : List UInt8) : Prop :=
 rdE l = rrE l ∧ (rdE l = 0 → ∀ al cl,rrS (rrW l) = some (al,cl) → (rdS l).vars.length = (nmV (rrW l) (rrW l).length).length ∧ (rdS l).nodes.length = cl.length + 1)
theorem below_drewN (w : World) (n : Nat) : Below w.heap.size w (w.drewN n):=⟨rfl,rfl,rfl,Nat.le_refl _,fun _ _=>rfl⟩
def Rd (ws : List ByteArray) (s : PS) (r : List ByteArray) : Prop:=s.failed = false ∧ ws.drop s.pos = r ∧ s.pos ≤ ws.length
def Res (ws : List ByteArray) (s : PS) : Option (List ByteArray) → Prop
 | none=>s.failed = true
 | some r=>Rd ws s r
structure Par (ws : List ByteArray) (F : PS → PS) (f : List ByteArray → Option (List ByteArray)) : Prop where
 ok : ∀ s r,Rd ws s r → Res ws (F s) (f r)
 bad : ∀ s,s.failed = true → (F s).failed = true
 nd : ∀ s,(F s).nodes = s.nodes
def hdB (k : ByteArray) : List ByteArray → Bool
 | []=>false
 | x :: _=>eqW x k
def pEx (k : ByteArray) : List ByteArray → Option (List ByteArray)
 | []=>none
 | x :: r=>if eqW x k then some r else none
theorem pk_rd {ws : List ByteArray} {s : PS} {x : ByteArray} {r : List ByteArray} (h : Rd ws s (x :: r)) : pk ws s = x:=by
 unfold pk; rw [if_neg (by simp [h.1])]
 have : ws[s.pos]? = some x:=by rw [← List.head?_drop,h.2.1]; rfl
 rw [this]; rfl
theorem pk_nil {ws : List ByteArray} {s : PS} (h : Rd ws s []) : pk ws s = ⟨#[]⟩:=by
 apply pk_end
 have:=congrArg List.length h.2.1
 simp only [List.length_drop,List.length_nil] at this
 omega
theorem adv_rd {ws : List ByteArray} {s : PS} {x : ByteArray} {r : List ByteArray} (h : Rd ws s (x :: r)) : Rd ws s.adv r :=
 ⟨h.1,by show ws.drop (s.pos + 1) = r; rw [← List.drop_drop,h.2.1]; rfl,by
  have:=congrArg List.length h.2.1
  simp only [List.length_drop,List.length_cons] at this
  show s.pos + 1 ≤ ws.length
  omega⟩
theorem em_l3 : (⟨#[]⟩ : ByteArray).toList = []:=ByteArray.toList_eq _
theorem acB_rd {ws : List ByteArray} {s : PS} {k : ByteArray} {r : List ByteArray} (hk : k.toList ≠ []) (h : Rd ws s r) : acB ws k s = hdB k r:=by
 cases r with
 | nil=>unfold acB; rw [pk_nil h,em_l3]; cases hk' : k.toList with
  | nil=>exact absurd hk' hk
  | cons _ _=>rfl
 | cons x r=>unfold acB; rw [pk_rd h]; rfl
theorem acB_bad {ws : List ByteArray} {s : PS} {k : ByteArray} (hk : k.toList ≠ []) (h : s.failed = true) : acB ws k s = false:=by
 unfold acB; rw [pk_failed h,em_l3]; cases hk' : k.toList with
  | nil=>exact absurd hk' hk
  | cons _ _=>rfl
theorem Par.comp {ws : List ByteArray} {F G : PS → PS} {f g : List ByteArray → Option (List ByteArray)} (hF : Par ws F f) (hG : Par ws G g) : Par ws (fun s=>G (F s)) (fun r=>(f r).bind g):=by
 refine ⟨fun s r h=>?_,fun s h=>hG.bad _ (hF.bad _ h),fun s=>(hG.nd _).trans (hF.nd s)⟩
 have:=hF.ok s r h
 cases hf : f r with
 | none=>rw [hf] at this; exact hG.bad _ this
 | some r'=>rw [hf] at this; exact hG.ok _ _ this
theorem Par.ite {ws : List ByteArray} {A B : PS → PS} {a b : List ByteArray → Option (List ByteArray)} {k : ByteArray} (hk : k.toList ≠ []) (hA : ∀ s x r,Rd ws s (x :: r) → Res ws (A s) (a (x :: r))) (hN : ∀ s,(A s).nodes = s.nodes) (hB : Par ws B b) : Par ws (fun s=>if acB ws k s then A s else B s) (fun r=>if hdB k r then a r else b r):=by
 refine ⟨fun s r h=>?_,fun s h=>?_,fun s=>by split; exact hN s; exact hB.nd s⟩
 ·rw [acB_rd hk h]
  cases r with
  | nil=>simp only [hdB,Bool.false_eq_true,if_false]; exact hB.ok _ _ h
  | cons x r =>
   split
   ·exact hA _ _ _ h
   ·exact hB.ok _ _ h
 ·rw [acB_bad hk h]; exact hB.bad _ h
theorem par_ex {ws : List ByteArray} {k : ByteArray} (hk : k.toList ≠ []) : Par ws (exS ws k) (pEx k):=by
 refine ⟨fun s r h=>?_,fun s h=>?_,fun s=>by unfold exS; split <;> rfl⟩
 ·unfold exS; rw [acB_rd hk h]
  cases r with
  | nil=>simp [hdB,pEx,Res,PS.fail]
  | cons x r =>
   show Res ws (if eqW x k = true then s.adv else s.fail) (if eqW x k = true then some r else none)
   by_cases hx : eqW x k = true
   ·rw [if_pos hx,if_pos hx]; exact adv_rd h
   ·rw [if_neg hx,if_neg hx]; rfl
 ·unfold exS; rw [acB_bad hk h]; simp [PS.fail]
def pVa : List ByteArray → Option (List ByteArray)
 | []=>none
 | x :: r=>if lowB x then some r else none
theorem lowB_em : lowB ⟨#[]⟩ = false:=rfl
theorem upB_em : upB ⟨#[]⟩ = false:=rfl
theorem par_va {ws : List ByteArray} : Par ws (vaS ws) pVa:=by
 refine ⟨fun s r h=>?_,fun s h=>?_,fun s=>by unfold vaS; split <;> rfl⟩
 ·unfold vaS
  cases r with
  | nil=>rw [pk_nil h,lowB_em]; simp [pVa,Res,PS.fail]
  | cons x r =>
   rw [pk_rd h]; simp only [pVa]
   split
   ·exact ⟨h.1,(adv_rd h).2⟩
   ·simp [Res,PS.fail]
 ·unfold vaS; rw [pk_failed h,lowB_em]; simp [PS.fail]
theorem kNil_n : kNil.toList ≠ []:=by rw [ByteArray.toList_eq]; simp [kNil]
theorem kEq_n : kEq.toList ≠ []:=by rw [ByteArray.toList_eq]; simp [kEq]
theorem kNe_n : kNe.toList ≠ []:=by rw [ByteArray.toList_eq]; simp [kNe]
theorem kTo_n : kTo.toList ≠ []:=by rw [ByteArray.toList_eq]; simp [kTo]
theorem kOpen_n : kOpen.toList ≠ []:=by rw [ByteArray.toList_eq]; simp [kOpen]
theorem kComma_n : kComma.toList ≠ []:=by rw [ByteArray.toList_eq]; simp [kComma]
theorem kClose_n : kClose.toList ≠ []:=by rw [ByteArray.toList_eq]; simp [kClose]
theorem kEmp_n : kEmp.toList ≠ []:=by rw [ByteArray.toList_eq]; simp [kEmp]
theorem kLs_n : kLs.toList ≠ []:=by rw [ByteArray.toList_eq]; simp [kLs]
theorem kStar_n : kStar.toList ≠ []:=by rw [ByteArray.toList_eq]; simp [kStar]
def pVal (r : List ByteArray) : Option (List ByteArray):=if hdB kNil r then some r.tail else pVa r
theorem par_val {ws : List ByteArray} : Par ws (valS ws) pVal:=Par.ite kNil_n (fun _ _ _ h=>adv_rd h) (fun _=>rfl) par_va
def pTe : List ByteArray → Option (List ByteArray)
 | []=>none
 | x :: r=>if upB x then some r else pVal (x :: r)
theorem par_te {ws : List ByteArray} : Par ws (teS ws) pTe:=by
 refine ⟨fun s r h=>?_,fun s h=>?_,fun s=>by unfold teS; split; rfl; exact par_val.nd s⟩
 ·unfold teS
  cases r with
  | nil=>rw [pk_nil h,upB_em]; exact par_val.ok _ _ h
  | cons x r =>
   rw [pk_rd h]; simp only [pTe]
   cases hx : upB x with
   | true=>exact ⟨h.1,(adv_rd h).2⟩
   | false=>exact par_val.ok _ _ h
 ·unfold teS; rw [pk_failed h,upB_em]; exact par_val.bad _ h
def pRel (r : List ByteArray) : Option (List ByteArray):=if hdB kEq r then some r.tail else if hdB kNe r then some r.tail else pEx kTo r
theorem par_rel {ws : List ByteArray} : Par ws (relS ws) pRel:=Par.ite kEq_n (fun _ _ _ h=>adv_rd h) (fun _=>rfl) (Par.ite kNe_n (fun _ _ _ h=>adv_rd h) (fun _=>rfl) (par_ex kTo_n))
def pLi (r : List ByteArray) : Option (List ByteArray):=((((pEx kOpen r).bind pTe).bind (pEx kComma)).bind pTe).bind (pEx kClose)
theorem par_li {ws : List ByteArray} : Par ws (liS ws) pLi:=((((par_ex kOpen_n).comp par_te).comp (par_ex kComma_n)).comp par_te).comp (par_ex kClose_n)
def pAtom (r : List ByteArray) : Option (List ByteArray):=if hdB kEmp r then some r.tail else if hdB kLs r then pLi r.tail else ((pTe r).bind pRel).bind pTe
theorem par_atom {ws : List ByteArray} : Par ws (atS ws) pAtom :=
 Par.ite kEmp_n (fun _ _ _ h=>adv_rd h) (fun _=>rfl) (Par.ite kLs_n (fun _ _ _ h=>par_li.ok _ _ (adv_rd h)) (fun s=>par_li.nd s.adv) ((par_te.comp par_rel).comp par_te))
theorem par_id {ws : List ByteArray} : Par ws (fun s=>s) some:=⟨fun _ _ h=>h,fun _ h=>h,fun _=>rfl⟩
def pFoG : Nat → List ByteArray → Option (List ByteArray)
 | 0,r=>some r
 | n + 1,r=>if hdB kStar r then (pAtom r.tail).bind (pFoG n) else some r
theorem par_foG {ws : List ByteArray} (n : Nat) : Par ws (fun s=>(foG ws n s).2) (pFoG n):=by
 induction n with
 | zero=>exact par_id
 | succ n ih =>
  have e : (fun s=>(foG ws (n + 1) s).2) = (fun s=>if acB ws kStar s then (foG ws n (atS ws s.adv)).2 else s):=by
   funext s; simp only [foG]; split <;> rfl
  rw [e]
  exact Par.ite kStar_n (fun _ _ _ h=>(par_atom.comp ih).ok _ _ (adv_rd h)) (fun s=>(par_atom.comp ih).nd s.adv) par_id
def pFor (n : Nat) (r : List ByteArray) : Option (List ByteArray):=(pAtom r).bind (pFoG n)
theorem par_for {ws : List ByteArray} : Par ws (foS ws) (pFor (ws.length + 1)):=par_atom.comp (par_foG (ws.length + 1))
theorem kNew_n : kNew.toList ≠ []:=by rw [ByteArray.toList_eq]; simp [kNew]
theorem kDot_n : kDot.toList ≠ []:=by rw [ByteArray.toList_eq]; simp [kDot]
theorem kN_n : kN.toList ≠ []:=by rw [ByteArray.toList_eq]; simp [kN]
theorem kSkip_n : kSkip.toList ≠ []:=by rw [ByteArray.toList_eq]; simp [kSkip]
theorem kFree_n : kFree.toList ≠ []:=by rw [ByteArray.toList_eq]; simp [kFree]
theorem kLB_n : kLB.toList ≠ []:=by rw [ByteArray.toList_eq]; simp [kLB]
theorem kRB_n : kRB.toList ≠ []:=by rw [ByteArray.toList_eq]; simp [kRB]
theorem kSemi_n : kSemi.toList ≠ []:=by rw [ByteArray.toList_eq]; simp [kSemi]
theorem kIf_n : kIf.toList ≠ []:=by rw [ByteArray.toList_eq]; simp [kIf]
theorem kWhile_n : kWhile.toList ≠ []:=by rw [ByteArray.toList_eq]; simp [kWhile]
theorem kElse_n : kElse.toList ≠ []:=by rw [ByteArray.toList_eq]; simp [kElse]
theorem kPre_n : kPre.toList ≠ []:=by rw [ByteArray.toList_eq]; simp [kPre]
def pCoT (r : List ByteArray) : Option (List ByteArray):=if hdB kNe r then some r.tail else pEx kEq r
def pCo (r : List ByteArray) : Option (List ByteArray):=if hdB kStar r then some r.tail else ((pVa r).bind pCoT).bind pVal
theorem par_coT {ws : List ByteArray} : Par ws (coT ws) pCoT:=Par.ite kNe_n (fun _ _ _ h=>adv_rd h) (fun _=>rfl) (par_ex kEq_n)
theorem par_co {ws : List ByteArray} : Par ws (coS ws) pCo:=Par.ite kStar_n (fun _ _ _ h=>adv_rd h) (fun _=>rfl) ((par_va.comp par_coT).comp par_val)
def pTs (r : List ByteArray) : Option (List ByteArray):=((pEx kOpen r).bind pCo).bind (pEx kClose)
theorem par_ts {ws : List ByteArray} : Par ws (tsP ws) pTs:=((par_ex kOpen_n).comp par_co).comp (par_ex kClose_n)
def pAs (r : List ByteArray) : Option (List ByteArray) :=
 if hdB kNew r then some r.tail else if !hdB kNil r && (match pVal r with | some q=>hdB kDot q | none=>false) then (pVal r).bind (fun q=>pEx kN q.tail) else pVal r
theorem par_as {ws : List ByteArray} : Par ws (asS ws) pAs:=by
 refine Par.ite (b:=fun r=>if !hdB kNil r && (match pVal r with | some q=>hdB kDot q | none=>false) then (pVal r).bind (fun q=>pEx kN q.tail) else pVal r) kNew_n (fun _ _ _ h=>adv_rd h) (fun _=>rfl) ⟨fun s r h=>?_,fun s h=>?_,fun s=>?_⟩
 ·have hv:=par_val.ok s r h
  have hk : (valK ws s == 1) = !hdB kNil r:=by
   unfold valK; rw [acB_rd kNil_n h]; cases hdB kNil r <;> rfl
  unfold asD; rw [hk]
  cases hp : pVal r with
  | none =>
   rw [hp] at hv
   rw [acB_bad kDot_n hv]
   simp only [Bool.and_false,Bool.false_eq_true,if_false]
   exact hv
  | some q =>
   rw [hp] at hv
   rw [acB_rd kDot_n hv]
   by_cases hc : (!hdB kNil r && hdB kDot q) = true
   ·rw [if_pos hc,if_pos hc]
    cases q with
    | nil=>simp [hdB] at hc
    | cons y q=>exact (par_ex kN_n).ok _ _ (adv_rd hv)
   ·rw [if_neg hc,if_neg hc]; exact hv
 ·have hv:=(par_val (ws:=ws)).bad s h
  unfold asD; rw [acB_bad kDot_n hv]; simp only [Bool.and_false,Bool.false_eq_true,if_false]; exact hv
 ·split
  ·exact ((par_ex kN_n).nd _).trans (par_val.nd s)
  ·exact par_val.nd s
def pSi2 (r : List ByteArray) : Option (List ByteArray):=if hdB kDot r then (((pEx kN r.tail).bind (pEx kEq)).bind pVal) else (pEx kEq r).bind pAs
theorem par_si2 {ws : List ByteArray} : Par ws (fun t=>if acB ws kDot t then valS ws (siL ws t) else asS ws (exS ws kEq t)) pSi2 :=
 Par.ite kDot_n (fun _ _ _ h=>(((par_ex kN_n).comp (par_ex kEq_n)).comp par_val).ok _ _ (adv_rd h)) (fun s=>(((par_ex kN_n).comp (par_ex kEq_n)).comp par_val).nd s.adv) ((par_ex kEq_n).comp par_as)
def pSi (r : List ByteArray) : Option (List ByteArray):=if hdB kSkip r then some r.tail else if hdB kFree r then pVa r.tail else (pVa r).bind pSi2
theorem par_si {ws : List ByteArray} : Par ws (siS ws) pSi :=
 Par.ite kSkip_n (fun _ _ _ h=>adv_rd h) (fun _=>rfl) (Par.ite kFree_n (fun _ _ _ h=>par_va.ok _ _ (adv_rd h)) (fun s=>par_va.nd s.adv) (par_va.comp par_si2))
def ResN (ws : List ByteArray) (n : Nat) (s : PS) : Option (List ByteArray × Nat) → Prop
 | none=>s.failed = true
 | some (q,k)=>Rd ws s q ∧ s.nodes.length = n + k
structure ParN (ws : List ByteArray) (F : PS → PS) (f : List ByteArray → Option (List ByteArray × Nat)) : Prop where
 ok : ∀ s r,Rd ws s r → ResN ws s.nodes.length (F s) (f r)
 bad : ∀ s,s.failed = true → (F s).failed = true
def sqN (f g : List ByteArray → Option (List ByteArray × Nat)) (r : List ByteArray) : Option (List ByteArray × Nat) :=
 match f r with
 | none=>none
 | some (q,k)=>match g q with
  | none=>none
  | some (p,j)=>some (p,k + j)
def n0 (f : List ByteArray → Option (List ByteArray)) (r : List ByteArray) : Option (List ByteArray × Nat):=(f r).map (fun q=>(q,0))
def n1 (f : List ByteArray → Option (List ByteArray)) (r : List ByteArray) : Option (List ByteArray × Nat):=(f r).map (fun q=>(q,1))
theorem Par.n {ws : List ByteArray} {F : PS → PS} {f : List ByteArray → Option (List ByteArray)} (h : Par ws F f) : ParN ws F (n0 f):=by
 refine ⟨fun s r hr=>?_,h.bad⟩
 have:=h.ok s r hr
 unfold n0
 cases hf : f r with
 | none=>rw [hf] at this; exact this
 | some q=>rw [hf] at this; exact ⟨this,by rw [h.nd s]; rfl⟩
theorem Par.n1 {ws : List ByteArray} {F G : PS → PS} {f : List ByteArray → Option (List ByteArray)} (h : Par ws F f) (hf : ∀ s,(G s).failed = (F s).failed) (hp : ∀ s,(G s).pos = (F s).pos) (hn : ∀ s,(G s).nodes.length = (F s).nodes.length + 1) : ParN ws G (n1 f):=by
 refine ⟨fun s r hr=>?_,fun s hs=>by rw [hf]; exact h.bad s hs⟩
 have:=h.ok s r hr
 unfold Proofs.YtciihepbeacppaaGreat.n1
 cases hfr : f r with
 | none=>rw [hfr] at this; exact (hf s).trans this
 | some q =>
  rw [hfr] at this
  exact ⟨⟨(hf s).trans this.1,by rw [hp s]; exact this.2⟩,by rw [hn s,h.nd s]⟩
theorem ParN.comp {ws : List ByteArray} {F G : PS → PS} {f g : List ByteArray → Option (List ByteArray × Nat)} (hF : ParN ws F f) (hG : ParN ws G g) : ParN ws (fun s=>G (F s)) (sqN f g):=by
 refine ⟨fun s r h=>?_,fun s h=>hG.bad _ (hF.bad _ h)⟩
 have h1:=hF.ok s r h
 unfold sqN
 cases hf : f r with
 | none=>rw [hf] at h1; exact hG.bad _ h1
 | some qk =>
  obtain ⟨q,k⟩:=qk
  rw [hf] at h1
  have h2:=hG.ok _ _ h1.1
  rw [h1.2] at h2
  dsimp only
  cases hg : g q with
  | none=>rw [hg] at h2; exact h2
  | some pj =>
   obtain ⟨p,j⟩:=pj
   rw [hg] at h2
   exact ⟨h2.1,by rw [h2.2]; omega⟩
theorem ParN.congr {ws : List ByteArray} {F G : PS → PS} {f : List ByteArray → Option (List ByteArray × Nat)} (h : ParN ws F f) (hf : ∀ s,(G s).failed = (F s).failed) (hp : ∀ s,(G s).pos = (F s).pos) (hn : ∀ s,(G s).nodes.length = (F s).nodes.length) : ParN ws G f:=by
 refine ⟨fun s r hr=>?_,fun s hs=>by rw [hf]; exact h.bad s hs⟩
 have:=h.ok s r hr
 cases hfr : f r with
 | none=>rw [hfr] at this; exact (hf s).trans this
 | some q =>
  rw [hfr] at this
  exact ⟨⟨(hf s).trans this.1.1,by rw [hp s]; exact this.1.2⟩,by rw [hn s]; exact this.2⟩
def pSc : List ByteArray → Option (List ByteArray × Nat):=n1 (fun r=>(pSi r).bind (pEx kSemi))
theorem par_sc {ws : List ByteArray} : ParN ws (scS ws) pSc:=(par_si.comp (par_ex kSemi_n)).n1 (fun _=>rfl) (fun _=>rfl) (fun _=>by simp [scS,addS])
def pTn : List ByteArray → Option (List ByteArray × Nat):=n1 pTs
theorem par_tn {ws : List ByteArray} : ParN ws (tsS ws) pTn:=par_ts.n1 (fun _=>rfl) (fun _=>rfl) (fun _=>by simp [tsS,addS])
def pHd (k : ByteArray) (pb : List ByteArray → Option (List ByteArray × Nat)) : List ByteArray → Option (List ByteArray × Nat):=sqN (sqN (n0 (pEx k)) pTn) pb
def one (r : List ByteArray) : Option (List ByteArray × Nat):=some (r,1)
def pLo (pb : List ByteArray → Option (List ByteArray × Nat)) : List ByteArray → Option (List ByteArray × Nat):=sqN (pHd kWhile pb) one
theorem par_one {ws : List ByteArray} : ParN ws (addS jmp) one:=⟨fun _ _ h=>⟨h,by simp [addS]⟩,fun _ h=>h⟩
theorem par_lo {ws : List ByteArray} {blk : PS → PS} {pb : List ByteArray → Option (List ByteArray × Nat)} (hb : ParN ws blk pb) : ParN ws (loS blk ws) (pLo pb) :=
 (((((par_ex kWhile_n).n).comp par_tn).comp hb).comp par_one).congr (fun _=>rfl) (fun _=>rfl) (fun _=>by simp only [loS,setOt_length,setNx_length]; rfl)
def pEl (pb : List ByteArray → Option (List ByteArray × Nat)) (r : List ByteArray) : Option (List ByteArray × Nat):=if hdB kElse r then sqN one pb r.tail else some (r,0)
def pBr (pb : List ByteArray → Option (List ByteArray × Nat)) : List ByteArray → Option (List ByteArray × Nat):=sqN (pHd kIf pb) (pEl pb)
theorem par_br {ws : List ByteArray} {blk : PS → PS} {pb : List ByteArray → Option (List ByteArray × Nat)} (hb : ParN ws blk pb) : ParN ws (brS blk ws) (pBr pb):=by
 have hA : ParN ws (brA blk ws) (pHd kIf pb):=((((par_ex kIf_n).n).comp par_tn).comp hb)
 refine ⟨fun s r h=>?_,fun s h=>?_⟩
 ·have h1:=hA.ok s r h
  unfold pBr sqN brS
  cases hf : pHd kIf pb r with
  | none=>rw [hf] at h1; rw [acB_bad kElse_n h1]; exact h1
  | some qk =>
   obtain ⟨q,k⟩:=qk
   rw [hf] at h1
   rw [acB_rd kElse_n h1.1]
   dsimp only
   unfold pEl
   cases q with
   | nil=>exact ⟨h1.1,by rw [show hdB kElse [] = false from rfl]; simp only [Bool.false_eq_true,if_false,setOt_length]; exact h1.2⟩
   | cons y q =>
    by_cases hy : hdB kElse (y :: q) = true
    ·rw [if_pos hy,if_pos hy]
     have ht : Rd ws (brB s.nodes.length (brA blk ws s)) q:=adv_rd h1.1
     have hl : (brB s.nodes.length (brA blk ws s)).nodes.length = s.nodes.length + k + 1:=by
      simp only [brB,setOt_length]; simp [addS,PS.adv,h1.2]
     have h2:=hb.ok _ _ ht
     rw [hl] at h2
     simp only [sqN,one,List.tail_cons]
     cases hg : pb q with
     | none=>rw [hg] at h2; exact h2
     | some pj =>
      obtain ⟨p,j⟩:=pj
      rw [hg] at h2
      exact ⟨h2.1,by simp only [brC,setNx_length]; rw [h2.2]; omega⟩
    ·rw [if_neg hy,if_neg hy]
     exact ⟨h1.1,by simp only [setOt_length]; exact h1.2⟩
 ·have h1:=hA.bad s h
  unfold brS; rw [acB_bad kElse_n h1]; exact h1
def pCm (pb : List ByteArray → Option (List ByteArray × Nat)) (r : List ByteArray) : Option (List ByteArray × Nat):=if hdB kIf r then pBr pb r else if hdB kWhile r then pLo pb r else pSc r
theorem par_cm {ws : List ByteArray} {blk : PS → PS} {pb : List ByteArray → Option (List ByteArray × Nat)} (hb : ParN ws blk pb) : ParN ws (cmB blk ws) (pCm pb):=by
 refine ⟨fun s r h=>?_,fun s h=>?_⟩
 ·unfold cmB pCm
  rw [acB_rd kIf_n h,acB_rd kWhile_n h]
  by_cases h1 : hdB kIf r = true
  ·rw [if_pos h1,if_pos h1]; exact (par_br hb).ok _ _ h
  ·rw [if_neg h1,if_neg h1]
   by_cases h2 : hdB kWhile r = true
   ·rw [if_pos h2,if_pos h2]; exact (par_lo hb).ok _ _ h
   ·rw [if_neg h2,if_neg h2]; exact par_sc.ok _ _ h
 ·unfold cmB; rw [acB_bad kIf_n h,acB_bad kWhile_n h]; exact par_sc.bad _ h
def pCs (pc : List ByteArray → Option (List ByteArray × Nat)) : Nat → List ByteArray → Option (List ByteArray × Nat)
 | 0,r=>some (r,0)
 | n + 1,r=>if hdB kRB r then some (r,0) else sqN pc (pCs pc n) r
theorem par_cs {ws : List ByteArray} {c : PS → PS} {pc : List ByteArray → Option (List ByteArray × Nat)} (hc : ParN ws c pc) (n : Nat) : ParN ws (cmS c ws n) (pCs pc n):=by
 induction n with
 | zero=>exact ⟨fun _ _ h=>⟨h,rfl⟩,fun _ h=>h⟩
 | succ n ih =>
  refine ⟨fun s r h=>?_,fun s h=>?_⟩
  ·simp only [cmS,pCs]
   rw [acB_rd kRB_n h,h.1,Bool.false_or]
   by_cases h1 : hdB kRB r = true
   ·rw [if_pos h1,if_pos h1]; exact ⟨h,rfl⟩
   ·rw [if_neg h1,if_neg h1]; exact (hc.comp ih).ok _ _ h
  ·simp only [cmS,h,Bool.true_or,if_true]
def pBl (N : Nat) : Nat → List ByteArray → Option (List ByteArray × Nat)
 | 0,r=>some (r,0)
 | f + 1,r=>sqN (sqN (n0 (pEx kLB)) (pCs (pCm (pBl N f)) N)) (n0 (pEx kRB)) r
theorem par_bl {ws : List ByteArray} (f : Nat) : ParN ws (blS ws f) (pBl (ws.length + 2) f):=by
 induction f with
 | zero=>exact ⟨fun _ _ h=>⟨h,rfl⟩,fun _ h=>h⟩
 | succ f ih=>exact (((par_ex kLB_n).n).comp (par_cs (par_cm ih) (ws.length + 2))).comp (par_ex kRB_n).n
def pPr (N : Nat) : List ByteArray → Option (List ByteArray × Nat):=sqN (sqN (sqN (n0 (pEx kPre)) (n0 (pFor (N + 1)))) (pBl (N + 2) (N + 1))) one
theorem par_pr {ws : List ByteArray} : ParN ws (prT ws) (pPr ws.length) :=
 ((((par_ex kPre_n).n.comp par_for.n).comp (par_bl (ws.length + 1))).comp (G:=addS ndEnd) ⟨fun _ _ h=>⟨h,by simp [addS]⟩,fun _ h=>h⟩)
theorem rd_some {ws : List ByteArray} {k : Nat} (h : pPr ws.length ws = some ([],k)) : (prS ws ini).failed = false ∧ (prS ws ini).nodes.length = k ∧ (prS ws ini).pos = ws.length:=by
 have h1:=(par_pr (ws:=ws)).ok ini ws ⟨rfl,rfl,Nat.zero_le _⟩
 rw [h] at h1
 have hp : (prT ws ini).pos = ws.length:=by
  have:=congrArg List.length h1.1.2.1
  simp only [List.length_drop,List.length_nil] at this
  have:=h1.1.2.2
  omega
 unfold prS; rw [if_pos hp]
 exact ⟨h1.1.1,by rw [h1.2]; simp [ini],hp⟩
theorem rd_none {ws : List ByteArray} (h : ∀ k,pPr ws.length ws ≠ some ([],k)) : (prS ws ini).failed = true:=by
 have h1:=(par_pr (ws:=ws)).ok ini ws ⟨rfl,rfl,Nat.zero_le _⟩
 unfold prS
 cases hf : pPr ws.length ws with
 | none=>rw [hf] at h1; split; exact h1; rfl
 | some qk =>
  obtain ⟨q,k⟩:=qk
  rw [hf] at h1
  cases q with
  | nil=>exact absurd hf (h k)
  | cons x q =>
   have hp : ¬ (prT ws ini).pos = ws.length:=by
    have:=congrArg List.length h1.1.2.1
    simp only [List.length_drop,List.length_cons] at this
    omega
   rw [if_neg hp]; rfl
theorem pTe_cons (x : ByteArray) (r : List ByteArray) : pTe (x :: r) = if nameB x = true then some r else none:=by
 show (if upB x = true then some r else if eqW x nilW = true then some r else if lowB x = true then some r else none) = if (eqW x nilW || lowB x || upB x) = true then some r else none
 cases upB x <;> cases eqW x nilW <;> cases lowB x <;> rfl
def relB (x : ByteArray) : Bool:=eqW x eqSW || eqW x neSW || eqW x toW
theorem pRel_cons (x : ByteArray) (r : List ByteArray) : pRel (x :: r) = if relB x = true then some r else none:=by
 show (if eqW x eqSW = true then some r else if eqW x neSW = true then some r else if eqW x toW = true then some r else none) = if (eqW x eqSW || eqW x neSW || eqW x toW) = true then some r else none
 cases eqW x eqSW <;> cases eqW x neSW <;> cases eqW x toW <;> rfl
theorem pAtom_cons (x : ByteArray) (r : List ByteArray) : pAtom (x :: r) = if eqW x empW = true then some r else if eqW x lsW = true then pLi r else ((if nameB x = true then some r else none).bind pRel).bind pTe:=by
 rw [← pTe_cons]; rfl
theorem pEx_cons (k x : ByteArray) (r : List ByteArray) : pEx k (x :: r) = if eqW x k = true then some r else none:=rfl
theorem name_emp {x : ByteArray} (h : eqW x empW = true) : nameB x = false:=by
 have hx : x.toList = [101,109,112]:=by simpa [eqW,empW_l] using h
 have hd : x.data.toList = [101,109,112]:=by rw [← ByteArray.toList_eq]; exact hx
 simp [nameB,eqW,lowB,upB,hd,hx,show nilW.toList = [110,105,108] from ByteArray.toList_eq _]
theorem name_ls {x : ByteArray} (h : eqW x lsW = true) : nameB x = false:=by
 have hx : x.toList = [108,115]:=by simpa [eqW,lsW_l] using h
 have hd : x.data.toList = [108,115]:=by rw [← ByteArray.toList_eq]; exact hx
 simp [nameB,eqW,lowB,upB,hd,hx,show nilW.toList = [110,105,108] from ByteArray.toList_eq _]
theorem pEx_some {k : ByteArray} {r q : List ByteArray} : pEx k r = some q ↔ ∃ x,eqW x k = true ∧ r = x :: q:=by
 cases r with
 | nil=>simp [pEx]
 | cons y r =>
  rw [pEx_cons]
  by_cases h : eqW y k = true
  ·rw [if_pos h]
   exact ⟨fun e=>by cases e; exact ⟨y,h,rfl⟩,fun ⟨x,_,e⟩=>by cases e; rfl⟩
  ·rw [if_neg h]
   exact ⟨fun e=>(by cases e),fun ⟨x,hx,e⟩=>by cases e; exact absurd hx h⟩
theorem pTe_some {r q : List ByteArray} : pTe r = some q ↔ ∃ x,nameB x = true ∧ r = x :: q:=by
 cases r with
 | nil=>simp [pTe]
 | cons y r =>
  rw [pTe_cons]
  by_cases h : nameB y = true
  ·rw [if_pos h]
   exact ⟨fun e=>by cases e; exact ⟨y,h,rfl⟩,fun ⟨x,_,e⟩=>by cases e; rfl⟩
  ·rw [if_neg h]
   exact ⟨fun e=>(by cases e),fun ⟨x,hx,e⟩=>by cases e; exact absurd hx h⟩
theorem pRel_some {r q : List ByteArray} : pRel r = some q ↔ ∃ x,relB x = true ∧ r = x :: q:=by
 cases r with
 | nil=>simp [pRel,hdB,pEx]
 | cons y r =>
  rw [pRel_cons]
  by_cases h : relB y = true
  ·rw [if_pos h]
   exact ⟨fun e=>by cases e; exact ⟨y,h,rfl⟩,fun ⟨x,_,e⟩=>by cases e; rfl⟩
  ·rw [if_neg h]
   exact ⟨fun e=>(by cases e),fun ⟨x,hx,e⟩=>by cases e; exact absurd hx h⟩
theorem pLi_some {r q : List ByteArray} : pLi r = some q ↔ ∃ b c d e f,eqW b opW = true ∧ nameB c = true ∧ eqW d cmW = true ∧ nameB e = true ∧ eqW f clW = true ∧ r = b :: c :: d :: e :: f :: q:=by
 constructor
 ·intro h
  unfold pLi at h
  obtain ⟨r4,h,h5⟩:=Option.bind_eq_some_iff.1 h
  obtain ⟨r3,h,h4⟩:=Option.bind_eq_some_iff.1 h
  obtain ⟨r2,h,h3⟩:=Option.bind_eq_some_iff.1 h
  obtain ⟨r1,h1,h2⟩:=Option.bind_eq_some_iff.1 h
  obtain ⟨b,hb,rfl⟩:=pEx_some.1 h1
  obtain ⟨c,hc,rfl⟩:=pTe_some.1 h2
  obtain ⟨d,hd,rfl⟩:=pEx_some.1 h3
  obtain ⟨e,he,rfl⟩:=pTe_some.1 h4
  obtain ⟨f,hf,rfl⟩:=pEx_some.1 h5
  exact ⟨b,c,d,e,f,hb,hc,hd,he,hf,rfl⟩
 ·rintro ⟨b,c,d,e,f,hb,hc,hd,he,hf,rfl⟩
  show ((((pEx opW (b :: c :: d :: e :: f :: q)).bind pTe).bind (pEx cmW)).bind pTe).bind (pEx clW) = some q
  rw [pEx_some.2 ⟨b,hb,rfl⟩,Option.bind_some,pTe_some.2 ⟨c,hc,rfl⟩,Option.bind_some,pEx_some.2 ⟨d,hd,rfl⟩,Option.bind_some,pTe_some.2 ⟨e,he,rfl⟩,Option.bind_some,pEx_some.2 ⟨f,hf,rfl⟩]
theorem pAtom_some {l q : List ByteArray} : pAtom l = some q ↔ ∃ p,raB p = true ∧ l = p ++ q:=by
 constructor
 ·intro h
  cases l with
  | nil=>simp [pAtom,hdB,pTe] at h
  | cons a r =>
   rw [pAtom_cons] at h
   by_cases h1 : eqW a empW = true
   ·rw [if_pos h1] at h; simp only [Option.some.injEq] at h; subst h; exact ⟨[a],h1,rfl⟩
   ·rw [if_neg h1] at h
    by_cases h2 : eqW a lsW = true
    ·rw [if_pos h2] at h
     obtain ⟨b,c,d,e,f,hb,hc,hd,he,hf,rfl⟩:=pLi_some.1 h
     exact ⟨[a,b,c,d,e,f],by simp [raB,h2,hb,hc,hd,he,hf],rfl⟩
    ·rw [if_neg h2] at h
     obtain ⟨r2,h,h5⟩:=Option.bind_eq_some_iff.1 h
     obtain ⟨r1,h3,h4⟩:=Option.bind_eq_some_iff.1 h
     by_cases h6 : nameB a = true
     ·rw [if_pos h6] at h3
      simp only [Option.some.injEq] at h3
      subst h3
      obtain ⟨b,hb,rfl⟩:=pRel_some.1 h4
      obtain ⟨c,hc,rfl⟩:=pTe_some.1 h5
      exact ⟨[a,b,c],by simp only [raB,h6,hc,Bool.true_and]; exact hb,rfl⟩
     ·rw [if_neg h6] at h3; cases h3
 ·rintro ⟨p,hp,rfl⟩
  match p,hp with
  | [a],hp=>show pAtom (a :: q) = some q; rw [pAtom_cons,if_pos (show eqW a empW = true from hp)]
  | [a,b,c],hp =>
   simp only [raB,Bool.and_eq_true] at hp
   show pAtom (a :: b :: c :: q) = some q
   have h1 : ¬ eqW a empW = true:=fun h=>by rw [name_emp h] at hp; simp at hp
   have h2 : ¬ eqW a lsW = true:=fun h=>by rw [name_ls h] at hp; simp at hp
   rw [pAtom_cons,if_neg h1,if_neg h2,if_pos hp.1.1,Option.bind_some,pRel_some.2 ⟨b,hp.2,rfl⟩,Option.bind_some,pTe_some.2 ⟨c,hp.1.2,rfl⟩]
  | [a,b,c,d,e,f],hp =>
   simp only [raB,Bool.and_eq_true] at hp
   obtain ⟨⟨⟨⟨ha,hb⟩,hd⟩,hf⟩,hc,he⟩:=hp
   show pAtom (a :: b :: c :: d :: e :: f :: q) = some q
   have h1 : ¬ eqW a empW = true:=fun h=>by
    have e1 : a.toList = [101,109,112]:=by simpa [eqW,empW_l] using h
    have e2 : a.toList = [108,115]:=by simpa [eqW,lsW_l] using ha
    rw [e1] at e2; simp at e2
   rw [pAtom_cons,if_neg h1,if_pos ha]
   exact pLi_some.2 ⟨b,c,d,e,f,hb,hc,hd,he,hf,rfl⟩
end Go.Proofs.YtciihepbeacppaaGreat
